import PyProof.Rows.All
import Wide.All
import OpenK.AllK
import Wide.FinOn
import PyProof.EqLayable
import HandS.Text
import HandS.ForMost
import HandS.Wide
import HandS.Star
import HandS.TupAny
import HandS.IsInst
import HandS.Deep
import HandS.TupSets
import HandS.Style
import HandS.Lambda
import HandS.Exc
import HandS.Iter
import HandS.Zip
import KE.GoesMore
import HandS.ExcOwn
import HandS.Slots
import KE.KSortKeySt
import HandS.NamedTupSort
import HandS.TupMul
import HandS.Conv
import HandS.More
import HandS.Dict
import HandS.WordsDict
import PyProof.MaxThree
import HandS.Strs
import HandS.NoneIn
import HandS.SetFor
import KE.GoesEnumKw
import HandS.FStr
import HandS.Flow
import HandS.Steps
import HandS.RaiseMore
import KE.KExcIs
import HandS.ExcIs
import HandS.ExcValue
import HandS.WordsExc
import HandS.TryOnly
import PyProof.LongRange
import HandS.ExcInit
import HandS.Nested
import KE.KExcSuper
import HandS.ExcSuper
import PyProof.P3Eq
import HandS.EndTab
import PySem.Challenge.RW_heldwrites_k42_programs_with_fences
set_option Elab.async false
set_option linter.all false
set_option maxRecDepth 100000
set_option maxHeartbeats 8000000
set_option exponentiation.threshold 500
/-! A small language of values: what an expression, a statement, a def of the program does, as plain functions over data and a store of lists. -/
namespace DL
open PySem

/-- a value: a tuple is its items; a list is a place in the store -/
inductive D where
  | non | bl (b : Bool) | int (i : Int) | str (x : Str) | tup (ds : List D) | rf (n : Nat)
  /-- a list that never changes (the script) -/
  | cl (ds : List D)
  /-- a dict of the store -/
  | dr (n : Nat)
  /-- another thing of the store: an instance, an exception that was caught -/
  | ob (n : Nat)
abbrev DKey := Sum Int Str
/-- other things: an exception that was caught, an instance: by the class's name, with its fields -/
inductive Oth where
  | exn (c : Str) (fs : List (Str × D))
  | ins (c : Str) (fs : List (Str × D))
inductive Cell where
  | lst (ds : List D)
  /-- a dict: its keys ints and texts; lk: while it is walked -/
  | dct (lk : Bool) (kvs : List (DKey × D))
  | oth (o : Oth)
abbrev Store := List Cell
inductive Res (α : Type) where
  | stuck | ok (a : α) (st : Store) | exc (c : Str) (a : D) (st : Store)
abbrev M (α : Type) := Store → Res α
abbrev Env := List (Option D)
def ret {α : Type} (a : α) : M α := fun st => .ok a st
def bad {α : Type} : M α := fun _ => .stuck
def andThen {α β : Type} (m : M α) (f : α → M β) : M β := fun st =>
  match m st with
  | .ok a st' => f a st'
  | .exc c a st' => .exc c a st'
  | .stuck => .stuck
abbrev SZ : Nat := 16777216

abbrev GE := Env → M D
abbrev GT := Env → M Bool
abbrev GA := Env → M (List D)
inductive Fl where
  | nx (ρ : Env) | rt (d : D) | bk (ρ : Env) | ct (ρ : Env)
abbrev GS := Env → M Fl
abbrev GF := List D → M D

/-! ### reading the store -/
def cellItems (st : Store) (n : Nat) : Option (List D) :=
  match st[n]? with
  | some (.lst ds) => some ds
  | _ => none
def optAll {α : Type} : List (Option α) → Option (List α)
  | [] => some []
  | none :: _ => none
  | some a :: r => (optAll r).map (a :: ·)
def toPy : Nat → Store → D → Option PyData
  | 0, _, _ => none
  | _ + 1, _, .non => some .none
  | _ + 1, _, .bl b => some (.bool b)
  | _ + 1, _, .int i => some (.int i)
  | _ + 1, _, .str x => some (.str x)
  | f + 1, st, .tup ds => (optAll (ds.map (toPy f st))).map .tuple
  | f + 1, st, .rf n => (cellItems st n).bind fun ds => (optAll (ds.map (toPy f st))).map .list
  | _ + 1, _, .cl _ => none
  | _ + 1, _, .dr _ => none
  | _ + 1, _, .ob _ => none
abbrev DEEP : Nat := 12

/-! ### operators, by values -/
def flat : D → Bool
  | .non => true | .bl _ => true | .int _ => true | .str _ => true | _ => false
def eqF : D → D → Bool
  | .non, .non => true
  | .bl a, .bl b => a == b
  | .bl a, .int b => (if a then 1 else 0) == b
  | .int a, .bl b => a == (if b then 1 else 0)
  | .int a, .int b => a == b
  | .str a, .str b => a == b
  | _, _ => false
abbrev O2 := D → D → M D
def newList (ds : List D) : M D := fun st => .ok (.rf st.length) (st ++ [.lst ds])
def vAdd : O2
  | .int a, .int b => ret (.int (a + b))
  | .str a, .str b => if a.length + b.length ≤ SZ then ret (.str (a ++ b)) else bad
  | .tup a, .tup b => if a.length + b.length ≤ SZ then ret (.tup (a ++ b)) else bad
  | .rf n, .rf m => fun st => match st[n]?, st[m]? with
    | some (.lst a), some (.lst b) => if a.length + b.length ≤ SZ then newList (a ++ b) st else .stuck
    | _, _ => .stuck
  | _, _ => bad
def vSub : O2
  | .int a, .int b => ret (.int (a - b))
  | _, _ => bad
def mulOk (i j : Int) : Bool := decide (i.natAbs < 2 ^ 64) || decide (j.natAbs < 2 ^ 64) || (decide (i.natAbs < 2 ^ 400) && decide (j.natAbs < 2 ^ 400))
def vMul : O2
  | .int a, .int b => if mulOk a b = true then ret (.int (a * b)) else bad
  | _, _ => bad
def vDiv : O2
  | .int a, .int b => if 0 < b ∧ b.natAbs < 2 ^ 400 then ret (.int (a / b)) else bad
  | _, _ => bad
def vMod : O2
  | .int a, .int b => if 0 < b then ret (.int (a % b)) else bad
  | _, _ => bad
def vShr : O2
  | .int a, .int b => if 0 ≤ b then ret (.int (a / 2 ^ b.toNat)) else bad
  | _, _ => bad
def vCmp (f : Int → Int → Bool) : O2
  | .int a, .int b => ret (.bl (f a b))
  | _, _ => bad
def vLt : O2 := vCmp fun a b => decide (a < b)
def vLe : O2 := vCmp fun a b => decide (a ≤ b)
def vGt : O2 := vCmp fun a b => decide (b < a)
def vGe : O2 := vCmp fun a b => decide (b ≤ a)
def eqPy (a b : D) : Store → Option Bool := fun st =>
  match toPy DEEP st a, toPy DEEP st b with
  | some p, some q => if (SeqAt.shaped p && SeqAt.shaped q) = true then some (PyData.eqv p q) else none
  | _, _ => none
def vEq : O2 := fun a b st => match eqPy a b st with
  | some k => .ok (.bl k) st
  | none => .stuck
def vNe : O2 := fun a b st => match eqPy a b st with
  | some k => .ok (.bl (!k)) st
  | none => .stuck
/-- is, is not: with None, True, False -/
def isB : D → D → Option Bool
  | .non, .non => some true
  | .bl a, .bl b => some (a == b)
  | .bl _, .non => some false
  | .int _, .non => some false
  | .str _, .non => some false
  | .tup _, .non => some false
  | .rf _, .non => some false
  | .cl _, .non => some false
  | .dr _, .non => some false
  | .ob _, .non => some false
  | _, _ => none
def vIs : O2 := fun a b => match isB a b with
  | some k => ret (.bl k)
  | none => bad
def vIsNot : O2 := fun a b => match isB a b with
  | some k => ret (.bl (!k))
  | none => bad
def inB (x y : D) : Store → Option Bool := fun st => match y with
  | .tup ds => if (flat x && ds.all flat) = true then some (ds.any fun z => eqF z x) else none
  | .rf n => match toPy DEEP st x, toPy DEEP st (.rf n) with
    | some p, some (.list qs) => if (SeqAt.shaped p && SeqAt.shaped (.list qs)) = true then some (qs.any fun z => PyData.eqv z p) else none
    | _, _ => none
  | _ => none
def vIn : O2 := fun a b st => match inB a b st with
  | some k => .ok (.bl k) st
  | none => .stuck
def vNotIn : O2 := fun a b st => match inB a b st with
  | some k => .ok (.bl (!k)) st
  | none => .stuck
def ixOf (n : Nat) (i : Int) : Option Nat := if 0 ≤ i then (if i < n then some i.toNat else none) else if -(n : Int) ≤ i then some (i + n).toNat else none
def atD {α : Type} (xs : List α) (i : Int) : Option α := (ixOf xs.length i).bind fun j => xs[j]?
def vIx : O2
  | .tup ds, .int i => match atD ds i with
    | some d => ret d
    | none => bad
  | .rf n, .int i => fun st => match (cellItems st n).bind fun ds => atD ds i with
    | some d => .ok d st
    | none => .stuck
  | .str x, .int i => if x.length ≤ SZ then match atD x.cps.toList i with
    | some c => ret (.str ⟨#[c]⟩)
    | none => bad else bad
  | _, _ => bad
def vNeg : D → M D
  | .int a => ret (.int (-a))
  | _ => bad
def vAbs : D → M D
  | .int i => ret (.int (if i < 0 then -i else i))
  | _ => bad
def vUpper : D → M D
  | .str x => if x.length ≤ 1000 then ret (.str (Txt.upper x)) else bad
  | _ => bad
def vInt : D → M D
  | .int i => ret (.int i)
  | .bl k => ret (.int (if k then 1 else 0))
  | _ => bad
def vLen : D → M D
  | .tup ds => ret (.int ds.length)
  | .rf n => fun st => match cellItems st n with
    | some ds => .ok (.int ds.length) st
    | none => .stuck
  | .str x => if x.length ≤ SZ then ret (.int x.length) else bad
  | _ => bad
def tru : D → Store → Option Bool
  | .non, _ => some false
  | .bl b, _ => some b
  | .int i, _ => some (i != 0)
  | .str x, _ => if x.length ≤ SZ then some ((x.length : Int) != 0) else none
  | .tup ds, _ => some (!ds.isEmpty)
  | .rf n, st => (cellItems st n).map fun ds => !ds.isEmpty
  | .cl _, _ => none
  | .dr _, _ => none
  | .ob _, _ => none
inductive Ty where
  | int | bool | str | tuple | list
def isTy : Ty → D → Bool
  | .int, .int _ => true
  | .int, .bl _ => true
  | .bool, .bl _ => true
  | .str, .str _ => true
  | .tuple, .tup _ => true
  | .list, .rf _ => true
  | _, _ => false
def vIsi (t : Ty) : D → M D
  | .rf n => fun st => match cellItems st n with
    | some _ => .ok (.bl (isTy t (.rf n))) st
    | none => .stuck
  | .cl _ => bad
  | .dr _ => bad
  | .ob _ => bad
  | d => ret (.bl (isTy t d))
/-- tuple(x), of a tuple or of a list; list(x) -/
def vTuple : D → M D
  | .tup ds => ret (.tup ds)
  | .rf n => fun st => match cellItems st n with
    | some ds => .ok (.tup ds) st
    | none => .stuck
  | _ => bad
/-- what list(x) holds -/
def vItems : D → M (List D)
  | .tup ds => ret ds
  | .rf n => fun st => match cellItems st n with
    | some ds => .ok ds st
    | none => .stuck
  | _ => bad
def sIx (n d : Nat) : Option Int → Nat
  | none => d
  | some v => if v < 0 then (v + (n : Int)).toNat else min v.toNat n
def cutD {α : Type} (xs : List α) (lo hi : Option Int) : List α := (xs.drop (sIx xs.length 0 lo)).take (sIx xs.length xs.length hi - sIx xs.length 0 lo)
def asInt : D → M Int
  | .int i => ret i
  | _ => bad

/-! ### expressions -/
def gVar (i : Nat) : GE := fun ρ st => match ρ[i]? with
  | some (some d) => .ok d st
  | _ => .stuck
def gC (d : D) : GE := fun _ => ret d
def gOp (h : O2) (a b : GE) : GE := fun ρ => andThen (a ρ) fun x => andThen (b ρ) fun y => h x y
def gUn (h : D → M D) (a : GE) : GE := fun ρ => andThen (a ρ) h
def gNil : GA := fun _ => ret []
def gCons (a : GE) (r : GA) : GA := fun ρ => andThen (a ρ) fun x => andThen (r ρ) fun xs => ret (x :: xs)
/-- a star: *x, x a tuple or a list -/
def gStar (a : GE) (r : GA) : GA := fun ρ => andThen (a ρ) fun x => andThen (vItems x) fun xs => andThen (r ρ) fun ys => ret (xs ++ ys)
def small (ds : List D) : M (List D) := if ds.length ≤ SZ then ret ds else bad
def gTup (a : GA) : GE := fun ρ => andThen (a ρ) fun ds => andThen (small ds) fun ds => ret (.tup ds)
/-- a new list, of a reading that gives what it holds -/
def gNew (a : GA) : GE := fun ρ => andThen (a ρ) newList
def gLst (a : GA) : GA := fun ρ => andThen (a ρ) small
def asB : D → M Bool
  | .bl b => ret b
  | _ => bad
/-- a value that is True or False, as a test; any value, by its truth -/
def tB (a : GE) : GT := fun ρ => andThen (a ρ) asB
def tTru (a : GE) : GT := fun ρ => andThen (a ρ) fun d st => match tru d st with
  | some b => .ok b st
  | none => .stuck
def tNot (t : GT) : GT := fun ρ => andThen (t ρ) fun b => ret (!b)
def tAnd (t u : GT) : GT := fun ρ => andThen (t ρ) fun b => if b = true then u ρ else ret false
def tOr (t u : GT) : GT := fun ρ => andThen (t ρ) fun b => if b = true then ret true else u ρ
def gNot (a : GE) : GE := fun ρ => andThen (tB a ρ) fun b => ret (.bl (!b))
def gAnd (a b : GE) : GE := fun ρ => andThen (tB a ρ) fun k => if k = true then b ρ else ret (.bl false)
def gOr (a b : GE) : GE := fun ρ => andThen (tB a ρ) fun k => if k = true then ret (.bl true) else b ρ
def gIf (t : GT) (a b : GE) : GE := fun ρ => andThen (t ρ) fun k => if k = true then a ρ else b ρ
def gChain (h h' : O2) (a b c : GE) : GE := fun ρ => andThen (a ρ) fun x => andThen (b ρ) fun y => andThen (h x y) fun z => andThen (asB z) fun k =>
  if k = true then andThen (c ρ) fun w => h' y w else ret (.bl false)
def oNone : Env → M (Option Int) := fun _ => ret none
def oSome (a : GE) : Env → M (Option Int) := fun ρ => andThen (a ρ) fun d => andThen (asInt d) fun i => ret (some i)
/-- x[lo:hi] of a tuple, of a text, of a list -/
def cutS (z : Str) (lo hi : Option Int) : Str := ⟨(cutD z.cps.toList lo hi).toArray⟩
def vSl : D → Option Int → Option Int → M D
  | .tup ds, l, u => ret (.tup (cutD ds l u))
  | .str z, l, u => if z.length ≤ SZ then ret (.str (cutS z l u)) else bad
  | .rf n, l, u => fun st => match cellItems st n with
    | some ds => newList (cutD ds l u) st
    | none => .stuck
  | _, _, _ => bad
def gSl (a : GE) (lo hi : Env → M (Option Int)) : GE := fun ρ => andThen (a ρ) fun x => andThen (lo ρ) fun l => andThen (hi ρ) fun u => vSl x l u
def gList (a : GE) : GA := fun ρ => andThen (a ρ) vItems
/-- tuple(..), all(..), any(..), len(..), of a list made on the spot -/
def gTupOf (a : GA) : GE := fun ρ => andThen (a ρ) fun ds => ret (.tup ds)
def bools : List D → Option (List Bool)
  | [] => some []
  | .bl b :: r => (bools r).map (b :: ·)
  | _ :: _ => none
def gAll (a : GA) : GE := fun ρ => andThen (a ρ) fun ds => match bools ds with
  | some bs => ret (.bl (bs.all id))
  | none => bad
def gAny (a : GA) : GE := fun ρ => andThen (a ρ) fun ds => match bools ds with
  | some bs => ret (.bl (bs.any id))
  | none => bad
/-- [..][i], of a list made on the spot -/
def gIxL (a : GA) (i : GE) : GE := fun ρ => andThen (a ρ) fun ds => andThen (i ρ) fun x => andThen (asInt x) fun k => match atD ds k with
  | some d => ret d
  | none => bad
def gCall (f : GF) (a : GA) : GE := fun ρ => andThen (a ρ) f

/-! ### targets, walks, statements -/
abbrev GG := D → Env → M Env
def gName (i : Nat) : GG := fun d ρ => ret (ρ.set i (some d))
abbrev GGs := List D → Env → M Env
def ggNil : GGs := fun ds ρ => match ds with
  | [] => ret ρ
  | _ => bad
def ggCons (g : GG) (r : GGs) : GGs := fun ds ρ => match ds with
  | d :: ds => andThen (g d ρ) fun ρ' => r ds ρ'
  | [] => bad
def gUnpack (n : Nat) (r : GGs) : GG := fun d ρ => match d with
  | .tup ds => if ds.length = n then r ds ρ else bad
  | _ => bad
/-- what a for walks: the items, and what must hold of the store as long as it walks -/
structure Walk where
  items : List D
  guard : Store → Prop
abbrev GI := Env → M Walk
def wTup (a : GE) : GI := fun ρ => andThen (a ρ) fun x => match x with
  | .tup ds => ret ⟨ds, fun _ => True⟩
  | _ => bad
def wList (a : GE) : GI := fun ρ => andThen (a ρ) fun x => match x with
  | .rf n => fun st => match cellItems st n with
    | some ds => .ok ⟨ds, fun st' => cellItems st' n = some ds⟩ st
    | none => .stuck
  | _ => bad
/-- a tuple, or a list of the store -/
def wSeq (a : GE) : GI := fun ρ => andThen (a ρ) fun x => match x with
  | .tup ds => ret ⟨ds, fun _ => True⟩
  | .cl ds => ret ⟨ds, fun _ => True⟩
  | .rf n => fun st => match cellItems st n with
    | some ds => .ok ⟨ds, fun st' => cellItems st' n = some ds⟩ st
    | none => .stuck
  | _ => bad
/-- a list made on the spot -/
def wNew (a : GA) : GI := fun ρ => andThen (a ρ) fun ds => ret ⟨ds, fun _ => True⟩
def upTo (n : Nat) : List D := (List.range n).map fun (k : Nat) => D.int k
def fromTo (lo : Int) (n : Nat) : List D := (List.range n).map fun (k : Nat) => D.int (lo + k)
def smallI (i : Int) : Bool := decide (-(2 ^ 62) ≤ i) && decide (i < 2 ^ 62)
def wRange (a : GE) : GI := fun ρ => andThen (a ρ) fun x => andThen (asInt x) fun j => if smallI j = true then ret ⟨fromTo 0 j.toNat, fun _ => True⟩ else bad
def wRange2 (a b : GE) : GI := fun ρ => andThen (a ρ) fun x => andThen (b ρ) fun y => andThen (asInt x) fun i => andThen (asInt y) fun j =>
  if (smallI i && smallI j) = true then ret ⟨fromTo i (j - i).toNat, fun _ => True⟩ else bad
open Classical in
noncomputable def walkC (gd : Store → Prop) (m : Store → Res α) : Store → Res α := fun st => if gd st then m st else .stuck
noncomputable def gLoop (gd : Store → Prop) (g : GG) (b : GS) : List D → Env → M Fl
  | [], ρ => walkC gd (ret (.nx ρ))
  | d :: ds, ρ => walkC gd (andThen (g d ρ) fun ρ1 => andThen (b ρ1) fun f => match f with
    | .nx ρ2 => gLoop gd g b ds ρ2
    | .ct ρ2 => gLoop gd g b ds ρ2
    | .bk ρ2 => ret (.nx ρ2)
    | .rt d => ret (.rt d))
noncomputable def gFor (w : GI) (g : GG) (b : GS) : GS := fun ρ => andThen (w ρ) fun k => gLoop k.guard g b k.items ρ
def gNext : GS := fun ρ => ret (.nx ρ)
def gBreak : GS := fun ρ => ret (.bk ρ)
def gCont : GS := fun ρ => ret (.ct ρ)
def gStuck : GS := fun _ => bad
def gSeq (a b : GS) : GS := fun ρ => andThen (a ρ) fun f => match f with
  | .nx ρ' => b ρ'
  | f => ret f
def gDrop (a : GE) : GS := fun ρ => andThen (a ρ) fun _ => ret (.nx ρ)
def gRet (a : GE) : GS := fun ρ => andThen (a ρ) fun d => ret (.rt d)
def gRetN : GS := fun _ => ret (.rt .non)
def gIfS (t : GT) (a b : GS) : GS := fun ρ => andThen (t ρ) fun k => if k = true then a ρ else b ρ
def gAsg (a : GE) (g : GG) : GS := fun ρ => andThen (a ρ) fun d => andThen (g d ρ) fun ρ' => ret (.nx ρ')
/-- xs[i] = e: e first -/
def vSet (o i v : D) : M Unit := fun st => match o, i with
  | .rf n, .int k => match st[n]? with
    | some (.lst ds) => match ixOf ds.length k with
      | some j => .ok () (st.set n (.lst (ds.set j v)))
      | none => .stuck
    | _ => .stuck
  | _, _ => .stuck
def gSet (e o i : GE) : GS := fun ρ => andThen (e ρ) fun v => andThen (o ρ) fun x => andThen (i ρ) fun y => andThen (vSet x y v) fun _ => ret (.nx ρ)
/-- xs.append(e) -/
def vApp (o v : D) : M D := fun st => match o with
  | .rf n => match st[n]? with
    | some (.lst ds) => if ds.length < SZ then .ok .non (st.set n (.lst (ds ++ [v]))) else .stuck
    | _ => .stuck
  | _ => .stuck
def gApp (o e : GE) : GE := fun ρ => andThen (o ρ) fun x => andThen (e ρ) fun v => vApp x v
/-- [e for target in walk if test], what it holds; vs: its own names -/
def wipeE (ρ : Env) : List Nat → Env
  | [] => ρ
  | v :: vs => (wipeE ρ vs).set v none
noncomputable def gComp (gd : Store → Prop) (g : GG) (t : GT) (e : GE) (ρ : Env) : List D → M (List D)
  | [] => walkC gd (ret [])
  | d :: ds => walkC gd (andThen (g d ρ) fun ρ1 => andThen (t ρ1) fun b =>
    if b = true then andThen (e ρ1) fun x => andThen (gComp gd g t e ρ ds) fun xs => ret (x :: xs) else gComp gd g t e ρ ds)
noncomputable def gLc (w : GI) (g : GG) (t : GT) (e : GE) (vs : List Nat) : GA := fun ρ => andThen (w ρ) fun k => andThen (gComp k.guard g t e (wipeE ρ vs) k.items) small
def tYes : GT := fun _ => ret true
def startE (n : Nat) (ds : List D) : Env := ds.map some ++ List.replicate (n - ds.length) none
/-- a def of np parameters and n names -/
def gFn (np n : Nat) (b : GS) : GF := fun ds => if ds.length = np then andThen (b (startE n ds)) fun f => match f with
  | .nx _ => ret .non
  | .rt d => ret d
  | _ => bad else bad
end DL
/-! More of the language of values. -/
namespace DL
open PySem
def enumD (ds : List D) : List D := ds.mapIdx fun i d => D.tup [.int (i : Nat), d]
def zipD (xs ys : List D) : List D := List.zipWith (fun x y => D.tup [x, y]) xs ys
def wEnum (a : GE) : GI := fun ρ => andThen (a ρ) fun x => match x with
  | .tup ds => ret ⟨enumD ds, fun _ => True⟩
  | .rf n => fun st => match cellItems st n with
    | some ds => .ok ⟨enumD ds, fun st' => cellItems st' n = some ds⟩ st
    | none => .stuck
  | _ => bad
def wZip (a b : GE) : GI := fun ρ => andThen (a ρ) fun x => andThen (b ρ) fun y => match x, y with
  | .tup xs, .tup ys => ret ⟨zipD xs ys, fun _ => True⟩
  | .rf n, .rf m => fun st => match cellItems st n, cellItems st m with
    | some xs, some ys => .ok ⟨zipD xs ys, fun st' => cellItems st' n = some xs ∧ cellItems st' m = some ys⟩ st
    | _, _ => .stuck
  | _, _ => bad
/-- sorted(.., key=lambda x: x[k]): items that are tuples, their keys unlike ints -/
def keyD (k : Int) : D → Option Int
  | .tup es => match es[k.toNat]? with
    | some (.int n) => some n
    | _ => none
  | _ => none
def keysD (k : Int) (ds : List D) : Option (List Int) := optAll (ds.map (keyD k))
def sortZ (l : List (Int × D)) : List (Int × D) := l.mergeSort fun a b => decide (a.1 ≤ b.1)
def sortKD (k : Int) (ds : List D) : M (List D) := match keysD k ds with
  | some kz => if kz.Nodup then ret ((sortZ (kz.zip ds)).map Prod.snd) else bad
  | none => bad
def gSortK (k : Int) (a : GA) : GA := fun ρ => andThen (a ρ) (sortKD k)
/-- sorted of ints -/
def intsD (ds : List D) : Option (List Int) := optAll (ds.map fun d => match d with | .int n => some n | _ => none)
def sortI (l : List Int) : List Int := l.mergeSort fun a b => decide (a ≤ b)
def sortID (ds : List D) : M (List D) := match intsD ds with
  | some ns => ret ((sortI ns).map D.int)
  | none => bad
def gSortI (a : GA) : GA := fun ρ => andThen (a ρ) sortID
/-- sorted of tuples of ints, none empty -/
def lexLe : List Int → List Int → Bool
  | [], _ => true
  | _ :: _, [] => false
  | x :: xs, y :: ys => if x = y then lexLe xs ys else decide (x < y)
def tupsD (ds : List D) : Option (List (List Int)) := optAll (ds.map fun d => match d with | .tup es => (intsD es).bind fun ns => if ns.isEmpty then none else some ns | _ => none)
def sortT (l : List (List Int)) : List (List Int) := l.mergeSort lexLe
def sortTD (ds : List D) : M (List D) := match tupsD ds with
  | some nss => ret ((sortT nss).map fun ns => D.tup (ns.map D.int))
  | none => bad
def gSortT (a : GA) : GA := fun ρ => andThen (a ρ) sortTD
/-- sorted: of ints, or of tuples of ints -/
def sortD (ds : List D) : M (List D) := match intsD ds with
  | some ns => ret ((sortI ns).map D.int)
  | none => match tupsD ds with
    | some nss => ret ((sortT nss).map fun ns => D.tup (ns.map D.int))
    | none => sortKD 0 ds
def gSort (a : GA) : GA := fun ρ => andThen (a ρ) sortD
/-- what a list holds, read -/
def vSeen : D → M (List D)
  | .rf n => fun st => match cellItems st n with
    | some ds => .ok ds st
    | none => .stuck
  | .cl ds => ret ds
  | _ => bad
def gSeen (a : GE) : GA := fun ρ => andThen (a ρ) vSeen
/-- a tuple or a list, some times -/
def vRep : O2
  | .tup ds, .int k => if (!ds.isEmpty && decide (1 ≤ k) && decide (k ≤ 1000) && decide (ds.length ≤ 1000)) = true then ret (.tup (List.replicate k.toNat ds).flatten) else bad
  | .rf n, .int k => fun st => match cellItems st n with
    | some ds => if (decide (0 ≤ k) && decide (k ≤ 1000000) && decide (ds.length * k.toNat ≤ SZ)) = true then newList (List.replicate k.toNat ds).flatten st else .stuck
    | none => .stuck
  | _, _ => bad
/-- tuple(range(n)) -/
def vTupRg : D → M D
  | .int n => if smallI n = true ∧ n ≤ 1000000 then ret (.tup (fromTo 0 n.toNat)) else bad
  | _ => bad
def vMax : O2
  | .int i, .int j => ret (.int (if j > i then j else i))
  | _, _ => bad
def vMin : O2
  | .int i, .int j => ret (.int (if j < i then j else i))
  | _, _ => bad
def vDivmod : O2
  | .int i, .int j => if 0 < j ∧ j < 1073741824 then ret (.tup [.int (i / j), .int (i % j)]) else bad
  | _, _ => bad
/-- a built-in of two arguments -/
def gTwo (h : O2) (a b : GE) : GE := gOp h a b
def isTL : D → Bool
  | .tup _ => true
  | .rf _ => true
  | _ => false
/-- isinstance(x, (list, tuple)) -/
def vIsiTL : D → M D
  | .rf n => fun st => match cellItems st n with
    | some _ => .ok (.bl true) st
    | none => .stuck
  | .cl _ => bad
  | .dr _ => bad
  | .ob _ => bad
  | d => ret (.bl (isTL d))
/-- xs.insert(i, e), xs.pop(), xs.reverse() -/
def vIns (o i v : D) : M D := fun st => match o, i with
  | .rf n, .int k => match st[n]? with
    | some (.lst ds) => if (decide (0 ≤ k) && decide (k < 2 ^ 63) && decide (ds.length < SZ)) = true then .ok .non (st.set n (.lst (ds.take k.toNat ++ [v] ++ ds.drop k.toNat))) else .stuck
    | _ => .stuck
  | _, _ => .stuck
def gIns (o i e : GE) : GE := fun ρ => andThen (o ρ) fun x => andThen (i ρ) fun k => andThen (e ρ) fun v => vIns x k v
def vPop (o : D) : M D := fun st => match o with
  | .rf n => match st[n]? with
    | some (.lst ds) => match ds[ds.length - 1]? with
      | some y => .ok y (st.set n (.lst ds.dropLast))
      | none => .stuck
    | _ => .stuck
  | _ => .stuck
def vReverse (o : D) : M D := fun st => match o with
  | .rf n => match st[n]? with
    | some (.lst ds) => .ok .non (st.set n (.lst ds.reverse))
    | _ => .stuck
  | _ => .stuck
end DL
/-! Dicts of the store; further lists. -/
namespace DL
open PySem
def kD : D → Option DKey
  | .int i => some (.inl i)
  | .str x => some (.inr x)
  | _ => none
def dK : DKey → D
  | .inl i => .int i
  | .inr x => .str x
abbrev Ents := List (DKey × D)
def getD' (kvs : Ents) (k : DKey) : Option D := (kvs.find? fun p => decide (p.1 = k)).map (·.2)
def putD' (kvs : Ents) (k : DKey) (v : D) : Ents := if (kvs.any fun p => decide (p.1 = k)) = true then kvs.map (fun p => if p.1 = k then (p.1, v) else p) else kvs ++ [(k, v)]
def dropD' (kvs : Ents) (k : DKey) : Ents := kvs.filter fun p => decide (p.1 ≠ k)
def cellDict (st : Store) (n : Nat) : Option Ents := match st[n]? with
  | some (.dct _ kvs) => some kvs
  | _ => none
def gDNew : GE := fun _ st => .ok (.dr st.length) (st ++ [.dct false []])
/-- what a dict holds at a key -/
def dLook (d k : D) (st : Store) : Option (Option D) := match d with
  | .dr n => match cellDict st n, kD k with
    | some kvs, some kk => some (getD' kvs kk)
    | _, _ => none
  | _ => none
def vIxD : O2 := fun d k st => match dLook d k st with
  | some (some v) => .ok v st
  | _ => .stuck
def vInD : O2 := fun k d st => match dLook d k st with
  | some o => .ok (.bl o.isSome) st
  | none => .stuck
def vNotInD : O2 := fun k d st => match dLook d k st with
  | some o => .ok (.bl (!o.isSome)) st
  | none => .stuck
def vSetD (d k v : D) : M Unit := fun st => match d with
  | .dr n => match st[n]?, kD k with
    | some (.dct false kvs), some kk => if kvs.length < SZ then .ok () (st.set n (.dct false (putD' kvs kk v))) else .stuck
    | _, _ => .stuck
  | _ => .stuck
def gSetD (e o i : GE) : GS := fun ρ => andThen (e ρ) fun v => andThen (o ρ) fun x => andThen (i ρ) fun y => andThen (vSetD x y v) fun _ => ret (.nx ρ)
def vLenD : D → M D := fun d st => match d with
  | .dr n => match st[n]? with
    | some (.dct false kvs) => .ok (.int kvs.length) st
    | _ => .stuck
  | _ => .stuck
/-- d.get(k, e) -/
def isDict (d : D) : M Unit := fun st => match d with
  | .dr n => match cellDict st n with
    | some _ => .ok () st
    | none => .stuck
  | _ => .stuck
def gGet2 (o k e : GE) : GE := fun ρ => andThen (o ρ) fun d => andThen (isDict d) fun _ => andThen (k ρ) fun y => andThen (e ρ) fun z st => match dLook d y st with
  | some o => .ok (o.getD z) st
  | none => .stuck
/-- d.pop(k) -/
def vPopD (d k : D) : M D := fun st => match d with
  | .dr n => match st[n]?, kD k with
    | some (.dct false kvs), some kk => match getD' kvs kk with
      | some v => .ok v (st.set n (.dct false (dropD' kvs kk)))
      | none => .stuck
    | _, _ => .stuck
  | _ => .stuck
def gPopD (o k : GE) : GE := fun ρ => andThen (o ρ) fun d => andThen (isDict d) fun _ => andThen (k ρ) fun y => vPopD d y
/-- list(d), d a dict that is not walked: its keys -/
def keysOf (kvs : Ents) : List D := kvs.map fun p => dK p.1
def vKeys : D → M (List D) := fun d st => match d with
  | .dr n => match st[n]? with
    | some (.dct false kvs) => .ok (keysOf kvs) st
    | _ => .stuck
  | _ => .stuck
def gKeys (o : GE) : GA := fun ρ => andThen (o ρ) vKeys
/-- [e for x in d if t], d a dict, held fast meanwhile -/
noncomputable def lockC (d : D) (m : (Store → Prop) → List D → M (List D)) : M (List D) := fun st => match d with
  | .dr n => match st[n]? with
    | some (.dct false kvs) => match m (fun st' => st'[n]? = some (.dct true kvs)) (keysOf kvs) (st.set n (.dct true kvs)) with
      | .ok ds st' => match st'[n]? with
        | some (.dct true kvs') => .ok ds (st'.set n (.dct false kvs'))
        | _ => .stuck
      | .stuck => .stuck
      | .exc c a s => .exc c a s
    | _ => .stuck
  | _ => .stuck
noncomputable def gLcK (i : Nat) (g : GG) (t : GT) (e : GE) (vs : List Nat) : GA := fun ρ => match ρ[i]? with
  | some (some d) => lockC d fun gd ks => andThen (gComp gd g t e (wipeE ρ vs) ks) small
  | _ => bad
/-- list(range(a, b)), tuple(range(a, b)) -/
def rgOk (a b : Int) : Bool := smallI a && smallI b && decide ((b - a).toNat ≤ 16777216)
def gListRg (a b : GE) : GA := fun ρ => andThen (a ρ) fun x => andThen (b ρ) fun y => andThen (asInt x) fun i => andThen (asInt y) fun j => if rgOk i j = true then ret (fromTo i (j - i).toNat) else bad
def gTupRg2 (a b : GE) : GE := fun ρ => andThen (gListRg a b ρ) fun ds => ret (.tup ds)
/-- xs.pop(i) -/
def vPopAt (o i : D) : M D := fun st => match o, i with
  | .rf n, .int k => match st[n]? with
    | some (.lst ds) => if 0 ≤ k ∧ k < ds.length ∧ smallI k = true then match ds[k.toNat]? with
        | some y => .ok y (st.set n (.lst (ds.eraseIdx k.toNat)))
        | none => .stuck
      else .stuck
    | _ => .stuck
  | _, _ => .stuck
/-- the keys of a dict that is held fast -/
def wKeysLk (i : Nat) : GI := fun ρ => match ρ[i]? with
  | some (some (.dr n)) => fun st => match st[n]? with
    | some (.dct true kvs) => .ok ⟨keysOf kvs, fun st' => st'[n]? = some (.dct true kvs)⟩ st
    | _ => .stuck
  | _ => bad
/-- while, of at most so many turns -/
def gWhileN (t : GT) (b : GS) : Nat → GS
  | 0 => fun _ => bad
  | m + 1 => fun ρ => andThen (t ρ) fun k => if k = true then andThen (b ρ) fun f => match f with
      | .nx ρ2 => gWhileN t b m ρ2
      | .ct ρ2 => gWhileN t b m ρ2
      | .bk ρ2 => ret (.nx ρ2)
      | .rt d => ret (.rt d)
    else ret (.nx ρ)
def gWhile (t : GT) (b : GS) : GS := gWhileN t b 100000
def vPop0 (o : D) : M D := vPop o
end DL
/-! min of three, isinstance with two kinds, the least of a list. -/
namespace DL
open PySem
def min3 (i j k : Int) : Int := if j < i then (if k < j then k else j) else (if k < i then k else i)
def vMin3 (a b c : D) : M D := match a, b, c with
  | .int i, .int j, .int k => ret (.int (min3 i j k))
  | _, _, _ => bad
def gOp3 (h : D → D → D → M D) (a b c : GE) : GE := fun ρ => andThen (a ρ) fun x => andThen (b ρ) fun y => andThen (c ρ) fun z => h x y z
/-- isinstance(x, (t, u)) -/
def vIsi2 (t u : Ty) : D → M D
  | .rf n => fun st => match cellItems st n with
    | some _ => .ok (.bl (isTy t (.rf n) || isTy u (.rf n))) st
    | none => .stuck
  | .cl _ => bad
  | .dr _ => bad
  | .ob _ => bad
  | d => ret (.bl (isTy t d || isTy u d))
/-- min(xs) -/
def leastZ : List Int → Int
  | [] => 0
  | [n] => n
  | n :: m :: r => if n ≤ leastZ (m :: r) then n else leastZ (m :: r)
def vMinL : D → M D
  | .rf n => fun st => match cellItems st n with
    | some ds => match intsD ds with
      | some ns => if ns = [] then .stuck else .ok (.int (leastZ ns)) st
      | none => .stuck
    | none => .stuck
  | _ => bad
theorem leastZ_mem : ∀ {ns : List Int}, ns ≠ [] → leastZ ns ∈ ns
  | [], h => absurd rfl h
  | [n], _ => by simp [leastZ]
  | n :: m :: r, _ => by
    have ih := leastZ_mem (ns := m :: r) (by simp)
    unfold leastZ
    by_cases c : n ≤ leastZ (m :: r)
    · rw [if_pos c]; simp
    · rw [if_neg c]; exact List.mem_cons_of_mem _ ih
theorem leastZ_le : ∀ {ns : List Int} {y : Int}, y ∈ ns → leastZ ns ≤ y
  | [], _, h => by cases h
  | [n], y, h => by simp at h; subst h; simp [leastZ]
  | n :: m :: r, y, h => by
    have ih := fun z => leastZ_le (ns := m :: r) (y := y) z
    unfold leastZ
    rcases List.mem_cons.mp h with rfl | h
    · split <;> omega
    · have := ih h
      split <;> omega
theorem leastZ_eq {ns : List Int} {m : Int} (h1 : m ∈ ns) (h2 : ∀ y ∈ ns, m ≤ y) : leastZ ns = m := by
  have a := leastZ_mem (ns := ns) (by rintro rfl; cases h1)
  have b := leastZ_le h1
  have c := h2 _ a
  omega
/-- xs.index(y), xs of texts: the first place -/
def strsD (ds : List D) : Option (List Str) := optAll (ds.map fun d => match d with | .str n => some n | _ => none)
def idxS (s : Str) : List Str → Nat → Option Nat
  | [], _ => none
  | x :: r, i => if x = s then some i else idxS s r (i + 1)
def vIndexL (o y : D) : M D := fun st => match o, y with
  | .rf n, .str s => match cellItems st n with
    | some ds => match strsD ds with
      | some ss => match idxS s ss 0 with
        | some i => .ok (.int (i : Nat)) st
        | none => .stuck
      | none => .stuck
    | none => .stuck
  | _, _ => .stuck
def vIndexT (o y : D) : M D := fun st => match o, y with
  | .tup ds, .str s => match strsD ds with
    | some ss => match idxS s ss 0 with
      | some i => .ok (.int (i : Nat)) st
      | none => .stuck
    | none => .stuck
  | _, _ => .stuck
/-- a, b = x, y, names of the def: no tuple is made -/
def gPar (i j : Nat) (a b : GE) : GS := fun ρ => andThen (a ρ) fun x => andThen (b ρ) fun y => ret (.nx ((ρ.set i (some x)).set j (some y)))
/-- a def of one parameter with a star -/
def gFnS (n : Nat) (b : GS) : GF := fun ds => if ds.length ≤ SZ then gFn 1 n b [.tup ds] else bad
end DL
/-! a, b = x: x a tuple or a list. -/
namespace DL
open PySem
def gUnpackA (n : Nat) (r : GGs) : GG := fun d ρ => match d with
  | .tup ds => if ds.length = n then r ds ρ else bad
  | .rf a => fun st => match cellItems st a with
    | some ds => if ds.length = n then r ds ρ st else .stuck
    | none => .stuck
  | _ => bad
end DL
/-! sorted(t), t a tuple of ints. -/
namespace DL
open PySem
def sortTI : D → M (List D)
  | .tup ds => match intsD ds with
    | some ns => ret ((sortI ns).map D.int)
    | none => bad
  | _ => bad
def gSortTI (a : GE) : GA := fun ρ => andThen (a ρ) sortTI
end DL
/-! len(set(t)), t a tuple of unlike ints. -/
namespace DL
open PySem
def vLenSet : D → M D
  | .tup ds => match intsD ds with
    | some ns => if ns.Nodup ∧ ns.length < 64 then ret (.int ns.length) else bad
    | none => bad
  | _ => bad
end DL
/-! enumerate of a list with a start. -/
namespace DL
open PySem
def enumFD (k : Int) (ds : List D) : List D := ds.mapIdx fun i d => D.tup [.int (k + (i : Nat)), d]
def wEnumF (k : Int) (a : GE) : GI := fun ρ => andThen (a ρ) fun x => match x with
  | .rf n => fun st => match cellItems st n with
    | some ds => .ok ⟨enumFD k ds, fun st' => cellItems st' n = some ds⟩ st
    | none => .stuck
  | _ => bad
end DL
/-! The language of values is kept by the machine: representation. -/
namespace DL
open PySem L2

/-! ### how data stands in the heap; ad: where the store's lists stand -/
/-- a list that never changes -/
def SqC (K : PySem.W.Frag) (H : Hp) (a : Addr) (xs : List V) : Prop :=
  (∃ o, H a = some (.frz o (.lst xs))) ∨
    ∃ (o : Obj) (its : Array Value) (n : Nat), K.lookup a = some o ∧ o.cls = .type "list" ∧ o.dict = none ∧ o.data = .seq its n ∧ its.size ≤ sizeLine ∧ Vals xs its.toList
theorem SqC.sql {K : PySem.W.Frag} {H : Hp} {a : Addr} {xs : List V} (h : SqC K H a xs) : SqL K H a xs := by
  rcases h with h | h
  · exact .inl (.inr h)
  · exact .inr h
/-- of what kind a tracked thing is -/
def kindH : Option HO → Nat
  | some (.lst _) => 0
  | some (.dK _) => 1
  | some (.frz _ (.dK _)) => 1
  | some (.ins _ _ _) => 3
  | _ => 2
mutual
inductive RV (K : PySem.W.Frag) (ad : List Addr) (H : Hp) : V → D → Prop
  | non : RV K ad H .non .non
  | bl (b : Bool) : RV K ad H (.bl b) (.bl b)
  | int (i : Int) : RV K ad H (.int i) (.int i)
  | str (x : Str) : RV K ad H (.str x) (.str x)
  | tup {a : Addr} {xs : List V} {ds : List D} (h : SqT K H a xs) (r : RVs K ad H xs ds) : RV K ad H (.ref a) (.tup ds)
  | rf {n : Nat} {a : Addr} (h : ad[n]? = some a) (k : kindH (H a) = 0) : RV K ad H (.ref a) (.rf n)
  | dr {n : Nat} {a : Addr} (h : ad[n]? = some a) (k : kindH (H a) = 1) : RV K ad H (.ref a) (.dr n)
  | ob {n : Nat} {a : Addr} (h : ad[n]? = some a) : RV K ad H (.ref a) (.ob n)
  | cl {a : Addr} {xs : List V} {ds : List D} (h : SqC K H a xs) (r : RVs K ad H xs ds) : RV K ad H (.ref a) (.cl ds)
inductive RVs (K : PySem.W.Frag) (ad : List Addr) (H : Hp) : List V → List D → Prop
  | nil : RVs K ad H [] []
  | cons {v : V} {vs : List V} {d : D} {ds : List D} (h : RV K ad H v d) (t : RVs K ad H vs ds) : RVs K ad H (v :: vs) (d :: ds)
end
/-- the entries of a dict -/
inductive RKs (K : PySem.W.Frag) (ad : List Addr) (H : Hp) : List (Key × V) → List (DKey × D) → Prop
  | nil : RKs K ad H [] []
  | cons {k : Key} {v : V} {d : D} {us : List (Key × V)} {kvs : List (DKey × D)} (h : RV K ad H v d) (t : RKs K ad H us kvs) : RKs K ad H ((k, v) :: us) ((k, d) :: kvs)
/-- fields by name -/
inductive RFs (K : PySem.W.Frag) (ad : List Addr) (H : Hp) : List (Str × V) → List (Str × D) → Prop
  | nil : RFs K ad H [] []
  | cons {f : Str} {v : V} {d : D} {us : List (Str × V)} {fs : List (Str × D)} (h : RV K ad H v d) (t : RFs K ad H us fs) : RFs K ad H ((f, v) :: us) ((f, d) :: fs)
/-- an exception of the class cls that has been caught, at a -/
def CaO (cls : Value) (d : Option Addr) (a : Addr) : HO := .ext fun h => ∃ (oe : Obj) (vs : Array Value), h.get? a = some oe ∧ Zc cls d oe ∧ oe.data = .fields vs
/-- the own dict of an exception -/
def XdOk (H : Hp) : Option Addr → List (Str × V) → Prop
  | none, us => us = []
  | some dx, us => H dx = some (.xd us)
/-- the class that the module's name c holds -/
def ClsAt (K : PySem.W.Frag) (c : Str) (C : Addr) : Prop := PySem.W.nsIn K mainGlobals c = some (some (.ref C))
theorem ClsAt.inj {K : PySem.W.Frag} {c : Str} {C C' : Addr} (h : ClsAt K c C) (h' : ClsAt K c C') : C = C' := by
  unfold ClsAt at h h'
  rw [h] at h'
  injection h' with h'
  injection h' with h'
  injection h' with h'
def OthOk (K : PySem.W.Frag) (ad : List Addr) (H : Hp) (a : Addr) : Oth → Prop
  | .exn c fs => ∃ C d us, ClsAt K c C ∧ H a = some (CaO (.ref C) d a) ∧ XdOk H d us ∧ RFs K ad H us fs
  | .ins c fs => ∃ C dx us, ClsAt K c C ∧ H a = some (.ins C dx us) ∧ RFs K ad H us fs
theorem OthOk.at_ {K : PySem.W.Frag} {ad : List Addr} {H : Hp} {a : Addr} : ∀ {o : Oth}, OthOk K ad H a o → ∃ u, H a = some u ∧ (∀ ps, u ≠ .tbl ps) ∧ (∀ xs, u ≠ .lst xs) ∧ kindH (some u) ≠ 0 ∧ kindH (some u) ≠ 1 ∧ (∀ o' u', u ≠ .frz o' u')
  | .exn _ _, ⟨C, d, us, _, h, _⟩ => ⟨_, h, fun _ z => (by cases z), fun _ z => (by cases z), (fun z : (2:Nat) = 0 => by cases z), (fun z : (2:Nat) = 1 => by cases z), fun _ _ z => (by cases z)⟩
  | .ins _ _, ⟨C, dx, us, _, h, _⟩ => ⟨_, h, fun _ z => (by cases z), fun _ z => (by cases z), (fun z : (3:Nat) = 0 => by cases z), (fun z : (3:Nat) = 1 => by cases z), fun _ _ z => (by cases z)⟩
def DctAt (H : Hp) (a : Addr) (us : List (Key × V)) : Bool → Prop
  | false => H a = some (.dK us)
  | true => ∃ o, H a = some (.frz o (.dK us))
def RC (K : PySem.W.Frag) (ad : List Addr) (H : Hp) (a : Addr) : Cell → Prop
  | .lst ds => ∃ xs, H a = some (.lst xs) ∧ RVs K ad H xs ds
  | .dct lk kvs => ∃ us, DctAt H a us lk ∧ RKs K ad H us kvs
  | .oth o => OthOk K ad H a o
theorem DctAt.at_ {H : Hp} {a : Addr} {us : List (Key × V)} : ∀ {lk : Bool}, DctAt H a us lk → ∃ o, H a = some o ∧ (∀ ps, o ≠ .tbl ps) ∧ kindH (H a) = 1
  | false, h => ⟨_, h, fun _ z => (by cases z), by rw [show H a = _ from h]; rfl⟩
  | true, ⟨o, h⟩ => ⟨_, h, fun _ z => (by cases z), by rw [h]; rfl⟩
structure RS (K : PySem.W.Frag) (Tb : List (Addr × Str)) (ad : List Addr) (H : Hp) (st : Store) : Prop where
  len : ad.length = st.length
  nd : ad.Nodup
  cell : ∀ (n : Nat) (c : Cell) (a : Addr), st[n]? = some c → ad[n]? = some a → RC K ad H a c
  tabs : LamX.Tabs Tb H
/-- nothing is tracked there, or a table of code objects -/
def Fre (H : Hp) (a : Addr) : Prop := ∀ o, H a = some o → ∃ ps, o = .tbl ps
theorem fre_none {H : Hp} {a : Addr} (h : H a = none) : Fre H a := fun o e => by rw [h] at e; cases e
structure Ext (K : PySem.W.Frag) (ad : List Addr) (H : Hp) (ad' : List Addr) (H' : Hp) : Prop where
  more : ∃ m, ad' = ad ++ m ∧ ∀ a ∈ m, Fre H a ∧ a ∉ ad
  tup : ∀ a xs, SqT K H a xs → SqT K H' a xs
  cls : ∀ a xs, SqC K H a xs → SqC K H' a xs
  oth : ∀ a o, H a = some o → (∀ ps, o ≠ .tbl ps) → a ∉ ad → H' a = some o
  knd : ∀ a, kindH (H a) ≠ 2 → kindH (H' a) = kindH (H a)
  frz : ∀ a o u, H a = some (.frz o u) → H' a = some (.frz o u)
  xds : ∀ a us, H a = some (.xd us) → H' a = some (.xd us)
def RE (K : PySem.W.Frag) (ad : List Addr) (H : Hp) (σ : L2.St) (ρ : Env) : Prop :=
  σ.length = ρ.length ∧ ∀ (i : Nat) (d : D), ρ[i]? = some (some d) → ∃ v, σ[i]? = some (some v) ∧ RV K ad H v d

section
variable {K : PySem.W.Frag} {Tb : List (Addr × Str)} {ad ad' ad2 : List Addr} {H H' H2 : Hp}
theorem Ext.refl : Ext K ad H ad H := ⟨⟨[], by simp⟩, fun _ _ h => h, fun _ _ h => h, fun _ _ h _ _ => h, fun _ _ => rfl, fun _ _ _ h => h, fun _ _ h => h⟩
theorem Ext.trans (e : Ext K ad H ad' H') (f : Ext K ad' H' ad2 H2) : Ext K ad H ad2 H2 := by
  obtain ⟨m, hm, fm⟩ := e.more
  obtain ⟨m2, hm2, fm2⟩ := f.more
  refine ⟨⟨m ++ m2, by rw [hm2, hm, List.append_assoc], fun a ha => ?_⟩, fun a xs h => f.tup a xs (e.tup a xs h), fun a xs h => f.cls a xs (e.cls a xs h), fun a o h nt n => f.oth a o (e.oth a o h nt n) nt fun z => ?_, fun a h => (f.knd a (by rw [e.knd a h]; exact h)).trans (e.knd a h), fun a o u h => f.frz a o u (e.frz a o u h), fun a us h => f.xds a us (e.xds a us h)⟩
  · rcases List.mem_append.mp ha with ha | ha
    · exact fm a ha
    · obtain ⟨h1, h2⟩ := fm2 a ha
      have h3 : a ∉ ad := fun z => h2 (by rw [hm]; exact List.mem_append_left _ z)
      refine ⟨fun o q => ?_, h3⟩
      by_cases t : ∃ ps, o = .tbl ps
      · exact t
      · exact h1 o (e.oth a o q (fun ps z => t ⟨ps, z⟩) h3)
  · rw [hm] at z
    rcases List.mem_append.mp z with z | z
    · exact n z
    · obtain ⟨ps, e⟩ := (fm a z).1 o h
      exact nt ps e
theorem Ext.at (e : Ext K ad H ad' H') {n : Nat} {a : Addr} (h : ad[n]? = some a) : ad'[n]? = some a := by
  obtain ⟨m, hm, _⟩ := e.more
  rw [hm]
  rw [List.getElem?_append_left (List.getElem?_eq_some_iff.mp h).1]
  exact h
mutual
theorem RV.mono (e : Ext K ad H ad' H') : ∀ {v : V} {d : D}, RV K ad H v d → RV K ad' H' v d
  | _, _, .non => .non
  | _, _, .bl b => .bl b
  | _, _, .int i => .int i
  | _, _, .str x => .str x
  | _, _, .tup h r => .tup (e.tup _ _ h) (RVs.mono e r)
  | _, _, .rf h k => .rf (e.at h) (by rw [e.knd _ (by rw [k]; decide)]; exact k)
  | _, _, .dr h k => .dr (e.at h) (by rw [e.knd _ (by rw [k]; decide)]; exact k)
  | _, _, .ob h => .ob (e.at h)
  | _, _, .cl h r => .cl (e.cls _ _ h) (RVs.mono e r)
theorem RVs.mono (e : Ext K ad H ad' H') : ∀ {vs : List V} {ds : List D}, RVs K ad H vs ds → RVs K ad' H' vs ds
  | _, _, .nil => .nil
  | _, _, .cons h t => .cons (RV.mono e h) (RVs.mono e t)
end
theorem RVs.length : ∀ {vs : List V} {ds : List D}, RVs K ad H vs ds → vs.length = ds.length
  | _, _, .nil => rfl
  | _, _, .cons _ t => by rw [List.length_cons, List.length_cons, RVs.length t]
theorem RVs.get : ∀ {vs : List V} {ds : List D} {i : Nat} {d : D}, RVs K ad H vs ds → ds[i]? = some d → ∃ v, vs[i]? = some v ∧ RV K ad H v d
  | _, _, _, _, .nil, e => by simp at e
  | _, _, 0, _, .cons h _, e => by
    simp at e; subst e; exact ⟨_, rfl, h⟩
  | _, _, i + 1, _, .cons _ t, e => by
    obtain ⟨v, h1, h2⟩ := RVs.get (i := i) t (by simpa using e)
    exact ⟨v, by simpa using h1, h2⟩
theorem RVs.append : ∀ {vs us : List V} {ds es : List D}, RVs K ad H vs ds → RVs K ad H us es → RVs K ad H (vs ++ us) (ds ++ es)
  | _, _, _, _, .nil, r => r
  | _, _, _, _, .cons h t, r => .cons h (RVs.append t r)
theorem RVs.set {v : V} {d : D} (h : RV K ad H v d) : ∀ {vs : List V} {ds : List D} (i : Nat), RVs K ad H vs ds → RVs K ad H (vs.set i v) (ds.set i d)
  | _, _, _, .nil => .nil
  | _, _, 0, .cons _ t => .cons h t
  | _, _, i + 1, .cons q t => .cons q (RVs.set h i t)
theorem RVs.take : ∀ {vs : List V} {ds : List D} (n : Nat), RVs K ad H vs ds → RVs K ad H (vs.take n) (ds.take n)
  | _, _, 0, _ => .nil
  | _, _, _ + 1, .nil => .nil
  | _, _, n + 1, .cons r t => .cons r (RVs.take n t)
theorem RVs.drop : ∀ {vs : List V} {ds : List D} (n : Nat), RVs K ad H vs ds → RVs K ad H (vs.drop n) (ds.drop n)
  | _, _, 0, r => r
  | _, _, _ + 1, .nil => .nil
  | _, _, n + 1, .cons _ t => RVs.drop n t
theorem sIx_eq (n d : Nat) (o : Option Int) : sIx n d o = HT.sIx n d o := by
  cases o <;> rfl
theorem RVs.cut {vs : List V} {ds : List D} (r : RVs K ad H vs ds) (lo hi : Option Int) : RVs K ad H (cutV vs lo hi) (cutD ds lo hi) := by
  unfold cutV cutD
  rw [r.length, sIx_eq, sIx_eq]
  exact (r.drop _).take _
theorem ixOf_eq (n : Nat) (i : Int) : ixOf n i = ixN n i := rfl
theorem RVs.atI {vs : List V} {ds : List D} (r : RVs K ad H vs ds) {i : Int} {d : D} (h : atD ds i = some d) : ∃ v, L2.atI vs i = some v ∧ RV K ad H v d := by
  unfold atD at h
  unfold L2.atI
  rw [r.length]
  rw [ixOf_eq] at h
  cases q : ixN ds.length i with
  | none => rw [q] at h; cases h
  | some j =>
    rw [q] at h
    exact r.get h
theorem RVs.flat_all : ∀ {vs : List V} {ds : List D}, RVs K ad H vs ds → ds.all flat = true → vs.all flatV = true
  | _, _, .nil, _ => rfl
  | _, _, .cons h t, q => by
    rw [List.all_cons, Bool.and_eq_true] at q ⊢
    refine ⟨?_, RVs.flat_all t q.2⟩
    cases h <;> first | rfl | exact q.1
theorem flat_of {v : V} {d : D} (h : RV K ad H v d) (q : flat d = true) : flatV v = true := by
  cases h <;> first | rfl | (cases q)
theorem eqF_of {v u : V} {d e : D} (h : RV K ad H v d) (g : RV K ad H u e) (q : flat d = true) (p : flat e = true) : eqV v u = eqF d e := by
  cases h <;> cases g <;> first | rfl | (cases q) | (cases p)
theorem any_of {u : V} {e : D} (g : RV K ad H u e) (p : flat e = true) : ∀ {vs : List V} {ds : List D}, RVs K ad H vs ds → ds.all flat = true → inV u vs = ds.any fun z => eqF z e
  | _, _, .nil, _ => rfl
  | _, _, .cons h t, q => by
    rw [List.all_cons, Bool.and_eq_true] at q
    unfold inV
    rw [List.any_cons, List.any_cons, eqF_of h g q.1 p]
    have ih := any_of g p t q.2
    unfold inV at ih
    rw [ih]
/-! ### the heap grows, a list is written -/
theorem sqT_upd {p a : Addr} {o : HO} {xs : List V} (hp : ∀ xs, ¬ Rd H p (.tup xs)) (h : SqT K H a xs) : SqT K (upd H p o) a xs := by
  rcases h with h | h
  · refine .inl ?_
    have ne : a ≠ p := fun z => hp xs (z ▸ h)
    rcases h with h | ⟨o', h⟩
    · exact .inl (by rw [upd_ne ne]; exact h)
    · exact .inr ⟨o', by rw [upd_ne ne]; exact h⟩
  · exact .inr h
theorem sqC_upd {p a : Addr} {o : HO} {xs : List V} (hp : ∀ o xs, H p ≠ some (.frz o (.lst xs))) (h : SqC K H a xs) : SqC K (upd H p o) a xs := by
  rcases h with ⟨o', h⟩ | h
  · have ne : a ≠ p := fun z => hp o' xs (z ▸ h)
    exact .inl ⟨o', by rw [upd_ne ne]; exact h⟩
  · exact .inr h
theorem nofrz_none {p : Addr} (h : H p = none) : ∀ o xs, H p ≠ some (.frz o (.lst xs)) := fun o xs r => by rw [h] at r; cases r
theorem nofrz_lst {p : Addr} {ys : List V} (h : H p = some (.lst ys)) : ∀ o xs, H p ≠ some (.frz o (.lst xs)) := fun o xs r => by rw [h] at r; cases r
theorem notup_none {p : Addr} (h : H p = none) : ∀ xs, ¬ Rd H p (.tup xs) := fun xs r => by
  rcases r with r | ⟨o, r⟩ <;> (rw [h] at r; cases r)
theorem notup_lst {p : Addr} {ys : List V} (h : H p = some (.lst ys)) : ∀ xs, ¬ Rd H p (.tup xs) := fun xs r => by
  rcases r with r | ⟨o, r⟩ <;> (rw [h] at r; cases r)
theorem RS.of_mem {st : Store} (S : RS K Tb ad H st) {p : Addr} (h : p ∈ ad) : ∃ o, H p = some o := by
  obtain ⟨n, hn⟩ := List.getElem?_of_mem h
  have hl : n < st.length := by rw [← S.len]; exact (List.getElem?_eq_some_iff.mp hn).1
  have hc := S.cell n _ p (List.getElem?_eq_getElem hl) hn
  cases e : st[n] with
  | lst ds => rw [e] at hc; obtain ⟨xs, h1, _⟩ := hc; exact ⟨_, h1⟩
  | dct lk kvs => rw [e] at hc; obtain ⟨us, h1, _⟩ := hc; obtain ⟨o, h2, _⟩ := DctAt.at_ h1; exact ⟨_, h2⟩
  | oth u => rw [e] at hc; obtain ⟨o, h1, _⟩ := OthOk.at_ hc; exact ⟨_, h1⟩
theorem RS.not_memF {st : Store} (S : RS K Tb ad H st) {p : Addr} (h : Fre H p) : p ∉ ad := fun z => by
  obtain ⟨n, hn⟩ := List.getElem?_of_mem z
  have hl : n < st.length := by rw [← S.len]; exact (List.getElem?_eq_some_iff.mp hn).1
  have hc := S.cell n _ p (List.getElem?_eq_getElem hl) hn
  cases e : st[n] with
  | lst ds =>
    rw [e] at hc
    obtain ⟨xs, h1, _⟩ := hc
    obtain ⟨ps, q⟩ := h _ h1
    cases q
  | dct lk kvs =>
    rw [e] at hc
    obtain ⟨us, h1, _⟩ := hc
    obtain ⟨o, h2, h3, _⟩ := DctAt.at_ h1
    obtain ⟨ps, q⟩ := h _ h2
    exact h3 ps q
  | oth u =>
    rw [e] at hc
    obtain ⟨o, h1, h2, _⟩ := OthOk.at_ hc
    obtain ⟨ps, q⟩ := h _ h1
    exact h2 ps q
theorem RS.not_mem {st : Store} (S : RS K Tb ad H st) {p : Addr} (h : H p = none) : p ∉ ad := fun z => by
  obtain ⟨o, q⟩ := S.of_mem z
  rw [h] at q; cases q
theorem tabs_keep (t : LamX.Tabs Tb H) (e : ∀ b o, H b = some o → kindH (some o) = 2 → H' b = some o) : LamX.Tabs Tb H' := fun p hp => by
  obtain ⟨ps, h1, h2, h3⟩ := t p hp
  refine ⟨ps, e _ _ h1 rfl, h2, fun pos cv hc => ?_⟩
  obtain ⟨c, e1, e2⟩ := h3 pos cv hc
  exact ⟨c, e1, e _ _ e2 (by unfold LamX.CodeO; rfl)⟩
theorem ext_new {p : Addr} {o : HO} (h : H p = none) : Ext K ad H ad (upd H p o) :=
  ⟨⟨[], by simp⟩, fun a xs q => sqT_upd (notup_none h) q, fun a xs q => sqC_upd (nofrz_none h) q, fun a u q _ _ => by rw [upd_ne (ne_of_none q h)]; exact q, fun a k => by rw [upd_ne (fun z : a = p => by rw [z, h] at k; exact k rfl)], fun a o u q => by rw [upd_ne (ne_of_none q h)]; exact q, fun a us q => by rw [upd_ne (ne_of_none q h)]; exact q⟩
theorem DctAt.keep {a : Addr} {us : List (Key × V)} (k : ∀ o, H a = some o → H' a = some o) : ∀ {lk : Bool}, DctAt H a us lk → DctAt H' a us lk
  | false, h => k _ h
  | true, ⟨o, h⟩ => ⟨o, k _ h⟩
theorem RKs.mono (e : Ext K ad H ad' H') {us : List (Key × V)} {kvs : List (DKey × D)} (h : RKs K ad H us kvs) : RKs K ad' H' us kvs := by
  induction h with
  | nil => exact .nil
  | cons h t ih => exact .cons (h.mono e) ih
theorem RFs.mono (e : Ext K ad H ad' H') {us : List (Str × V)} {fs : List (Str × D)} (h : RFs K ad H us fs) : RFs K ad' H' us fs := by
  induction h with
  | nil => exact .nil
  | cons h t ih => exact .cons (h.mono e) ih
theorem XdOk.mono (e : Ext K ad H ad' H') {us : List (Str × V)} : ∀ {d : Option Addr}, XdOk H d us → XdOk H' d us
  | none, h => h
  | some _, h => e.xds _ _ h
theorem OthOk.mono {a : Addr} (e : Ext K ad H ad' H') (k : ∀ o, H a = some o → H' a = some o) : ∀ {o : Oth}, OthOk K ad H a o → OthOk K ad' H' a o
  | .exn _ _, ⟨C, d, us, h1, h2, h3, h4⟩ => ⟨C, d, us, h1, k _ h2, h3.mono e, h4.mono e⟩
  | .ins _ _, ⟨C, dx, us, h1, h2, h4⟩ => ⟨C, dx, us, h1, k _ h2, h4.mono e⟩
theorem RC.mono {a : Addr} {c : Cell} (e : Ext K ad H ad' H') (k : ∀ o, H a = some o → H' a = some o) (h : RC K ad H a c) : RC K ad' H' a c := by
  cases c with
  | lst ds => obtain ⟨xs, h1, h2⟩ := h; exact ⟨xs, k _ h1, h2.mono e⟩
  | dct lk kvs => obtain ⟨us, h1, h2⟩ := h; exact ⟨us, DctAt.keep k h1, h2.mono e⟩
  | oth o => exact OthOk.mono e k h
theorem RS.upd_new {st : Store} {p : Addr} {o : HO} (S : RS K Tb ad H st) (h : H p = none) : RS K Tb ad (upd H p o) st :=
  ⟨S.len, S.nd, fun n c a h1 h2 => (S.cell n c a h1 h2).mono (ext_new h) fun u q => by rw [upd_ne (ne_of_none q h)]; exact q, S.tabs.ext fun b u q => by rw [upd_ne (ne_of_none q h)]; exact q⟩

mutual
theorem lift (q : ∀ {n : Nat} {a : Addr}, ad[n]? = some a → ad'[n]? = some a) : ∀ {v : V} {d : D}, RV K ad H v d → RV K ad' H v d
  | _, _, .non => .non
  | _, _, .bl b => .bl b
  | _, _, .int i => .int i
  | _, _, .str x => .str x
  | _, _, .tup h r => .tup h (lifts q r)
  | _, _, .rf h k => .rf (q h) k
  | _, _, .dr h k => .dr (q h) k
  | _, _, .ob h => .ob (q h)
  | _, _, .cl h r => .cl h (lifts q r)
theorem lifts (q : ∀ {n : Nat} {a : Addr}, ad[n]? = some a → ad'[n]? = some a) : ∀ {vs : List V} {ds : List D}, RVs K ad H vs ds → RVs K ad' H vs ds
  | _, _, .nil => .nil
  | _, _, .cons h t => .cons (lift q h) (lifts q t)
end
theorem liftK (q : ∀ {n : Nat} {a : Addr}, ad[n]? = some a → ad'[n]? = some a) {us : List (Key × V)} {kvs : List (DKey × D)} (h : RKs K ad H us kvs) : RKs K ad' H us kvs := by
  induction h with
  | nil => exact .nil
  | cons h t ih => exact .cons (lift q h) ih
theorem liftF (q : ∀ {n : Nat} {a : Addr}, ad[n]? = some a → ad'[n]? = some a) {us : List (Str × V)} {fs : List (Str × D)} (h : RFs K ad H us fs) : RFs K ad' H us fs := by
  induction h with
  | nil => exact .nil
  | cons h t ih => exact .cons (lift q h) ih
theorem liftO (q : ∀ {n : Nat} {a : Addr}, ad[n]? = some a → ad'[n]? = some a) {a : Addr} : ∀ {o : Oth}, OthOk K ad H a o → OthOk K ad' H a o
  | .exn _ _, ⟨C, d, us, h1, h2, h3, h4⟩ => ⟨C, d, us, h1, h2, h3, liftF q h4⟩
  | .ins _ _, ⟨C, dx, us, h1, h2, h4⟩ => ⟨C, dx, us, h1, h2, liftF q h4⟩
/-- a thing that no place of the store has yet is given one -/
theorem RS.pushC {st : Store} {p : Addr} {c0 : Cell} (S : RS K Tb ad H st) (h : RC K ad H p c0) (hp : p ∉ ad) : RS K Tb (ad ++ [p]) H (st ++ [c0]) := by
  have q : ∀ {n : Nat} {a : Addr}, ad[n]? = some a → (ad ++ [p])[n]? = some a := fun {n a} h => by
    rw [List.getElem?_append_left (List.getElem?_eq_some_iff.mp h).1]
    exact h
  have lc : ∀ {a : Addr} {c : Cell}, RC K ad H a c → RC K (ad ++ [p]) H a c := fun {a c} hc => by
    cases c with
    | lst es => obtain ⟨ys, q1, q2⟩ := hc; exact ⟨ys, q1, lifts q q2⟩
    | dct lk kvs => obtain ⟨us, q1, q2⟩ := hc; exact ⟨us, q1, liftK q q2⟩
    | oth o => exact liftO q hc
  refine ⟨by rw [List.length_append, List.length_append, S.len]; rfl, ?_, fun n c a h1 h2 => ?_, S.tabs⟩
  · rw [List.nodup_append]
    exact ⟨S.nd, by simp, fun a ha b hb => by
      have : b = p := by simpa using hb
      subst this
      rintro rfl
      exact hp ha⟩
  · by_cases hn : n < st.length
    · rw [List.getElem?_append_left hn] at h1
      rw [List.getElem?_append_left (by rw [S.len]; exact hn)] at h2
      exact lc (S.cell n c a h1 h2)
    · have hn' : st.length ≤ n := Nat.le_of_not_lt hn
      rw [List.getElem?_append_right hn'] at h1
      rw [List.getElem?_append_right (by rw [S.len]; exact hn')] at h2
      have hz : n - st.length = 0 := by
        have := (List.getElem?_eq_some_iff.mp h1).1
        simpa using this
      rw [hz] at h1
      rw [S.len, hz] at h2
      simp at h1 h2
      subst h1; subst h2
      exact lc h
/-- a list that no place of the store has yet is given one -/
theorem RS.push {st : Store} {p : Addr} {xs : List V} {ds : List D} (S : RS K Tb ad H st) (h : H p = some (.lst xs)) (hp : p ∉ ad) (r : RVs K ad H xs ds) : RS K Tb (ad ++ [p]) H (st ++ [.lst ds]) := S.pushC ⟨xs, h, r⟩ hp
end
end DL
namespace DL
open PySem L2
section
variable {K : PySem.W.Frag} {Tb : List (Addr × Str)} {ad ad' ad2 : List Addr} {H H' H2 : Hp} {st : Store}
theorem Ext.push {p : Addr} (e : Ext K ad H ad' H') (h : Fre H p) (S : RS K Tb ad H st) : Ext K ad H (ad' ++ [p]) H' := by
  obtain ⟨m, hm, fm⟩ := e.more
  refine ⟨⟨m ++ [p], by rw [hm, List.append_assoc], fun a ha => ?_⟩, e.tup, e.cls, e.oth, e.knd, e.frz, e.xds⟩
  rcases List.mem_append.mp ha with ha | ha
  · exact fm a ha
  · have : a = p := by simpa using ha
    subst this
    exact ⟨h, S.not_memF h⟩
theorem RS.at {n : Nat} {c : Cell} (S : RS K Tb ad H st) (h : st[n]? = some c) : ∃ a, ad[n]? = some a ∧ RC K ad H a c := by
  have hl : n < ad.length := by rw [S.len]; exact (List.getElem?_eq_some_iff.mp h).1
  exact ⟨_, List.getElem?_eq_getElem hl, S.cell n c _ h (List.getElem?_eq_getElem hl)⟩
theorem RS.items {n : Nat} {ds : List D} {a : Addr} (S : RS K Tb ad H st) (h : cellItems st n = some ds) (ha : ad[n]? = some a) : ∃ xs, SqL K H a xs ∧ RVs K ad H xs ds := by
  unfold cellItems at h
  cases e : st[n]? with
  | none => rw [e] at h; cases h
  | some c =>
    rw [e] at h
    have hc := S.cell n c a e ha
    cases c with
    | lst es =>
      cases h
      obtain ⟨xs, h1, h2⟩ := hc
      exact ⟨xs, SqL.of h1, h2⟩
    | dct lk kvs => cases h
    | oth _ => cases h
theorem nodup_ixA : ∀ {l : List Addr} {i j : Nat} {x : Addr}, l.Nodup → l[i]? = some x → l[j]? = some x → i = j := fun {l i j x} hN a b => by
  obtain ⟨h1, e1⟩ := List.getElem?_eq_some_iff.mp a
  obtain ⟨h2, e2⟩ := List.getElem?_eq_some_iff.mp b
  exact (List.getElem_inj hN).mp (e1.trans e2.symm)
theorem kind_notup {p : Addr} (h : kindH (H p) ≠ 2) : ∀ xs, ¬ Rd H p (.tup xs) := fun xs r => by
  rcases r with r | ⟨o, r⟩ <;> exact h (by rw [r]; rfl)
theorem kind_nofrz {p : Addr} (h : kindH (H p) ≠ 2) : ∀ o xs, H p ≠ some (.frz o (.lst xs)) := fun o xs r => h (by rw [r]; rfl)
/-- what may be written -/
def Wri : Cell → Prop
  | .oth (.exn _ _) => False
  | _ => True
theorem RC.kind {a : Addr} {c : Cell} (h : RC K ad H a c) (hw : Wri c := by trivial) : kindH (H a) ≠ 2 := by
  cases c with
  | lst ds => obtain ⟨xs, h1, _⟩ := h; rw [h1]; exact (by decide : (0 : Nat) ≠ 2)
  | dct lk kvs => obtain ⟨us, h1, _⟩ := h; obtain ⟨_, _, _, h2⟩ := DctAt.at_ h1; rw [h2]; decide
  | oth o =>
    cases o with
    | exn c fs => exact hw.elim
    | ins c fs => obtain ⟨C, dx, us, _, h1, _⟩ := h; rw [h1]; exact (fun z : (3:Nat) = 2 => by cases z)
theorem RS.setC {n : Nat} {c0 c1 : Cell} {a : Addr} {o : HO} (S : RS K Tb ad H st) (h : st[n]? = some c0) (ha : ad[n]? = some a) (ho : kindH (some o) = kindH (H a)) (hz : ∀ o' u, H a ≠ some (.frz o' u)) (r : Ext K ad H ad (upd H a o) → RC K ad (upd H a o) a c1) (hw : Wri c0 := by trivial) :
    RS K Tb ad (upd H a o) (st.set n c1) ∧ Ext K ad H ad (upd H a o) := by
  have hk := (S.cell n _ a h ha).kind hw
  have hm : a ∈ ad := List.mem_of_getElem? ha
  have e : Ext K ad H ad (upd H a o) := ⟨⟨[], by simp⟩, fun b zs q => sqT_upd (kind_notup hk) q, fun b zs q => sqC_upd (kind_nofrz hk) q, fun b o q _ nb => by rw [upd_ne (fun z : b = a => nb (by rw [z]; exact hm))]; exact q, fun b k => by
    by_cases hb : b = a
    · rw [hb, upd_same, ho]
    · rw [upd_ne hb], fun b o' u q => by rw [upd_ne (fun z : b = a => hz o' u (by rw [← z]; exact q))]; exact q, fun b us q => by rw [upd_ne (fun z : b = a => hk (by rw [← z, q]; rfl))]; exact q⟩
  refine ⟨⟨by rw [S.len]; simp, S.nd, fun m c b h2 h3 => ?_, tabs_keep S.tabs fun b u q nl => by rw [upd_ne (fun z : b = a => hk (by rw [← z, q]; exact nl))]; exact q⟩, e⟩
  by_cases hmn : m = n
  · subst hmn
    rw [ha] at h3; cases h3
    have hl := (List.getElem?_eq_some_iff.mp h).1
    rw [List.getElem?_set_self hl] at h2
    cases h2
    exact r e
  · rw [List.getElem?_set_ne (Ne.symm hmn)] at h2
    have nb : b ≠ a := fun z => hmn (nodup_ixA S.nd h3 (by rw [z]; exact ha))
    exact (S.cell m c b h2 h3).mono e fun o q => by rw [upd_ne nb]; exact q
theorem RS.set {n : Nat} {ds es : List D} {a : Addr} {xs : List V} (S : RS K Tb ad H st) (h : st[n]? = some (.lst ds)) (ha : ad[n]? = some a) (r : RVs K ad H xs es) :
    RS K Tb ad (upd H a (.lst xs)) (st.set n (.lst es)) ∧ Ext K ad H ad (upd H a (.lst xs)) := by
  obtain ⟨ys, h1, _⟩ := S.cell n _ a h ha
  exact S.setC h ha (by rw [h1]; rfl) (fun _ _ z => by rw [h1] at z; cases z) fun e => ⟨xs, upd_same, r.mono e⟩
/-! ### slots -/
theorem RE.mono {σ : L2.St} {ρ : Env} (e : Ext K ad H ad' H') (R : RE K ad H σ ρ) : RE K ad' H' σ ρ :=
  ⟨R.1, fun i d h => let ⟨v, h1, h2⟩ := R.2 i d h; ⟨v, h1, h2.mono e⟩⟩
theorem RE.set {σ : L2.St} {ρ : Env} {v : V} {d : D} (R : RE K ad H σ ρ) (i : Nat) (h : RV K ad H v d) : RE K ad H (σ.set i (some v)) (ρ.set i (some d)) := by
  refine ⟨by simp [R.1], fun j e q => ?_⟩
  by_cases hj : j = i
  · subst hj
    have hl : j < ρ.length := by have := (List.getElem?_eq_some_iff.mp q).1; simpa using this
    rw [List.getElem?_set_self hl] at q
    cases q
    exact ⟨v, List.getElem?_set_self (by rw [R.1]; exact hl), h⟩
  · rw [List.getElem?_set_ne (Ne.symm hj)] at q
    obtain ⟨u, h1, h2⟩ := R.2 j e q
    exact ⟨u, by rw [List.getElem?_set_ne (Ne.symm hj)]; exact h1, h2⟩
theorem RE.setN {σ : L2.St} {ρ : Env} (R : RE K ad H σ ρ) (i : Nat) : RE K ad H (σ.set i none) (ρ.set i none) := by
  refine ⟨by simp [R.1], fun j e q => ?_⟩
  by_cases hj : j = i
  · subst hj
    have hl : j < ρ.length := by have := (List.getElem?_eq_some_iff.mp q).1; simpa using this
    rw [List.getElem?_set_self hl] at q
    cases q
  · rw [List.getElem?_set_ne (Ne.symm hj)] at q
    obtain ⟨u, h1, h2⟩ := R.2 j e q
    exact ⟨u, by rw [List.getElem?_set_ne (Ne.symm hj)]; exact h1, h2⟩
theorem RE.wipe {σ : L2.St} {ρ : Env} (R : RE K ad H σ ρ) : ∀ vs, RE K ad H (L2.wipe σ vs) (wipeE ρ vs)
  | [] => R
  | v :: vs => (RE.wipe R vs).setN v
theorem RE.start {vs : List V} {ds : List D} (n : Nat) (N : List Str) (hN : N.length = n) (r : RVs K ad H vs ds) : RE K ad H (start N vs) (startE n ds) := by
  unfold L2.start startE
  rw [hN, r.length]
  refine ⟨by simp [r.length], fun i d q => ?_⟩
  by_cases hi : i < ds.length
  · rw [List.getElem?_append_left (by simpa using hi), List.getElem?_map] at q
    cases e : ds[i]? with
    | none => rw [e] at q; cases q
    | some d' =>
      rw [e] at q
      cases q
      obtain ⟨v, h1, h2⟩ := r.get e
      refine ⟨v, ?_, h2⟩
      rw [List.getElem?_append_left (by simp [r.length]; exact hi), List.getElem?_map, h1]
      rfl
  · rw [List.getElem?_append_right (by simpa using Nat.le_of_not_lt hi)] at q
    rw [List.getElem?_replicate] at q
    split at q <;> cases q
/-! ### what is wanted behind a reading -/
def PostD (K : PySem.W.Frag) (Tb : List (Addr × Str)) (ad : List Addr) (H : Hp) (Q : VK) : Res D → Prop
  | .ok d st' => ∀ ad' H' v, Ext K ad H ad' H' → RV K ad' H' v d → RS K Tb ad' H' st' → Q v H'
  | _ => False
def PostB (K : PySem.W.Frag) (Tb : List (Addr × Str)) (ad : List Addr) (H : Hp) (Q : Bool → Hp → Prop) : Res Bool → Prop
  | .ok b st' => ∀ ad' H', Ext K ad H ad' H' → RS K Tb ad' H' st' → Q b H'
  | _ => False
def PostA (K : PySem.W.Frag) (Tb : List (Addr × Str)) (ad : List Addr) (H : Hp) (Q : List V → Hp → Prop) : Res (List D) → Prop
  | .ok ds st' => ∀ ad' H' vs, Ext K ad H ad' H' → RVs K ad' H' vs ds → RS K Tb ad' H' st' → Q vs H'
  | _ => False
/-- a list made on the spot: it stands at a p that was free, no place of the store has it -/
def PostL (K : PySem.W.Frag) (Tb : List (Addr × Str)) (ad : List Addr) (H : Hp) (Q : VK) : Res (List D) → Prop
  | .ok ds st' => ∀ ad' H' p xs, Ext K ad H ad' H' → Fre H p → p ∉ ad' → H' p = some (.lst xs) → RVs K ad' H' xs ds → RS K Tb ad' H' st' → Q (.ref p) H'
  | _ => False
def PostO (K : PySem.W.Frag) (Tb : List (Addr × Str)) (ad : List Addr) (H : Hp) (Q : Option Int → Hp → Prop) : Res (Option Int) → Prop
  | .ok o st' => ∀ ad' H', Ext K ad H ad' H' → RS K Tb ad' H' st' → Q o H'
  | _ => False
def PostS (K : PySem.W.Frag) (Tb : List (Addr × Str)) (ad : List Addr) (H : Hp) (E : Ends) : Res Fl → Prop
  | .ok (.nx ρ) st' => ∀ ad' H' σ', Ext K ad H ad' H' → RE K ad' H' σ' ρ → RS K Tb ad' H' st' → E.nx σ' H'
  | .ok (.bk ρ) st' => ∀ ad' H' σ', Ext K ad H ad' H' → RE K ad' H' σ' ρ → RS K Tb ad' H' st' → E.bk σ' H'
  | .ok (.ct ρ) st' => ∀ ad' H' σ', Ext K ad H ad' H' → RE K ad' H' σ' ρ → RS K Tb ad' H' st' → E.ct σ' H'
  | .ok (.rt d) st' => ∀ ad' H' v, Ext K ad H ad' H' → RV K ad' H' v d → RS K Tb ad' H' st' → E.rt v H'
  | _ => False
def PostG (K : PySem.W.Frag) (Tb : List (Addr × Str)) (ad : List Addr) (H : Hp) (σ : L2.St) (is : List Nat) (Q : L2.St → Hp → Prop) : Res Env → Prop
  | .ok ρ st' => ∀ ad' H' σ', Ext K ad H ad' H' → RE K ad' H' σ' ρ → RS K Tb ad' H' st' → σ'.length = σ.length → (∀ j, j ∉ is → σ'[j]? = σ[j]?) → Q σ' H'
  | _ => False
def PostU (K : PySem.W.Frag) (Tb : List (Addr × Str)) (ad : List Addr) (H : Hp) (Q : Hp → Prop) : Res Unit → Prop
  | .ok _ st' => ∀ ad' H', Ext K ad H ad' H' → RS K Tb ad' H' st' → Q H'
  | _ => False
/-- the walk J gives the items one by one -/
def Gives (K : PySem.W.Frag) (Tb : List (Addr × Str)) (ad : List Addr) (H : Hp) (J : It) (k : Walk) : Prop :=
  ∀ ad1 H1 st1, Ext K ad H ad1 H1 → RS K Tb ad1 H1 st1 → k.guard st1 → ∀ i, (∀ d, k.items[i]? = some d → J.go i H1 ∧ ∀ x H2, J.yld i H1 x H2 → ∃ ad2, Ext K ad1 H1 ad2 H2 ∧ RV K ad2 H2 x d ∧ RS K Tb ad2 H2 st1) ∧ (k.items.length ≤ i → J.stop i H1)
def PostI (K : PySem.W.Frag) (Tb : List (Addr × Str)) (ad : List Addr) (H : Hp) (R : It → Hp → Prop) : Res Walk → Prop
  | .ok k st' => ∀ ad' H' J, Ext K ad H ad' H' → RS K Tb ad' H' st' → Gives K Tb ad' H' J k → R J H'
  | _ => False
theorem PostD.shift {Q : VK} {r : Res D} (e : Ext K ad H ad' H') (h : PostD K Tb ad H Q r) : PostD K Tb ad' H' Q r := by
  cases r with
  | ok d st' => exact fun a h' v x => h a h' v (e.trans x)
  | stuck => exact h
  | exc _ _ _ => exact h
theorem PostB.shift {Q : Bool → Hp → Prop} {r : Res Bool} (e : Ext K ad H ad' H') (h : PostB K Tb ad H Q r) : PostB K Tb ad' H' Q r := by
  cases r with
  | ok d st' => exact fun a h' x => h a h' (e.trans x)
  | stuck => exact h
  | exc _ _ _ => exact h
theorem PostA.shift {Q : List V → Hp → Prop} {r : Res (List D)} (e : Ext K ad H ad' H') (h : PostA K Tb ad H Q r) : PostA K Tb ad' H' Q r := by
  cases r with
  | ok d st' => exact fun a h' v x => h a h' v (e.trans x)
  | stuck => exact h
  | exc _ _ _ => exact h
theorem PostO.shift {Q : Option Int → Hp → Prop} {r : Res (Option Int)} (e : Ext K ad H ad' H') (h : PostO K Tb ad H Q r) : PostO K Tb ad' H' Q r := by
  cases r with
  | ok d st' => exact fun a h' x => h a h' (e.trans x)
  | stuck => exact h
  | exc _ _ _ => exact h
theorem PostI.shift {Q : It → Hp → Prop} {r : Res Walk} (e : Ext K ad H ad' H') (h : PostI K Tb ad H Q r) : PostI K Tb ad' H' Q r := by
  cases r with
  | ok d st' => exact fun a h' v x => h a h' v (e.trans x)
  | stuck => exact h
  | exc _ _ _ => exact h
theorem PostU.shift {Q : Hp → Prop} {r : Res Unit} (e : Ext K ad H ad' H') (h : PostU K Tb ad H Q r) : PostU K Tb ad' H' Q r := by
  cases r with
  | ok d st' => exact fun a h' x => h a h' (e.trans x)
  | stuck => exact h
  | exc _ _ _ => exact h
theorem PostS.shift {Q : Ends} {r : Res Fl} (e : Ext K ad H ad' H') (h : PostS K Tb ad H Q r) : PostS K Tb ad' H' Q r := by
  cases r with
  | ok d st' => cases d <;> exact fun a h' v x => h a h' v (e.trans x)
  | stuck => exact h
  | exc _ _ _ => exact h
/-- what was free behind is free ahead -/
theorem Ext.fre (e : Ext K ad H ad' H') {st' : Store} (S' : RS K Tb ad' H' st') {p : Addr} (h : Fre H' p) : Fre H p := fun o q => by
  by_cases t : ∃ ps, o = .tbl ps
  · exact t
  · by_cases hp : p ∈ ad
    · obtain ⟨m, hm, _⟩ := e.more
      exact (S'.not_memF h (by rw [hm]; exact List.mem_append_left _ hp)).elim
    · exact h o (e.oth p o q (fun ps z => t ⟨ps, z⟩) hp)
theorem Ext.none_of (e : Ext K ad H ad' H') {st' : Store} (S' : RS K Tb ad' H' st') {p : Addr} (h : H' p = none) : Fre H p := e.fre S' (fre_none h)
theorem PostL.shift {Q : VK} {r : Res (List D)} (e : Ext K ad H ad' H') {st' : Store} (S' : RS K Tb ad' H' st') (h : PostL K Tb ad H Q r) : PostL K Tb ad' H' Q r := by
  cases r with
  | ok d s => exact fun a h' p xs x n => h a h' p xs (e.trans x) (e.fre S' n)
  | stuck => exact h
  | exc _ _ _ => exact h
end
/-! ### the readings, as readings of the layer -/
def TD (K : PySem.W.Frag) (Tb : List (Addr × Str)) (g : GE) : TE := fun σ H Q => ∃ ad ρ st, RE K ad H σ ρ ∧ RS K Tb ad H st ∧ PostD K Tb ad H Q (g ρ st)
def TB (K : PySem.W.Frag) (Tb : List (Addr × Str)) (g : GT) : TT := fun σ H Q => ∃ ad ρ st, RE K ad H σ ρ ∧ RS K Tb ad H st ∧ PostB K Tb ad H Q (g ρ st)
def TAs (K : PySem.W.Frag) (Tb : List (Addr × Str)) (g : GA) : TA := fun σ H Q => ∃ ad ρ st, RE K ad H σ ρ ∧ RS K Tb ad H st ∧ PostA K Tb ad H Q (g ρ st)
def TL (K : PySem.W.Frag) (Tb : List (Addr × Str)) (g : GA) : TE := fun σ H Q => ∃ ad ρ st, RE K ad H σ ρ ∧ RS K Tb ad H st ∧ PostL K Tb ad H Q (g ρ st)
def TOp (K : PySem.W.Frag) (Tb : List (Addr × Str)) (g : Env → M (Option Int)) : TO := fun σ H Q => ∃ ad ρ st, RE K ad H σ ρ ∧ RS K Tb ad H st ∧ PostO K Tb ad H Q (g ρ st)
def TS' (K : PySem.W.Frag) (Tb : List (Addr × Str)) (g : GS) : TS := fun E σ H => ∃ ad ρ st, RE K ad H σ ρ ∧ RS K Tb ad H st ∧ PostS K Tb ad H E (g ρ st)
def TIt (K : PySem.W.Frag) (Tb : List (Addr × Str)) (g : GI) : TI := fun σ H R => ∃ ad ρ st, RE K ad H σ ρ ∧ RS K Tb ad H st ∧ PostI K Tb ad H R (g ρ st)
def TGt (K : PySem.W.Frag) (Tb : List (Addr × Str)) (is : List Nat) (g : GG) : TG := fun v σ H Q => ∃ ad d ρ st, RV K ad H v d ∧ RE K ad H σ ρ ∧ RS K Tb ad H st ∧ PostG K Tb ad H σ is Q (g d ρ st)
def TGts (K : PySem.W.Frag) (Tb : List (Addr × Str)) (is : List Nat) (g : GGs) : TGs := fun vs σ H Q => ∃ ad ds ρ st, RVs K ad H vs ds ∧ RE K ad H σ ρ ∧ RS K Tb ad H st ∧ PostG K Tb ad H σ is Q (g ds ρ st)
section
variable {X : Cx}
theorem PE.of {e : Expr} {t t' : TE} (h : PE X e t) (i : ∀ σ H Q, t' σ H Q → t σ H Q) : PE X e t' := ⟨fun pins s σ H Q I hw => h.run pins s σ H Q I (i σ H Q hw)⟩
theorem PT.of {e : Expr} {t t' : TT} (h : PT X e t) (i : ∀ σ H Q, t' σ H Q → t σ H Q) : PT X e t' := ⟨fun pins s σ H Q I hw => h.run pins s σ H Q I (i σ H Q hw)⟩
theorem PW.of {e : Expr} {t t' : TT} (h : PW X e t) (i : ∀ σ H Q, t' σ H Q → t σ H Q) : PW X e t' := ⟨fun wh pins s σ H Q I hw => h.run wh pins s σ H Q I (i σ H Q hw)⟩
theorem PA.of {e : List Expr} {t t' : TA} (h : PA X e t) (i : ∀ σ H Q, t' σ H Q → t σ H Q) : PA X e t' := ⟨fun pos pins s σ H Q I hw => h.run pos pins s σ H Q I (i σ H Q hw)⟩
theorem PS.of {e : Stmt} {t t' : TS} (h : PS X e t) (i : ∀ D σ H, t' D σ H → t D σ H) : PS X e t' := ⟨fun pins s σ H D I hw => h.run pins s σ H D I (i D σ H hw)⟩
theorem PSs.of {e : List Stmt} {t t' : TS} (h : PSs X e t) (i : ∀ D σ H, t' D σ H → t D σ H) : PSs X e t' := ⟨fun pins s σ H D I hw => h.run pins s σ H D I (i D σ H hw)⟩
theorem PI.of {tg e : Expr} {t t' : TI} (h : PI X tg e t) (i : ∀ σ H R, t' σ H R → t σ H R) : PI X tg e t' := ⟨fun pins s σ H R I hw => h.run pins s σ H R I (i σ H R hw)⟩
theorem PG.of {e : Expr} {t t' : TG} (h : PG X e t) (i : ∀ v σ H Q, t' v σ H Q → t v σ H Q) : PG X e t' := ⟨fun pins s σ H v u Q I r hw => h.run pins s σ H v u Q I r (i v σ H Q hw)⟩
theorem PGs.of {e : List Expr} {t t' : TGs} (h : PGs X e t) (i : ∀ v σ H Q, t' v σ H Q → t v σ H Q) : PGs X e t' := ⟨fun pins s σ H v u Q I r hw => h.run pins s σ H v u Q I r (i v σ H Q hw)⟩
theorem PO.of {e : Option Expr} {t t' : TO} (h : PO X e t) (i : ∀ σ H Q, t' σ H Q → t σ H Q) : PO X e t' := ⟨fun pins s σ H Q I hw => h.run pins s σ H Q I (i σ H Q hw)⟩
end
/-- a step that does not get stuck -/
theorem ok_of {α β : Type} {m : M α} {f : α → M β} {st : Store} {P : Res β → Prop} (hs : P .stuck → False) (he : ∀ c a s, P (.exc c a s) → False) (h : P (andThen m f st)) : ∃ a st', m st = .ok a st' ∧ P (f a st') := by
  unfold andThen at h
  cases q : m st with
  | ok a s => rw [q] at h; exact ⟨a, s, rfl, h⟩
  | stuck => rw [q] at h; exact (hs h).elim
  | exc c a s => rw [q] at h; exact (he c a s h).elim
section
variable {K : PySem.W.Frag} {Tb : List (Addr × Str)} {ad : List Addr} {H : Hp} {α : Type} {m : M α} {st : Store}
theorem PostD.bind {f : α → M D} {Q : VK} (h : PostD K Tb ad H Q (andThen m f st)) : ∃ a st', m st = .ok a st' ∧ PostD K Tb ad H Q (f a st') := ok_of (P := PostD K Tb ad H Q) id (fun _ _ _ => id) h
theorem PostB.bind {f : α → M Bool} {Q : Bool → Hp → Prop} (h : PostB K Tb ad H Q (andThen m f st)) : ∃ a st', m st = .ok a st' ∧ PostB K Tb ad H Q (f a st') := ok_of (P := PostB K Tb ad H Q) id (fun _ _ _ => id) h
theorem PostA.bind {f : α → M (List D)} {Q : List V → Hp → Prop} (h : PostA K Tb ad H Q (andThen m f st)) : ∃ a st', m st = .ok a st' ∧ PostA K Tb ad H Q (f a st') := ok_of (P := PostA K Tb ad H Q) id (fun _ _ _ => id) h
theorem PostL.bind {f : α → M (List D)} {Q : VK} (h : PostL K Tb ad H Q (andThen m f st)) : ∃ a st', m st = .ok a st' ∧ PostL K Tb ad H Q (f a st') := ok_of (P := PostL K Tb ad H Q) id (fun _ _ _ => id) h
theorem PostO.bind {f : α → M (Option Int)} {Q : Option Int → Hp → Prop} (h : PostO K Tb ad H Q (andThen m f st)) : ∃ a st', m st = .ok a st' ∧ PostO K Tb ad H Q (f a st') := ok_of (P := PostO K Tb ad H Q) id (fun _ _ _ => id) h
theorem PostI.bind {f : α → M Walk} {Q : It → Hp → Prop} (h : PostI K Tb ad H Q (andThen m f st)) : ∃ a st', m st = .ok a st' ∧ PostI K Tb ad H Q (f a st') := ok_of (P := PostI K Tb ad H Q) id (fun _ _ _ => id) h
theorem PostS.bind {f : α → M Fl} {Q : Ends} (h : PostS K Tb ad H Q (andThen m f st)) : ∃ a st', m st = .ok a st' ∧ PostS K Tb ad H Q (f a st') := ok_of (P := PostS K Tb ad H Q) id (fun _ _ _ => id) h
theorem PostG.bind {f : α → M Env} {σ : L2.St} {is : List Nat} {Q : L2.St → Hp → Prop} (h : PostG K Tb ad H σ is Q (andThen m f st)) : ∃ a st', m st = .ok a st' ∧ PostG K Tb ad H σ is Q (f a st') := ok_of (P := PostG K Tb ad H σ is Q) id (fun _ _ _ => id) h
end
end DL
namespace DL
open PySem L2
section
variable {X : Cx} {K : PySem.W.Frag} {Tb : List (Addr × Str)} {ad : List Addr} {H : Hp} {st : Store}
theorem SZ_line {n : Nat} (h : n ≤ SZ) : n ≤ sizeLine := by rw [sizeLine_eq]; exact h
theorem SZ_lt {n : Nat} (h : n < SZ) : n < sizeLine := by rw [sizeLine_eq]; exact h
/-! ### names, constants -/
theorem d_var (i : Nat) {x : Str} {pos : Pos} (hN : X.N[i]? = some x := by rfl) (hv : Vis X.env.scope x := by first | exact Or.inl rfl | exact Or.inr (Or.inl rfl) | exact Or.inr (Or.inr rfl)) (hd : (x == ("__debug__" : Str)) = false := by decide)
    (hcd : (x == ("__classdict__" : Str)) = false := by decide) : PE X (.Name x pos) (TD X.K Tb (gVar i)) := by
  refine PE.of (pe_var hN hv hd hcd) fun σ H Q ⟨ad, ρ, st, R, S, h⟩ => ?_
  unfold gVar at h
  cases e : ρ[i]? with
  | none => rw [e] at h; exact h.elim
  | some o =>
    cases o with
    | none => rw [e] at h; exact h.elim
    | some d =>
      rw [e] at h
      obtain ⟨v, h1, h2⟩ := R.2 i d e
      exact ⟨v, h1, h ad H v Ext.refl h2 S⟩
theorem d_c {e : Expr} {v : V} {d : D} (h : PE X e (tC v)) (r : ∀ ad H, RV X.K ad H v d) : PE X e (TD X.K Tb (gC d)) :=
  PE.of h fun σ H Q ⟨ad, ρ, st, R, S, h⟩ => h ad H v Ext.refl (r ad H) S
theorem d_int {i j pos} : PE X (.Constant (.int i) j pos) (TD X.K Tb (gC (.int i))) := d_c pe_int fun _ _ => .int _
theorem d_bl {b j pos} : PE X (.Constant (.bool b) j pos) (TD X.K Tb (gC (.bl b))) := d_c pe_bl fun _ _ => .bl _
theorem d_non {j pos} : PE X (.Constant .none j pos) (TD X.K Tb (gC .non)) := d_c pe_non fun _ _ => .non
theorem d_str {x j pos} : PE X (.Constant (.str x) j pos) (TD X.K Tb (gC (.str x))) := d_c pe_str fun _ _ => .str _
/-- a constant of the module -/
theorem d_glob {x : Str} {v : V} {u : Value} {d : D} {pos : Pos} (hm : X.mg x = some u) (r : RelV v u) (rd : ∀ ad H, RV X.K ad H v d) (hg : Gl X x := by rfl) (hd : (x == ("__debug__" : Str)) = false := by decide) : PE X (.Name x pos) (TD X.K Tb (gC d)) :=
  d_c (pe_glob hg hm r hd) rd
/-! ### operators -/
def Snd2 (K : PySem.W.Frag) (Tb : List (Addr × Str)) (r : R2) (h : O2) : Prop :=
  ∀ (ad : List Addr) (H : Hp) (st : Store) (x y : V) (d e : D) (Q : VK), RV K ad H x d → RV K ad H y e → RS K Tb ad H st → PostD K Tb ad H Q (h d e st) → r x y H Q
def Snd1 (K : PySem.W.Frag) (Tb : List (Addr × Str)) (r : V → Hp → VK → Prop) (h : D → M D) : Prop :=
  ∀ (ad : List Addr) (H : Hp) (st : Store) (x : V) (d : D) (Q : VK), RV K ad H x d → RS K Tb ad H st → PostD K Tb ad H Q (h d st) → r x H Q
theorem run2 {r : R2} {h : O2} {ga gb : GE} (s : Snd2 K Tb r h) {σ : L2.St} {Q : VK} (w : TD K Tb (gOp h ga gb) σ H Q) : tOp r (TD K Tb ga) (TD K Tb gb) σ H Q := by
  obtain ⟨ad, ρ, st, R, S, w⟩ := w
  obtain ⟨d, s1, e1, w⟩ := w.bind
  refine ⟨ad, ρ, st, R, S, ?_⟩
  rw [e1]
  refine fun ad1 H1 x x1 r1 S1 => ⟨ad1, ρ, s1, R.mono x1, S1, ?_⟩
  obtain ⟨e, s2, e2, w⟩ := w.bind
  rw [e2]
  exact fun ad2 H2 y x2 r2 S2 => s ad2 H2 s2 x y d e Q (r1.mono x2) r2 S2 (w.shift (x1.trans x2))
theorem run1 {r : V → Hp → VK → Prop} {h : D → M D} {ga : GE} (s : Snd1 K Tb r h) {σ : L2.St} {Q : VK} (w : TD K Tb (gUn h ga) σ H Q) : TD K Tb ga σ H fun x H1 => r x H1 Q := by
  obtain ⟨ad, ρ, st, R, S, w⟩ := w
  obtain ⟨d, s1, e1, w⟩ := w.bind
  refine ⟨ad, ρ, st, R, S, ?_⟩
  rw [e1]
  exact fun ad1 H1 x x1 r1 S1 => s ad1 H1 s1 x d Q r1 S1 (w.shift x1)
variable {a b c : Expr} {ga gb gc : GE} {pos : Pos}
theorem d_op {op : Operator} {r : R2} {h : O2} (ho : OpR X (binaryOp op) r) (s : Snd2 X.K Tb r h) (ha : PE X a (TD X.K Tb ga)) (hb : PE X b (TD X.K Tb gb)) : PE X (.BinOp a op b pos) (TD X.K Tb (gOp h ga gb)) :=
  PE.of (pe_op ho ha hb) fun σ H Q w => run2 s w
theorem d_cmp {op : CmpOp} {r : R2} {h : O2} (ho : OpR X (compareOp op) r) (s : Snd2 X.K Tb r h) (ha : PE X a (TD X.K Tb ga)) (hb : PE X b (TD X.K Tb gb)) (hm : behindInMarks op b = false := by first | exact nomark _ | rfl) : PE X (.Compare a [op] [b] pos) (TD X.K Tb (gOp h ga gb)) :=
  PE.of (pe_cmpR ho ha hb hm) fun σ H Q w => run2 s w
theorem tB_run {g : GE} {σ : L2.St} {Q : Bool → Hp → Prop} (w : TB K Tb (tB g) σ H Q) : TD K Tb g σ H fun x H' => ∃ k, x = .bl k ∧ Q k H' := by
  obtain ⟨ad, ρ, st, R, S, w⟩ := w
  obtain ⟨d, s1, e1, w⟩ := w.bind
  refine ⟨ad, ρ, st, R, S, ?_⟩
  rw [e1]
  refine fun ad1 H1 x x1 r1 S1 => ?_
  cases d with
  | bl k => cases r1; exact ⟨k, rfl, w ad1 H1 x1 S1⟩
  | _ => exact w.elim
theorem d_tcmp {op : CmpOp} {r : R2} {h : O2} (ho : OpR X (compareOp op) r) (s : Snd2 X.K Tb r h) (ha : PE X a (TD X.K Tb ga)) (hb : PE X b (TD X.K Tb gb)) (hm : behindInMarks op b = false := by first | exact nomark _ | rfl) : PT X (.Compare a [op] [b] pos) (TB X.K Tb (tB (gOp h ga gb))) :=
  PT.of (pt_cmpR ho ha hb hm) fun σ H Q w => by
    obtain ⟨ad, ρ, st, R, S, w⟩ := tB_run w
    exact run2 s ⟨ad, ρ, st, R, S, w⟩
theorem d_tval {e : Expr} {g : GE} (h : PE X e (TD X.K Tb g)) (he : ∀ whole, isTrue e X.env whole = (do let v ← whole; standAt e.pos; holding [v] (truthy v)) := by intro _; rfl) : PT X e (TB X.K Tb (tB g)) :=
  PT.of (pt_val h he) fun σ H Q w => tB_run w
theorem run_chain {r r' : R2} {h h' : O2} (s : Snd2 K Tb r h) (s' : Snd2 K Tb r' h') {σ : L2.St} {Q : VK} (ww : TD K Tb (gChain h h' ga gb gc) σ H Q) : tChain r r' (TD K Tb ga) (TD K Tb gb) (TD K Tb gc) σ H Q := by
  obtain ⟨ad, ρ, st, R, S, w⟩ := ww
  obtain ⟨d, s1, e1, w⟩ := w.bind
  refine ⟨ad, ρ, st, R, S, ?_⟩
  rw [e1]
  refine fun ad1 H1 x x1 r1 S1 => ⟨ad1, ρ, s1, R.mono x1, S1, ?_⟩
  obtain ⟨e, s2, e2, w⟩ := w.bind
  rw [e2]
  refine fun ad2 H2 y x2 r2 S2 => ?_
  obtain ⟨z, s3, e3, w⟩ := w.bind
  refine s ad2 H2 s2 x y d e _ (r1.mono x2) r2 S2 ?_
  rw [e3]
  refine fun ad3 H3 zv x3 r3 S3 => ?_
  obtain ⟨k, s4, e4, w⟩ := w.bind
  cases z with
  | bl kk =>
    cases r3
    have ek : kk = k ∧ s3 = s4 := by
      have q : Res.ok kk s3 = Res.ok k s4 := e4
      injection q with q1 q2
      exact ⟨q1, q2⟩
    obtain ⟨rfl, rfl⟩ := ek
    refine ⟨kk, rfl, ?_⟩
    cases kk with
    | false => exact w ad3 H3 _ ((x1.trans x2).trans x3) (.bl _) S3
    | true =>
      obtain ⟨v, s5, e5, w⟩ := PostD.bind (m := gc ρ) w
      refine ⟨ad3, ρ, s3, R.mono ((x1.trans x2).trans x3), S3, ?_⟩
      rw [e5]
      exact fun ad4 H4 vv x4 r4 S4 => s' ad4 H4 s5 y vv e v Q ((r2.mono x3).mono x4) r4 S4 (w.shift (((x1.trans x2).trans x3).trans x4))
  | _ => cases e4
theorem d_chain {op op' : CmpOp} {r r' : R2} {h h' : O2} (ho : OpR X (compareOp op) r) (s : Snd2 X.K Tb r h) (ho' : OpR X (compareOp op') r') (s' : Snd2 X.K Tb r' h') (ha : PE X a (TD X.K Tb ga)) (hb : PE X b (TD X.K Tb gb)) (hc : PE X c (TD X.K Tb gc))
    (hm : lastMarks [op, op'] [b, c] = false := by with_unfolding_all rfl) : PE X (.Compare a [op, op'] [b, c] pos) (TD X.K Tb (gChain h h' ga gb gc)) :=
  PE.of (pe_chain ho ho' ha hb hc hm) fun σ H Q w => run_chain s s' w
theorem d_tchain {op op' : CmpOp} {r r' : R2} {h h' : O2} (ho : OpR X (compareOp op) r) (s : Snd2 X.K Tb r h) (ho' : OpR X (compareOp op') r') (s' : Snd2 X.K Tb r' h') (ha : PE X a (TD X.K Tb ga)) (hb : PE X b (TD X.K Tb gb)) (hc : PE X c (TD X.K Tb gc))
    (hm : lastMarks [op, op'] [b, c] = false := by with_unfolding_all rfl) : PT X (.Compare a [op, op'] [b, c] pos) (TB X.K Tb (tB (gChain h h' ga gb gc))) :=
  PT.of (pt_chain ho ho' ha hb hc hm) fun σ H Q w => run_chain s s' (tB_run w)
theorem d_un {op : UnaryOp} {r : V → Hp → VK → Prop} {h : D → M D} (ho : UnR X (unaryOp op) r) (s : Snd1 X.K Tb r h) (ha : PE X a (TD X.K Tb ga)) : PE X (.UnaryOp op a pos) (TD X.K Tb (gUn h ga)) :=
  PE.of (pe_un ho ha) fun σ H Q w => run1 s w
/-! ### the values' rules -/
theorem sI0 {f : Int → Int → V} {g : Int → Int → D} {h : O2} (hr : ∀ i j ad H, RV K ad H (f i j) (g i j)) (hh : ∀ d e st, (∃ i j, d = .int i ∧ e = .int j ∧ h d e st = .ok (g i j) st) ∨ h d e st = .stuck) : Snd2 K Tb (rI0 f) h := by
  intro ad H st x y d e Q rx ry S w
  rcases hh d e st with ⟨i, j, rfl, rfl, q⟩ | q
  · rw [q] at w
    cases rx; cases ry
    exact ⟨i, j, rfl, rfl, w ad H _ Ext.refl (hr i j ad H) S⟩
  · rw [q] at w; exact w.elim
theorem s_sub : Snd2 K Tb (rI0 fun i j => .int (i - j)) vSub := sI0 (g := fun i j => .int (i - j)) (fun _ _ _ _ => .int _) fun d e st => by
  cases d <;> cases e <;> first | exact .inl ⟨_, _, rfl, rfl, rfl⟩ | exact .inr rfl
theorem s_cmp {f : Int → Int → Bool} : Snd2 K Tb (rI0 fun i j => .bl (f i j)) (vCmp f) := sI0 (g := fun i j => .bl (f i j)) (fun _ _ _ _ => .bl _) fun d e st => by
  cases d <;> cases e <;> first | exact .inl ⟨_, _, rfl, rfl, rfl⟩ | exact .inr rfl
theorem s_lt : Snd2 K Tb (rI0 fun i j => .bl (decide (i < j))) vLt := s_cmp
theorem s_le : Snd2 K Tb (rI0 fun i j => .bl (decide (i ≤ j))) vLe := s_cmp
theorem s_gt : Snd2 K Tb (rI0 fun i j => .bl (decide (j < i))) vGt := s_cmp
theorem s_ge : Snd2 K Tb (rI0 fun i j => .bl (decide (j ≤ i))) vGe := s_cmp
theorem sI {C : Int → Int → Prop} {f : Int → Int → V} {g : Int → Int → D} {h : O2} (hr : ∀ i j ad H, RV K ad H (f i j) (g i j)) (hh : ∀ d e st, (∃ i j, d = .int i ∧ e = .int j ∧ C i j ∧ h d e st = .ok (g i j) st) ∨ h d e st = .stuck) : Snd2 K Tb (rI C f) h := by
  intro ad H st x y d e Q rx ry S w
  rcases hh d e st with ⟨i, j, rfl, rfl, c, q⟩ | q
  · rw [q] at w
    cases rx; cases ry
    exact ⟨i, j, rfl, rfl, c, w ad H _ Ext.refl (hr i j ad H) S⟩
  · rw [q] at w; exact w.elim
def CMulA (i j : Int) : Prop := CMul i j ∨ CMulW i j
theorem op_mulA : OpR X (binaryOp .Mult) (rI CMulA fun i j => .int (i * j)) := opI fun _ _ _ _ _ _ _ hc q => PyProof.Rows.mul_int q (hc.elim CMul.ok CMulW.ok)
theorem mulOk_A {i j : Int} (h : mulOk i j = true) : CMulA i j := by
  unfold mulOk at h
  simp only [Bool.or_eq_true, Bool.and_eq_true, decide_eq_true_eq] at h
  rcases h with (h | h) | ⟨h1, h2⟩
  · exact .inl (.inl (by omega))
  · exact .inl (.inr (by omega))
  · exact .inr (wide_mul (a := 400) (b := 400) h1 h2 (by decide) (by decide) (by decide))
theorem s_mul : Snd2 K Tb (rI CMulA fun i j => .int (i * j)) vMul := sI (g := fun i j => .int (i * j)) (fun _ _ _ _ => .int _) fun d e st => by
  cases d <;> cases e <;> try exact .inr rfl
  rename_i i j
  by_cases h : mulOk i j = true
  · exact .inl ⟨i, j, rfl, rfl, mulOk_A h, by simp only [vMul, if_pos h]; rfl⟩
  · exact .inr (by simp only [vMul, if_neg h]; rfl)
theorem s_div : Snd2 K Tb (rI CDivW fun i j => .int (i / j)) vDiv := sI (g := fun i j => .int (i / j)) (fun _ _ _ _ => .int _) fun d e st => by
  cases d <;> cases e <;> try exact .inr rfl
  rename_i i j
  by_cases h : 0 < j ∧ j.natAbs < 2 ^ 400
  · exact .inl ⟨i, j, rfl, rfl, wide_div h.1 h.2 (by decide) (by decide), by simp only [vDiv, if_pos h]; rfl⟩
  · exact .inr (by simp only [vDiv, if_neg h]; rfl)
theorem s_mod : Snd2 K Tb (rI (fun _ j => 0 < j) fun i j => .int (i % j)) vMod := sI (g := fun i j => .int (i % j)) (fun _ _ _ _ => .int _) fun d e st => by
  cases d <;> cases e <;> try exact .inr rfl
  rename_i i j
  by_cases h : 0 < j
  · exact .inl ⟨i, j, rfl, rfl, h, by simp only [vMod, if_pos h]; rfl⟩
  · exact .inr (by simp only [vMod, if_neg h]; rfl)
theorem s_shr : Snd2 K Tb (rI (fun _ j => 0 ≤ j) fun i j => .int (i / 2 ^ j.toNat)) vShr := sI (g := fun i j => .int (i / 2 ^ j.toNat)) (fun _ _ _ _ => .int _) fun d e st => by
  cases d <;> cases e <;> try exact .inr rfl
  rename_i i j
  by_cases h : 0 ≤ j
  · exact .inl ⟨i, j, rfl, rfl, h, by simp only [vShr, if_pos h]; rfl⟩
  · exact .inr (by simp only [vShr, if_neg h]; rfl)
theorem s_neg : Snd1 K Tb (rU fun i => .int (-i)) vNeg := by
  intro ad H st x d Q rx S w
  cases rx <;> first | exact ⟨_, rfl, w ad H _ Ext.refl (.int _) S⟩ | exact w.elim
/-- + -/
def rAddA (K : PySem.W.Frag) : R2 := fun x y H Q => (((rI0 fun i j => .int (i + j)) x y H Q ∨ (∃ i j, x = .str i ∧ y = .str j ∧ i.length + j.length ≤ sizeLine ∧ Q (.str (i ++ j)) H)) ∨ rCatA K x y H Q) ∨ rCat x y H Q
theorem op_addA : OpR X (binaryOp .Add) (rAddA X.K) := ((op_add.or op_add_str).or op_catA).or op_cat
/-- a new tuple, told by its items -/
theorem PostD.newTup {Q : VK} {ds : List D} {xs : List V} (S : RS K Tb ad H st) (r : RVs K ad H xs ds) (w : PostD K Tb ad H Q (.ok (.tup ds) st)) : ∀ p, H p = none → Q (.ref p) (upd H p (.tup xs)) := fun p hp =>
  w ad _ (.ref p) (ext_new hp) (.tup (.inl (.inl upd_same)) (r.mono (ext_new hp))) (S.upd_new hp)
theorem PostD.newLst {Q : VK} {ds : List D} {xs : List V} (S : RS K Tb ad H st) (r : RVs K ad H xs ds) (w : PostD K Tb ad H Q (newList ds st)) : ∀ p, H p = none → Q (.ref p) (upd H p (.lst xs)) := fun p hp => by
  have S1 := S.upd_new (o := .lst xs) hp
  have e1 : Ext K ad H ad (upd H p (.lst xs)) := ext_new hp
  refine w (ad ++ [p]) _ (.ref p) (e1.push (fre_none hp) S) (.rf ?_ (by rw [upd_same]; rfl)) (S1.push upd_same (S.not_mem hp) (r.mono e1))
  rw [← S.len]
  simp
theorem s_add : Snd2 K Tb (rAddA K) vAdd := by
  intro ad H st x y d e Q rx ry S w
  cases rx with
  | int i =>
    cases ry with
    | int j => exact .inl (.inl (.inl ⟨i, j, rfl, rfl, w ad H _ Ext.refl (.int _) S⟩))
    | _ => exact w.elim
  | str i =>
    cases ry with
    | str j =>
      by_cases h : i.length + j.length ≤ SZ
      · have w' : PostD K Tb ad H Q (.ok (.str (i ++ j)) st) := by
          have q := w; simp only [vAdd, if_pos h] at q; exact q
        exact .inl (.inl (.inr ⟨i, j, rfl, rfl, SZ_line h, w' ad H _ Ext.refl (.str _) S⟩))
      · have : False := by have q := w; simp only [vAdd, if_neg h] at q; exact q
        exact this.elim
    | _ => exact w.elim
  | @tup a xs ds h1 r1 =>
    cases ry with
    | @tup b ys es h2 r2 =>
      by_cases h : ds.length + es.length ≤ SZ
      · have w' : PostD K Tb ad H Q (.ok (.tup (ds ++ es)) st) := by
          have q := w; simp only [vAdd, if_pos h] at q; exact q
        refine .inl (.inr ⟨a, b, xs, ys, rfl, rfl, h1, h2, by rw [r1.length, r2.length]; exact SZ_line h, fun hx => ?_, fun hx hy => ?_, fun hx hy => w'.newTup S (r1.append r2)⟩)
        · subst hx
          cases r1
          exact w' ad H _ Ext.refl (.tup h2 r2) S
        · subst hy
          cases r2
          rw [List.append_nil] at w'
          exact w' ad H _ Ext.refl (.tup h1 r1) S
      · have : False := by have q := w; simp only [vAdd, if_neg h] at q; exact q
        exact this.elim
    | _ => exact w.elim
  | @rf n a h1 _ =>
    cases ry with
    | @rf m b h2 _ =>
      unfold vAdd at w
      cases e1 : st[n]? with
      | none => simp only [e1] at w; exact w.elim
      | some c1 =>
        cases e2 : st[m]? with
        | none => simp only [e1, e2] at w; cases c1 <;> exact w.elim
        | some c2 =>
          cases c1 with
          | dct _ _ => simp only [e1, e2] at w; cases c2 <;> exact w.elim
          | oth _ => simp only [e1, e2] at w; cases c2 <;> exact w.elim
          | lst ds =>
            cases c2 with
            | dct _ _ => simp only [e1, e2] at w; exact w.elim
            | oth _ => simp only [e1, e2] at w; exact w.elim
            | lst es =>
              simp only [e1, e2] at w
              by_cases h : ds.length + es.length ≤ SZ
              · rw [if_pos h] at w
                obtain ⟨xs, q1, r1⟩ := S.cell n _ a e1 h1
                obtain ⟨ys, q2, r2⟩ := S.cell m _ b e2 h2
                exact .inr ⟨a, b, xs, ys, rfl, rfl, q1, q2, by rw [r1.length, r2.length]; exact SZ_line h, PostD.newLst S (r1.append r2) w⟩
              · rw [if_neg h] at w; exact w.elim
    | _ => exact w.elim
  | _ => exact w.elim
end
end DL
namespace DL
open PySem L2
section
variable {X : Cx} {K : PySem.W.Frag} {Tb : List (Addr × Str)} {ad : List Addr} {H : Hp} {st : Store}
/-! ### == of data -/
theorem dpAll_of {g : D → Option PyData} (ih : ∀ (v : V) (d : D) (p : PyData), RV K ad H v d → g d = some p → Dp K H v p) : ∀ {vs : List V} {ds : List D} {ps : List PyData}, RVs K ad H vs ds → optAll (ds.map g) = some ps → DpAll K H vs ps
  | _, _, _, .nil, e => by
    have : ([] : List PyData) = _ := Option.some.inj e
    subst this
    exact .nil
  | _, _, ps, .cons (d := d) (ds := ds) h t, e => by
    rw [List.map_cons] at e
    cases q : g d with
    | none => rw [q] at e; cases e
    | some p =>
      rw [q] at e
      have e' : (optAll (ds.map g)).map (p :: ·) = some ps := e
      cases q2 : optAll (ds.map g) with
      | none => rw [q2] at e'; cases e'
      | some qs =>
        rw [q2] at e'
        have : p :: qs = ps := Option.some.inj e'
        subst this
        exact .cons (ih _ _ _ h q) (dpAll_of ih t q2)
theorem dp_of (S : RS K Tb ad H st) : ∀ (f : Nat) (v : V) (d : D) (p : PyData), RV K ad H v d → toPy f st d = some p → Dp K H v p
  | 0, _, _, _, _, e => by cases e
  | f + 1, v, d, p, r, e => by
    cases r with
    | non => cases e; exact .non
    | bl b => cases e; exact .bl b
    | int i => cases e; exact .int i
    | str x => cases e; exact .str x
    | tup h rs =>
      rename_i a xs ds
      have e' : (optAll (ds.map (toPy f st))).map PyData.tuple = some p := e
      cases q : optAll (ds.map (toPy f st)) with
      | none => rw [q] at e'; cases e'
      | some ps =>
        rw [q] at e'
        have : PyData.tuple ps = p := Option.some.inj e'
        subst this
        exact .tup h (dpAll_of (fun v d p => dp_of S f v d p) rs q)
    | cl h rs => cases e
    | dr h hk_ => cases e
    | ob h => cases e
    | rf h hk_ =>
      rename_i n a
      have e' : ((cellItems st n).bind fun ds => (optAll (ds.map (toPy f st))).map .list) = some p := e
      cases q : cellItems st n with
      | none => rw [q] at e'; cases e'
      | some ds =>
        rw [q] at e'
        obtain ⟨xs, hl, rs⟩ := S.items q h
        have e'' : (optAll (ds.map (toPy f st))).map PyData.list = some p := e'
        cases q2 : optAll (ds.map (toPy f st)) with
        | none => rw [q2] at e''; cases e''
        | some ps =>
          rw [q2] at e''
          have : PyData.list ps = p := Option.some.inj e''
          subst this
          exact .lst hl (dpAll_of (fun v d p => dp_of S f v d p) rs q2)
theorem eqPy_dp {x y : V} {d e : D} {k : Bool} (S : RS K Tb ad H st) (rx : RV K ad H x d) (ry : RV K ad H y e) (h : eqPy d e st = some k) :
    ∃ p q, Dp K H x p ∧ Dp K H y q ∧ SeqAt.shaped p = true ∧ SeqAt.shaped q = true ∧ PyData.eqv p q = k := by
  unfold eqPy at h
  cases e1 : toPy DEEP st d with
  | none => rw [e1] at h; cases h
  | some p =>
    cases e2 : toPy DEEP st e with
    | none => rw [e1, e2] at h; cases h
    | some q =>
      rw [e1, e2] at h
      have h' : (if (SeqAt.shaped p && SeqAt.shaped q) = true then some (PyData.eqv p q) else none) = some k := h
      by_cases c : (SeqAt.shaped p && SeqAt.shaped q) = true
      · rw [if_pos c] at h'
        rw [Bool.and_eq_true] at c
        exact ⟨p, q, dp_of S _ _ _ _ rx e1, dp_of S _ _ _ _ ry e2, c.1, c.2, Option.some.inj h'⟩
      · rw [if_neg c] at h'; cases h'
theorem s_eq : Snd2 K Tb (rEqD K) vEq := by
  intro ad H st x y d e Q rx ry S w
  unfold vEq at w
  cases q : eqPy d e st with
  | none => simp only [q] at w; exact w.elim
  | some k =>
    simp only [q] at w
    obtain ⟨p, p', h1, h2, h3, h4, h5⟩ := eqPy_dp S rx ry q
    exact ⟨p, p', h1, h2, h3, h4, by rw [h5]; exact w ad H _ Ext.refl (.bl _) S⟩
theorem s_ne : Snd2 K Tb (rNeD K) vNe := by
  intro ad H st x y d e Q rx ry S w
  unfold vNe at w
  cases q : eqPy d e st with
  | none => simp only [q] at w; exact w.elim
  | some k =>
    simp only [q] at w
    obtain ⟨p, p', h1, h2, h3, h4, h5⟩ := eqPy_dp S rx ry q
    exact ⟨p, p', h1, h2, h3, h4, by rw [h5]; exact w ad H _ Ext.refl (.bl _) S⟩
/-! ### is -/
def rIsA : R2 := fun x y H Q => (y = .non ∧ Q (.bl (decide (x = .non))) H) ∨ rIsB x y H Q
def rIsNotA : R2 := fun x y H Q => (y = .non ∧ Q (.bl (!decide (x = .non))) H) ∨ rNotB x y H Q
theorem op_isA : OpR X (compareOp .Is) rIsA := op_isN.or op_isBl
theorem op_isNotA : OpR X (compareOp .IsNot) rIsNotA := op_notN.or op_notBl
theorem s_is : Snd2 K Tb rIsA vIs := by
  intro ad H st x y d e Q rx ry S w
  cases ry with
  | non =>
    refine .inl ⟨rfl, ?_⟩
    cases rx <;> exact w ad H _ Ext.refl (.bl _) S
  | bl b =>
    cases rx with
    | bl a =>
      refine .inr ⟨a, b, rfl, rfl, ?_⟩
      have q := w ad H _ Ext.refl (.bl _) S
      rw [Bool.beq_eq_decide_eq] at q
      exact q
    | _ => exact w.elim
  | _ => cases rx <;> exact w.elim
theorem s_isNot : Snd2 K Tb rIsNotA vIsNot := by
  intro ad H st x y d e Q rx ry S w
  cases ry with
  | non =>
    refine .inl ⟨rfl, ?_⟩
    cases rx <;> exact w ad H _ Ext.refl (.bl _) S
  | bl b =>
    cases rx with
    | bl a =>
      refine .inr ⟨a, b, rfl, rfl, ?_⟩
      have q := w ad H _ Ext.refl (.bl _) S
      rw [Bool.beq_eq_decide_eq] at q
      exact q
    | _ => exact w.elim
  | _ => cases rx <;> exact w.elim
/-! ### in -/
def rInA (K : PySem.W.Frag) : R2 := fun x y H Q => rIn K false x y H Q ∨ rInD K x y H Q
def rNotInA (K : PySem.W.Frag) : R2 := fun x y H Q => rIn K true x y H Q ∨ rNotInD K x y H Q
theorem op_inA (hu : X.A.units + 65 < cLine) : OpR X (compareOp .In) (rInA X.K) := op_in_seq.or (op_inD hu)
theorem op_notInA (hu : X.A.units + 65 < cLine) : OpR X (compareOp .NotIn) (rNotInA X.K) := op_notIn_seq.or (op_notInD hu)
theorem inB_of {x y : V} {d e : D} {k : Bool} (S : RS K Tb ad H st) (rx : RV K ad H x d) (ry : RV K ad H y e) (h : inB d e st = some k) :
    (∃ p xs, y = .ref p ∧ (SqL K H p xs ∨ SqT K H p xs) ∧ flatV x = true ∧ xs.all flatV = true ∧ inV x xs = k) ∨
    ∃ p qs, Dp K H x p ∧ Dp K H y (.list qs) ∧ SeqAt.shaped p = true ∧ SeqAt.shaped (.list qs) = true ∧ (qs.any fun z => PyData.eqv z p) = k := by
  cases ry with
  | tup h2 r2 =>
    rename_i b ys es
    have h' : (if (flat d && es.all flat) = true then some (es.any fun z => eqF z d) else none) = some k := h
    by_cases c : (flat d && es.all flat) = true
    · rw [if_pos c] at h'
      rw [Bool.and_eq_true] at c
      exact .inl ⟨b, ys, rfl, .inr h2, flat_of rx c.1, r2.flat_all c.2, (any_of rx c.1 r2 c.2).trans (Option.some.inj h')⟩
    · rw [if_neg c] at h'; cases h'
  | rf h2 hk_ =>
    rename_i n b
    unfold inB at h
    simp only at h
    cases e1 : toPy DEEP st d with
    | none => simp only [e1] at h; cases h
    | some p =>
      cases e2 : toPy DEEP st (.rf n) with
      | none => simp only [e1, e2] at h; cases h
      | some q =>
        cases q with
        | list qs =>
          simp only [e1, e2] at h
          by_cases c : (SeqAt.shaped p && SeqAt.shaped (.list qs)) = true
          · rw [if_pos c] at h
            rw [Bool.and_eq_true] at c
            exact .inr ⟨p, qs, dp_of S _ _ _ _ rx e1, dp_of S _ _ _ _ (.rf h2 hk_) e2, c.1, c.2, Option.some.inj h⟩
          · rw [if_neg c] at h; cases h
        | _ => simp only [e1, e2] at h; cases h
  | _ => cases h
theorem s_in : Snd2 K Tb (rInA K) vIn := by
  intro ad H st x y d e Q rx ry S w
  unfold vIn at w
  cases q : inB d e st with
  | none => simp only [q] at w; exact w.elim
  | some k =>
    simp only [q] at w
    have fin := w ad H _ Ext.refl (.bl k) S
    rcases inB_of S rx ry q with ⟨p, xs, h1, h2, h3, h4, h5⟩ | ⟨p, qs, h1, h2, h3, h4, h5⟩
    · exact .inl ⟨p, xs, h1, h2, h3, h4, by rw [if_neg Bool.false_ne_true, h5]; exact fin⟩
    · exact .inr ⟨p, qs, h1, h2, h3, h4, by rw [h5]; exact fin⟩
theorem s_notIn : Snd2 K Tb (rNotInA K) vNotIn := by
  intro ad H st x y d e Q rx ry S w
  unfold vNotIn at w
  cases q : inB d e st with
  | none => simp only [q] at w; exact w.elim
  | some k =>
    simp only [q] at w
    have fin := w ad H _ Ext.refl (.bl (!k)) S
    rcases inB_of S rx ry q with ⟨p, xs, h1, h2, h3, h4, h5⟩ | ⟨p, qs, h1, h2, h3, h4, h5⟩
    · exact .inl ⟨p, xs, h1, h2, h3, h4, by rw [if_pos rfl, h5]; exact fin⟩
    · exact .inr ⟨p, qs, h1, h2, h3, h4, by rw [h5]; exact fin⟩
/-! ### items, lengths -/
theorem vIx_rf {n : Nat} {i : Int} {Q : VK} (w : PostD K Tb ad H Q (vIx (.rf n) (.int i) st)) : ∃ ds d, cellItems st n = some ds ∧ atD ds i = some d ∧ PostD K Tb ad H Q (.ok d st) := by
  unfold vIx at w
  cases q : cellItems st n with
  | none => simp only [q] at w; exact w.elim
  | some ds =>
    simp only [q] at w
    cases q2 : atD ds i with
    | none => simp only [Option.bind, q2] at w; exact w.elim
    | some d => simp only [Option.bind, q2] at w; exact ⟨ds, d, rfl, q2, w⟩
theorem atI_D {α : Type} (xs : List α) (i : Int) : atD xs i = L2.atI xs i := rfl
theorem s_ix : Snd2 K Tb (rIx K) vIx := by
  intro ad H st x y d e Q rx ry S w
  cases rx with
  | tup h1 r1 =>
    rename_i a xs ds
    cases ry with
    | int i =>
      unfold vIx at w
      simp only at w
      cases q : atD ds i with
      | none => simp only [q] at w; exact w.elim
      | some d =>
        simp only [q] at w
        obtain ⟨v, g1, g2⟩ := r1.atI q
        exact .inr (.inl ⟨a, xs, i, v, rfl, rfl, h1, g1, w ad H v Ext.refl g2 S⟩)
    | _ => exact w.elim
  | rf h1 hk_ =>
    rename_i n a
    cases ry with
    | int i =>
      obtain ⟨ds, d, q1, q2, w⟩ := vIx_rf w
      obtain ⟨xs, g1, g2⟩ := S.items q1 h1
      obtain ⟨v, g3, g4⟩ := g2.atI q2
      exact .inl ⟨a, xs, i, v, rfl, rfl, g1, g3, w ad H v Ext.refl g4 S⟩
    | _ => exact w.elim
  | str z =>
    cases ry with
    | int i =>
      unfold vIx at w
      simp only at w
      by_cases c : z.length ≤ SZ
      · rw [if_pos c] at w
        cases q : atD z.cps.toList i with
        | none => simp only [q] at w; exact w.elim
        | some d =>
          simp only [q] at w
          exact .inr (.inr ⟨z, i, d, rfl, rfl, SZ_line c, q, w ad H _ Ext.refl (.str _) S⟩)
      · rw [if_neg c] at w; exact w.elim
    | _ => exact w.elim
  | _ => cases ry <;> exact w.elim
variable {a b c : Expr} {ga gb gc : GE} {pos : Pos}
theorem d_ix (ha : PE X a (TD X.K Tb ga)) (hb : PE X b (TD X.K Tb gb)) (hs : PlainIx b := by exact fun _ _ => rfl) : PE X (.Subscript a b pos) (TD X.K Tb (gOp vIx ga gb)) :=
  PE.of (pe_ix ix_seq ha hb hs) fun σ H Q w => run2 s_ix w
/-! ### argument lists, displays -/
theorem da_nil : PA X [] (TAs X.K Tb gNil) := PA.of pa_nil fun σ H Q ⟨ad, ρ, st, R, S, w⟩ => w ad H [] Ext.refl .nil S
theorem da_cons {es : List Expr} {gs : GA} (ha : PE X a (TD X.K Tb ga)) (hr : PA X es (TAs X.K Tb gs)) (hs : starEach (a :: es) X.env = (false, eval a X.env) :: starEach es X.env := by rfl) : PA X (a :: es) (TAs X.K Tb (gCons ga gs)) := by
  refine PA.of (pa_cons ha hr hs) fun σ H Q ⟨ad, ρ, st, R, S, w⟩ => ?_
  obtain ⟨d, s1, e1, w⟩ := w.bind
  refine ⟨ad, ρ, st, R, S, ?_⟩
  rw [e1]
  refine fun ad1 H1 x x1 r1 S1 => ⟨ad1, ρ, s1, R.mono x1, S1, ?_⟩
  obtain ⟨ds, s2, e2, w⟩ := w.bind
  rw [e2]
  exact fun ad2 H2 xs x2 r2 S2 => w ad2 H2 _ (x1.trans x2) (.cons (r1.mono x2) r2) S2
theorem da_star {es : List Expr} {gs : GA} {p : Pos} (ha : PE X a (TD X.K Tb ga)) (hr : PA X es (TAs X.K Tb gs)) (hs : starEach (.Starred a p :: es) X.env = (true, eval a X.env) :: starEach es X.env := by rfl) : PA X (.Starred a p :: es) (TAs X.K Tb (gStar ga gs)) := by
  refine PA.of (StX.pa_star ha hr hs) fun σ H Q ⟨ad, ρ, st, R, S, w⟩ => ?_
  obtain ⟨d, s1, e1, w⟩ := w.bind
  refine ⟨ad, ρ, st, R, S, ?_⟩
  rw [e1]
  refine fun ad1 H1 x x1 r1 S1 => ?_
  obtain ⟨ds, s2, e2, w2⟩ := w.bind
  have fin : ∀ (xs : List V), RVs X.K ad1 H1 xs ds → s2 = s1 → TAs X.K Tb gs σ H1 fun ys H2 => Q (xs ++ ys) H2 := fun xs rxs es => by
    subst es
    obtain ⟨es, s3, e3, w3⟩ := w2.bind
    refine ⟨ad1, ρ, s2, R.mono x1, S1, ?_⟩
    rw [e3]
    exact fun ad2 H2 ys x2 r2 S2 => w3 ad2 H2 _ (x1.trans x2) ((rxs.mono x2).append r2) S2
  cases r1 with
  | tup h1 rs =>
    rename_i p' xs ds'
    have q : Res.ok ds' s1 = Res.ok ds s2 := e2
    injection q with q1 q2
    subst q1
    exact ⟨p', xs, rfl, .inl h1, fin xs rs q2.symm⟩
  | rf h1 hk_ =>
    rename_i n p'
    unfold vItems at e2
    cases q : cellItems s1 n with
    | none => simp only [q] at e2; cases e2
    | some ds' =>
      simp only [q] at e2
      injection e2 with q1 q2
      subst q1
      obtain ⟨xs, g1, g2⟩ := S1.items q h1
      exact ⟨p', xs, rfl, .inr g1, fin xs g2 q2.symm⟩
  | _ => cases e2
theorem small_ok {ds es : List D} {s s' : Store} (h : small ds s = .ok es s') : ds.length ≤ SZ ∧ es = ds ∧ s' = s := by
  unfold small at h
  by_cases c : ds.length ≤ SZ
  · rw [if_pos c] at h
    have q : Res.ok ds s = Res.ok es s' := h
    injection q with q1 q2
    exact ⟨c, q1.symm, q2.symm⟩
  · rw [if_neg c] at h; cases h
theorem d_tup {es : List Expr} {gs : GA} {k : Nat} (h : PA X es (TAs X.K Tb gs)) : PE X (.Tuple es k pos) (TD X.K Tb (gTup gs)) := by
  refine PE.of (pe_tup h) fun σ H Q ⟨ad, ρ, st, R, S, w⟩ => ?_
  obtain ⟨ds, s1, e1, w⟩ := w.bind
  refine ⟨ad, ρ, st, R, S, ?_⟩
  rw [e1]
  refine fun ad1 H1 xs x1 r1 S1 => ?_
  obtain ⟨ds', s2, e2, w2⟩ := w.bind
  obtain ⟨c, rfl, rfl⟩ := small_ok e2
  exact ⟨by rw [r1.length]; exact SZ_line c, PostD.newTup S1 r1 (w2.shift x1)⟩
/-- a display of a list: a list made on the spot -/
theorem dl_lst {es : List Expr} {gs : GA} (h : PA X es (TAs X.K Tb gs)) : PE X (.List es pos) (TL X.K Tb (gLst gs)) := by
  refine PE.of (pe_lst h) fun σ H Q ⟨ad, ρ, st, R, S, w⟩ => ?_
  obtain ⟨ds, s1, e1, w⟩ := w.bind
  refine ⟨ad, ρ, st, R, S, ?_⟩
  rw [e1]
  refine fun ad1 H1 xs x1 r1 S1 => ?_
  cases e2 : small ds s1 with
  | ok es s2 =>
    obtain ⟨c, rfl, rfl⟩ := small_ok e2
    rw [e2] at w
    refine ⟨by rw [r1.length]; exact SZ_line c, fun p hp => ?_⟩
    have x2 : Ext X.K ad1 H1 ad1 (upd H1 p (.lst xs)) := ext_new hp
    exact w ad1 _ p xs (x1.trans x2) (x1.none_of S1 hp) (S1.not_mem hp) upd_same (r1.mono x2) (S1.upd_new hp)
  | stuck => rw [e2] at w; exact w.elim
  | exc _ _ _ => rw [e2] at w; exact w.elim
/-- .. that is kept -/
theorem d_new {gs : GA} (h : PE X a (TL X.K Tb gs)) : PE X a (TD X.K Tb (gNew gs)) := by
  refine PE.of h fun σ H Q ⟨ad, ρ, st, R, S, w⟩ => ?_
  obtain ⟨ds, s1, e1, w⟩ := w.bind
  refine ⟨ad, ρ, st, R, S, ?_⟩
  rw [e1]
  intro ad1 H1 p xs x1 hp np hl r1 S1
  refine w (ad1 ++ [p]) H1 (.ref p) (x1.push hp S) (.rf ?_ (by rw [hl]; rfl)) (S1.push hl np r1)
  rw [← S1.len]
  simp
end
end DL
namespace DL
open PySem L2
section
variable {X : Cx} {K : PySem.W.Frag} {Tb : List (Addr × Str)} {ad : List Addr} {H : Hp} {st : Store} {a b c e : Expr} {ga gb gc g : GE} {gs : GA} {t u : GT} {pos p : Pos}
/-! ### slices -/
theorem do_none : PO X none (TOp X.K Tb oNone) := PO.of po_none fun σ H Q ⟨ad, ρ, st, R, S, w⟩ => w ad H Ext.refl S
theorem asInt_ok {d : D} {i : Int} {s s' : Store} (h : asInt d s = .ok i s') : d = .int i ∧ s' = s := by
  cases d with
  | int j =>
    have q : Res.ok j s = Res.ok i s' := h
    injection q with q1 q2
    exact ⟨by rw [q1], q2.symm⟩
  | _ => cases h
theorem do_some (ha : PE X a (TD X.K Tb ga)) : PO X (some a) (TOp X.K Tb (oSome ga)) := PO.of (po_some ha) fun σ H Q ⟨ad, ρ, st, R, S, w⟩ => by
  obtain ⟨d, s1, e1, w1⟩ := w.bind
  refine ⟨ad, ρ, st, R, S, ?_⟩
  rw [e1]
  intro ad1 H1 x x1 r1 S1
  obtain ⟨i, s2, e2, w2⟩ := w1.bind
  obtain ⟨rfl, rfl⟩ := asInt_ok e2
  cases r1
  exact ⟨i, rfl, w2 ad1 H1 x1 S1⟩
theorem run_sl {r : V → Option Int → Option Int → Hp → VK → Prop} {lo hi : Env → M (Option Int)} {f : D → Option Int → Option Int → M D} {σ : L2.St} {Q : VK}
    (s : ∀ (ad : List Addr) (H : Hp) (st : Store) (x : V) (d : D) (l h : Option Int) (Q : VK), RV K ad H x d → RS K Tb ad H st → PostD K Tb ad H Q (f d l h st) → r x l h H Q)
    (w : TD K Tb (fun ρ => andThen (ga ρ) fun x => andThen (lo ρ) fun l => andThen (hi ρ) fun u => f x l u) σ H Q) : tSl r (TD K Tb ga) (TOp K Tb lo) (TOp K Tb hi) σ H Q := by
  obtain ⟨ad, ρ, st, R, S, w⟩ := w
  obtain ⟨d, s1, e1, w1⟩ := w.bind
  refine ⟨ad, ρ, st, R, S, ?_⟩
  rw [e1]
  refine fun ad1 H1 x x1 r1 S1 => ⟨ad1, ρ, s1, R.mono x1, S1, ?_⟩
  obtain ⟨l, s2, e2, w2⟩ := w1.bind
  rw [e2]
  refine fun ad2 H2 x2 S2 => ⟨ad2, ρ, s2, R.mono (x1.trans x2), S2, ?_⟩
  obtain ⟨h, s3, e3, w3⟩ := w2.bind
  rw [e3]
  exact fun ad3 H3 x3 S3 => s ad3 H3 s3 x d l h Q ((r1.mono x2).mono x3) S3 (w3.shift ((x1.trans x2).trans x3))
variable {lo hi : Option Expr} {gl gh : Env → M (Option Int)} {p2 : Pos}
def rSlX (K : PySem.W.Frag) : V → Option Int → Option Int → Hp → VK → Prop := fun x lo hi H Q => rSlA K x lo hi H Q ∨ (fun x lo hi H Q => rSlS x lo hi H Q ∨ rSlL K x lo hi H Q) x lo hi H Q
theorem sl_any : SlR X (rSlX X.K) := sl_tupA.or (sl_str.or sl_list)
theorem s_sl (ad : List Addr) (H : Hp) (st : Store) (x : V) (d : D) (l h : Option Int) (Q : VK) (r : RV K ad H x d) (S : RS K Tb ad H st) (w : PostD K Tb ad H Q (vSl d l h st)) : rSlX K x l h H Q := by
  cases r with
  | @tup q xs ds h1 rs =>
    have w' : PostD K Tb ad H Q (.ok (.tup (cutD ds l h)) st) := w
    refine .inl ⟨q, xs, rfl, h1, fun hw => ?_, fun hw => w'.newTup S (rs.cut l h)⟩
    have e : cutD ds l h = ds := by
      unfold cutD
      rw [sIx_eq, sIx_eq, ← rs.length, hw.1, hw.2]
      rw [rs.length]
      simp
    rw [e] at w'
    exact w' ad H _ Ext.refl (.tup h1 rs) S
  | str z =>
    have w' : PostD K Tb ad H Q ((if z.length ≤ SZ then ret (.str (cutS z l h)) else bad : M D) st) := w
    by_cases c : z.length ≤ SZ
    · rw [if_pos c] at w'
      exact .inr (.inl ⟨z, rfl, SZ_line c, w' ad H _ Ext.refl (.str _) S⟩)
    · rw [if_neg c] at w'; exact w'.elim
  | @rf n q h1 _ =>
    unfold vSl at w
    simp only at w
    cases e4 : cellItems st n with
    | none => simp only [e4] at w; exact w.elim
    | some ds =>
      simp only [e4] at w
      obtain ⟨xs, g1, g2⟩ := S.items e4 h1
      exact .inr (.inr ⟨q, xs, rfl, g1, PostD.newLst S (g2.cut l h) w⟩)
  | _ => exact w.elim
theorem d_sl (ha : PE X a (TD X.K Tb ga)) (hl : PO X lo (TOp X.K Tb gl)) (hh : PO X hi (TOp X.K Tb gh)) : PE X (.Subscript a (.Slice lo hi none p2) pos) (TD X.K Tb (gSl ga gl gh)) :=
  PE.of (pe_slice sl_any ha hl hh) fun σ H Q w => run_sl s_sl w
/-! ### built-in calls of one argument -/
theorem run_c1 {r : List V → Hp → VK → Prop} {h : D → M D} {σ : L2.St} {Q : VK} (s : Snd1 K Tb (fun x H Q => r [x] H Q) h) (w : TD K Tb (gUn h ga) σ H Q) : tCB r (TAs K Tb (gCons ga gNil)) σ H Q := by
  obtain ⟨ad, ρ, st, R, S, w⟩ := w
  obtain ⟨d, s1, e1, w1⟩ := w.bind
  refine ⟨ad, ρ, st, R, S, ?_⟩
  have e : gCons ga gNil ρ st = .ok [d] s1 := by unfold gCons gNil andThen; rw [e1]; rfl
  rw [e]
  intro ad1 H1 xs x1 r1 S1
  cases r1 with
  | cons r2 r3 =>
    cases r3
    exact s ad1 H1 s1 _ d Q r2 S1 (w1.shift x1)
theorem d_call1 {id : String} {x : Str} {r : List V → Hp → VK → Prop} {h : D → M D} (hc : CallR X (.builtin id) r) (s : Snd1 X.K Tb (fun x H Q => r [x] H Q) h) (hm : X.mg x = none) (ha : PE X a (TD X.K Tb ga)) (hg : Gl X x := by rfl)
    (hv : bootBuiltins x = some (.builtin id) := by decide +kernel) (he : starEach [a] X.env = (false, eval a X.env) :: starEach [] X.env := by rfl) (hn : x ≠ "__name__" := by decide) (hdb : (x == ("__debug__" : Str)) = false := by decide) : PE X (.Call (.Name x p) [a] [] pos) (TD X.K Tb (gUn h ga)) :=
  PE.of (pe_callB hc hg hm hv (da_cons ha da_nil he) hn hdb he) fun σ H Q w => run_c1 s w
theorem d_callT1 {T : String} {x : Str} {r : List V → Hp → VK → Prop} {h : D → M D} (hc : CallR X (.type T) r) (s : Snd1 X.K Tb (fun x H Q => r [x] H Q) h) (hm : X.mg x = none) (ha : PE X a (TD X.K Tb ga)) (hg : Gl X x := by rfl)
    (hv : bootBuiltins x = some (.type T) := by decide +kernel) (he : starEach [a] X.env = (false, eval a X.env) :: starEach [] X.env := by rfl) (hn : x ≠ "__name__" := by decide) (hdb : (x == ("__debug__" : Str)) = false := by decide) : PE X (.Call (.Name x p) [a] [] pos) (TD X.K Tb (gUn h ga)) :=
  PE.of (pe_callTy hc hg hm hv (da_cons ha da_nil he) hn hdb he) fun σ H Q w => run_c1 s w
theorem s_abs : Snd1 K Tb (fun x H Q => (fun (xs : List V) (H : Hp) (Q : VK) => ∃ i, xs = [.int i] ∧ Q (.int (if i < 0 then -i else i)) H) [x] H Q) vAbs := by
  intro ad H st x d Q r S w
  cases r <;> first | exact ⟨_, rfl, w ad H _ Ext.refl (.int _) S⟩ | exact w.elim
theorem s_int : Snd1 K Tb (fun x H Q => (fun (xs : List V) (H : Hp) (Q : VK) => (∃ i, xs = [.int i] ∧ Q (.int i) H) ∨ ∃ k, xs = [.bl k] ∧ Q (.int (if k then 1 else 0)) H) [x] H Q) vInt := by
  intro ad H st x d Q r S w
  cases r <;> first | exact .inl ⟨_, rfl, w ad H _ Ext.refl (.int _) S⟩ | exact .inr ⟨_, rfl, w ad H _ Ext.refl (.int _) S⟩ | exact w.elim
theorem s_len : Snd1 K Tb (fun x H Q => (fun (xs : List V) (H : Hp) (Q : VK) => ∃ x n, xs = [x] ∧ LenV K x H n ∧ Q (.int n) H) [x] H Q) vLen := by
  intro ad H st x d Q r S w
  cases r with
  | tup h1 rs =>
    rename_i q xs ds
    have w' : PostD K Tb ad H Q (.ok (.int ds.length) st) := w
    exact ⟨_, xs.length, rfl, .inr ⟨xs, h1, rfl⟩, by rw [rs.length]; exact w' ad H _ Ext.refl (.int _) S⟩
  | rf h1 hk_ =>
    rename_i n q
    unfold vLen at w
    simp only at w
    cases e : cellItems st n with
    | none => simp only [e] at w; exact w.elim
    | some ds =>
      simp only [e] at w
      obtain ⟨xs, g1, g2⟩ := S.items e h1
      exact ⟨_, xs.length, rfl, .inl ⟨xs, g1, rfl⟩, by rw [g2.length]; exact w ad H _ Ext.refl (.int _) S⟩
  | str z =>
    unfold vLen at w
    simp only at w
    by_cases c : z.length ≤ SZ
    · rw [if_pos c] at w
      exact ⟨_, z.length, rfl, ⟨SZ_line c, rfl⟩, w ad H _ Ext.refl (.int _) S⟩
    · rw [if_neg c] at w; exact w.elim
  | _ => exact w.elim
theorem s_tuple : Snd1 K Tb (fun x H Q => (fun (xs : List V) (H : Hp) (Q : VK) => ∃ p ys, xs = [.ref p] ∧ ((SqL K H p ys ∧ ∀ l, H l = none → Q (.ref l) (upd H l (.tup ys))) ∨ (SqT K H p ys ∧ Q (.ref p) H))) [x] H Q) vTuple := by
  intro ad H st x d Q r S w
  cases r with
  | tup h1 rs =>
    rename_i q xs ds
    exact ⟨q, xs, rfl, .inr ⟨h1, w ad H _ Ext.refl (.tup h1 rs) S⟩⟩
  | rf h1 hk_ =>
    rename_i n q
    unfold vTuple at w
    simp only at w
    cases e : cellItems st n with
    | none => simp only [e] at w; exact w.elim
    | some ds =>
      simp only [e] at w
      obtain ⟨xs, g1, g2⟩ := S.items e h1
      exact ⟨q, xs, rfl, .inl ⟨g1, PostD.newTup S g2 w⟩⟩
  | _ => exact w.elim
theorem vItems_ok {d : D} {ds : List D} {s s' : Store} {x : V} (S : RS K Tb ad H s) (r : RV K ad H x d) (h : vItems d s = .ok ds s') : s' = s ∧ ∃ q xs, x = .ref q ∧ (SqL K H q xs ∨ SqT K H q xs) ∧ RVs K ad H xs ds := by
  cases r with
  | tup h1 rs =>
    rename_i q xs ds'
    have z : Res.ok ds' s = Res.ok ds s' := h
    injection z with z1 z2
    subst z1
    exact ⟨z2.symm, q, xs, rfl, .inr h1, rs⟩
  | rf h1 hk_ =>
    rename_i n q
    unfold vItems at h
    simp only at h
    cases e : cellItems s n with
    | none => simp only [e] at h; cases h
    | some ds' =>
      simp only [e] at h
      injection h with z1 z2
      subst z1
      obtain ⟨xs, g1, g2⟩ := S.items e h1
      exact ⟨z2.symm, q, xs, rfl, .inl g1, g2⟩
  | _ => cases h
/-- list(x): a list made on the spot -/
theorem dl_list {x : Str} (hx : x = "list") (hm : X.mg x = none) (ha : PE X a (TD X.K Tb ga)) (hg : Gl X x := by rfl) (he : starEach [a] X.env = (false, eval a X.env) :: starEach [] X.env := by rfl) (hdb : (x == ("__debug__" : Str)) = false := by decide) :
    PE X (.Call (.Name x p) [a] [] pos) (TL X.K Tb (gList ga)) := by
  subst hx
  refine PE.of (pe_callTy (T := "list") call_list_of hg hm (by decide +kernel) (da_cons ha da_nil he) (by decide) hdb he) fun σ H Q ⟨ad, ρ, st, R, S, w⟩ => ?_
  obtain ⟨d, s1, e1, w1⟩ := w.bind
  refine ⟨ad, ρ, st, R, S, ?_⟩
  have e : gCons ga gNil ρ st = .ok [d] s1 := by unfold gCons gNil andThen; rw [e1]; rfl
  rw [e]
  intro ad1 H1 xs x1 r1 S1
  cases r1 with
  | cons r2 r3 =>
    cases r3
    cases e2 : vItems d s1 with
    | ok ds s2 =>
      rw [e2] at w1
      obtain ⟨rfl, q, ys, rfl, g1, g2⟩ := vItems_ok S1 r2 e2
      refine ⟨q, ys, rfl, g1, fun l hl => ?_⟩
      have x2 : Ext X.K ad1 H1 ad1 (upd H1 l (.lst ys)) := ext_new hl
      exact w1 ad1 _ l ys (x1.trans x2) (x1.none_of S1 hl) (S1.not_mem hl) upd_same (g2.mono x2) (S1.upd_new hl)
    | stuck => rw [e2] at w1; exact w1.elim
    | exc _ _ _ => rw [e2] at w1; exact w1.elim
theorem d_upper {o : Expr} {apos cpos : Pos} {m : Str} (hm : m = "upper") (ho : PE X o (TD X.K Tb g)) (hbase : attributeBase o m X.env (eval o X.env) = eval o X.env := by rfl) (hline : (apos.endLine == cpos.line) = true := by rfl) :
    PE X (.Call (.Attribute o m apos) [] [] cpos) (TD X.K Tb (gUn vUpper g)) := by
  subst hm
  refine PE.of (pe_upper ho hbase hline) fun σ H Q ⟨ad, ρ, st, R, S, w⟩ => ?_
  obtain ⟨d, s1, e1, w1⟩ := w.bind
  refine ⟨ad, ρ, st, R, S, ?_⟩
  rw [e1]
  intro ad1 H1 x x1 r1 S1
  cases r1 with
  | str z =>
    have w' : PostD X.K Tb ad H Q ((if z.length ≤ 1000 then ret (.str (Txt.upper z)) else bad : M D) s1) := w1
    by_cases c : z.length ≤ 1000
    · rw [if_pos c] at w'
      exact ⟨⟨z, rfl⟩, z, rfl, rfl, by omega, w' ad1 H1 _ x1 (.str _) S1⟩
    · rw [if_neg c] at w'; exact w'.elim
  | _ => exact w1.elim
/-! ### isinstance -/
def tyName : Ty → String
  | .int => "int" | .bool => "bool" | .str => "str" | .tuple => "tuple" | .list => "list"
def clsName : D → String
  | .non => "NoneType" | .bl _ => "bool" | .int _ => "int" | .str _ => "str" | .tup _ => "tuple" | .rf _ => "list" | .cl _ => "list" | .dr _ => "dict" | .ob _ => "object"
/-- neither the script nor a dict -/
def Plain (d : D) : Prop := (∀ ds, d ≠ .cl ds) ∧ (∀ n, d ≠ .dr n) ∧ ∀ n, d ≠ .ob n
theorem kit_is (t : Ty) (d : D) (nc : Plain d) : kitB (clsName d) (tyName t) = some (isTy t d) := by
  cases t <;> cases d <;> first | exact absurd rfl (nc.1 _) | exact absurd rfl (nc.2.1 _) | exact absurd rfl (nc.2.2 _) | (show kitB _ _ = some _; simp only [clsName, tyName, isTy]; decide +kernel)
theorem tyX_of {x : V} {d : D} (r : RV K ad H x d) (nc : Plain d) (h : ∀ n q, d = .rf n → ad[n]? = some q → ∃ xs, SqL K H q xs) : TyX K H x (.type (clsName d)) := by
  cases r with
  | non => exact .base .non
  | bl b => exact .base (.bl b)
  | int i => exact .base (.int i)
  | str z => exact .base (.str z)
  | tup h1 rs =>
    rcases h1 with (h1 | ⟨o, h1⟩) | ⟨o, its, n, h1, h2, _⟩
    · exact .base (.tup h1)
    · exact .fTuple h1
    · exact .kTuple h1 h2
  | cl h1 rs => exact absurd rfl (nc.1 _)
  | dr h1 hk_ => exact absurd rfl (nc.2.1 _)
  | ob h1 => exact absurd rfl (nc.2.2 _)
  | rf h1 hk_ =>
    rename_i n q
    obtain ⟨xs, h2⟩ := h n q rfl h1
    rcases h2 with (h2 | ⟨o, h2⟩) | ⟨o, its, n, h3, h4, _⟩
    · exact .base (.lst h2)
    · exact .base (.frz h2)
    · exact .kList h3 h4
theorem d_isi {x y : Str} {p3 : Pos} (T : Ty) (hx : x = "isinstance") (hm : X.mg x = none) (hmy : X.mg y = none) (ha : PE X a (TD X.K Tb ga)) (hg : Gl X x := by rfl) (hgy : Gl X y := by rfl) (hy : bootBuiltins y = some (.type (tyName T)) := by decide +kernel) (hny : y ≠ "__name__" := by decide)
    (hdy : (y == ("__debug__" : Str)) = false := by decide) (hdb : (x == ("__debug__" : Str)) = false := by decide)
    (he : starEach [a, .Name y p3] X.env = (false, eval a X.env) :: starEach [.Name y p3] X.env := by rfl) : PE X (.Call (.Name x p) [a, .Name y p3] [] pos) (TD X.K Tb (gUn (vIsi T) ga)) := by
  subst hx
  have hty : PE X (.Name y p3) (tC (.ty (tyName T))) := pe_bltn (v := .ty (tyName T)) hgy hmy hy rfl hny hdy
  refine PE.of (pe_callB (id := "isinstance") call_isi hg hm (by decide +kernel) (pa_cons ha (pa_cons hty pa_nil) he) (by decide) hdb he) fun σ H Q ⟨ad, ρ, st, R, S, w⟩ => ?_
  obtain ⟨d, s1, e1, w1⟩ := w.bind
  refine ⟨ad, ρ, st, R, S, ?_⟩
  rw [e1]
  intro ad1 H1 v x1 r1 S1
  have nc : Plain d := ⟨fun ds z => by subst z; exact w1.elim, fun ds z => by subst z; exact w1.elim, fun ds z => by subst z; exact w1.elim⟩
  have fin : (∃ s2, vIsi T d s1 = .ok (.bl (isTy T d)) s2 ∧ s2 = s1) ∧ ∀ n q, d = .rf n → ad1[n]? = some q → ∃ xs, SqL X.K H1 q xs := by
    cases d with
    | rf n =>
      unfold vIsi at w1 ⊢
      simp only at w1 ⊢
      cases e : cellItems s1 n with
      | none => simp only [e] at w1; exact w1.elim
      | some ds =>
        refine ⟨⟨s1, rfl, rfl⟩, fun m q hm hq => ?_⟩
        cases hm
        obtain ⟨xs, g1, _⟩ := S1.items e hq
        exact ⟨xs, g1⟩
    | cl ds => exact absurd rfl (nc.1 ds)
    | dr ds => exact absurd rfl (nc.2.1 ds)
    | ob ds => exact absurd rfl (nc.2.2 ds)
    | _ => exact ⟨⟨s1, rfl, rfl⟩, fun _ _ z => nomatch z⟩
  obtain ⟨⟨s2, e2, rfl⟩, hl⟩ := fin
  rw [e2] at w1
  exact ⟨v, .ty (tyName T), _, _, isTy T d, rfl, .ty _, tyX_of r1 nc hl, kit_ty (kit_is T d nc), w1 ad1 H1 _ x1 (.bl _) S1⟩
end
end DL
namespace DL
open PySem L2
section
variable {X : Cx} {K : PySem.W.Frag} {Tb : List (Addr × Str)} {ad : List Addr} {H : Hp} {st : Store} {a b c e : Expr} {ga gb gc g : GE} {gs : GA} {t u : GT} {pos p : Pos}
/-! ### lists made on the spot, used up at once -/
theorem run_cL {r : List V → Hp → VK → Prop} {f : List D → M D} {σ : L2.St} {Q : VK}
    (s : ∀ (ad : List Addr) (H : Hp) (st : Store) (q : Addr) (xs : List V) (ds : List D) (Q : VK), H q = some (.lst xs) → RVs K ad H xs ds → RS K Tb ad H st → PostD K Tb ad H Q (f ds st) → r [.ref q] H Q)
    (w : TD K Tb (fun ρ => andThen (gs ρ) f) σ H Q) : tCB r (tCons (TL K Tb gs) tNil) σ H Q := by
  obtain ⟨ad, ρ, st, R, S, w⟩ := w
  obtain ⟨ds, s1, e1, w1⟩ := w.bind
  refine ⟨ad, ρ, st, R, S, ?_⟩
  rw [e1]
  exact fun ad1 H1 q xs x1 hp np hl r1 S1 => s ad1 H1 s1 q xs ds Q hl r1 S1 (w1.shift x1)
theorem d_tupOf {x : Str} (hx : x = "tuple") (hm : X.mg x = none) (ha : PE X a (TL X.K Tb gs)) (hg : Gl X x := by rfl) (he : starEach [a] X.env = (false, eval a X.env) :: starEach [] X.env := by rfl) (hdb : (x == ("__debug__" : Str)) = false := by decide) :
    PE X (.Call (.Name x p) [a] [] pos) (TD X.K Tb (gTupOf gs)) := by
  subst hx
  exact PE.of (pe_callTy (T := "tuple") call_tuple_of hg hm (by decide +kernel) (pa_cons ha pa_nil he) (by decide) hdb he) fun σ H Q w => run_cL (fun ad H st q xs ds Q h r S w => ⟨q, xs, rfl, .inl ⟨SqL.of h, PostD.newTup S r w⟩⟩) w
theorem bools_of : ∀ {xs : List V} {ds : List D} {bs : List Bool}, RVs K ad H xs ds → bools ds = some bs → xs = bs.map V.bl
  | _, _, _, .nil, e => by
    have : ([] : List Bool) = _ := Option.some.inj e
    subst this; rfl
  | _, _, bs, .cons (d := d) (ds := ds) h t, e => by
    cases d with
    | bl b =>
      have e' : (bools ds).map (b :: ·) = some bs := e
      cases q : bools ds with
      | none => rw [q] at e'; cases e'
      | some cs =>
        rw [q] at e'
        have : b :: cs = bs := Option.some.inj e'
        subst this
        cases h
        rw [List.map_cons, bools_of t q]
    | _ => cases e
theorem d_all {x : Str} (hx : x = "all") (hm : X.mg x = none) (ha : PE X a (TL X.K Tb gs)) (hc : X.calm = true := by rfl) (hg : Gl X x := by rfl) (he : starEach [a] X.env = (false, eval a X.env) :: starEach [] X.env := by rfl) (hdb : (x == ("__debug__" : Str)) = false := by decide) :
    PE X (.Call (.Name x p) [a] [] pos) (TD X.K Tb (gAll gs)) := by
  subst hx
  refine PE.of (pe_callB (id := "all") (cr_all hc) hg hm (by decide +kernel) (pa_cons ha pa_nil he) (by decide) hdb he) fun σ H Q w => run_cL (fun ad H st q xs ds Q h r S w => ?_) w
  cases e : bools ds with
  | none => simp only [e] at w; exact w.elim
  | some bs =>
    simp only [e] at w
    have := bools_of r e
    subst this
    exact ⟨q, bs, rfl, SqL.of h, w ad H _ Ext.refl (.bl _) S⟩
theorem d_any {x : Str} (hx : x = "any") (hm : X.mg x = none) (ha : PE X a (TL X.K Tb gs)) (hc : X.calm = true := by rfl) (hg : Gl X x := by rfl) (he : starEach [a] X.env = (false, eval a X.env) :: starEach [] X.env := by rfl) (hdb : (x == ("__debug__" : Str)) = false := by decide) :
    PE X (.Call (.Name x p) [a] [] pos) (TD X.K Tb (gAny gs)) := by
  subst hx
  refine PE.of (pe_callB (id := "any") (cr_any hc) hg hm (by decide +kernel) (pa_cons ha pa_nil he) (by decide) hdb he) fun σ H Q w => run_cL (fun ad H st q xs ds Q h r S w => ?_) w
  cases e : bools ds with
  | none => simp only [e] at w; exact w.elim
  | some bs =>
    simp only [e] at w
    have := bools_of r e
    subst this
    exact ⟨q, bs, rfl, SqL.of h, w ad H _ Ext.refl (.bl _) S⟩
theorem d_ixL (ha : PE X a (TL X.K Tb gs)) (hb : PE X b (TD X.K Tb gb)) (hs : PlainIx b := by exact fun _ _ => rfl) : PE X (.Subscript a b pos) (TD X.K Tb (gIxL gs gb)) :=
  PE.of (pe_ix ix_list ha hb hs) fun σ H Q ⟨ad, ρ, st, R, S, w⟩ => by
    obtain ⟨ds, s1, e1, w1⟩ := w.bind
    refine ⟨ad, ρ, st, R, S, ?_⟩
    rw [e1]
    refine fun ad1 H1 q xs x1 hp np hl r1 S1 => ⟨ad1, ρ, s1, R.mono x1, S1, ?_⟩
    obtain ⟨d, s2, e2, w2⟩ := w1.bind
    rw [e2]
    intro ad2 H2 y x2 r2 S2
    obtain ⟨i, s3, e3, w3⟩ := w2.bind
    obtain ⟨rfl, rfl⟩ := asInt_ok e3
    cases r2
    cases e4 : atD ds i with
    | none => simp only [e4] at w3; exact w3.elim
    | some d =>
      simp only [e4] at w3
      obtain ⟨v, g1, g2⟩ := (r1.mono x2).atI e4
      exact ⟨q, xs, i, v, rfl, rfl, SqL.of (x2.oth q _ hl (fun _ z => nomatch z) np), g1, w3 ad2 H2 v (x1.trans x2) g2 S2⟩
/-! ### and, or, not, if else -/
theorem asB_ok {d : D} {k : Bool} {s s' : Store} (h : asB d s = .ok k s') : d = .bl k ∧ s' = s := by
  cases d with
  | bl j =>
    have q : Res.ok j s = Res.ok k s' := h
    injection q with q1 q2
    exact ⟨by rw [q1], q2.symm⟩
  | _ => cases h
theorem tB_ok {ρ : Env} {k : Bool} {s s' : Store} (h : tB ga ρ s = .ok k s') : ga ρ s = .ok (.bl k) s' := by
  unfold tB andThen at h
  cases e : ga ρ s with
  | ok d s1 =>
    rw [e] at h
    obtain ⟨rfl, rfl⟩ := asB_ok h
    rfl
  | stuck => rw [e] at h; cases h
  | exc _ _ _ => rw [e] at h; cases h
variable {rest : List Expr}
theorem d_one {op} (h : PE X a (TD X.K Tb ga)) : PE X (.BoolOp op [a] pos) (TD X.K Tb ga) := pe_one h
theorem d_and (ha : PE X a (TD X.K Tb ga)) (hb : PE X (.BoolOp .And (b :: rest) pos) (TD X.K Tb gb)) : PE X (.BoolOp .And (a :: b :: rest) pos) (TD X.K Tb (gAnd ga gb)) :=
  PE.of (pe_and ha hb) fun σ H Q ⟨ad, ρ, st, R, S, w⟩ => by
    obtain ⟨k, s1, e1, w1⟩ := w.bind
    refine ⟨ad, ρ, st, R, S, ?_⟩
    rw [tB_ok e1]
    intro ad1 H1 x x1 r1 S1
    cases r1
    refine ⟨k, rfl, ?_⟩
    cases k with
    | true => exact ⟨ad1, ρ, s1, R.mono x1, S1, w1.shift x1⟩
    | false => exact w1 ad1 H1 _ x1 (.bl _) S1
theorem d_or (ha : PE X a (TD X.K Tb ga)) (hb : PE X (.BoolOp .Or (b :: rest) pos) (TD X.K Tb gb)) : PE X (.BoolOp .Or (a :: b :: rest) pos) (TD X.K Tb (gOr ga gb)) :=
  PE.of (pe_or ha hb) fun σ H Q ⟨ad, ρ, st, R, S, w⟩ => by
    obtain ⟨k, s1, e1, w1⟩ := w.bind
    refine ⟨ad, ρ, st, R, S, ?_⟩
    rw [tB_ok e1]
    intro ad1 H1 x x1 r1 S1
    cases r1
    refine ⟨k, rfl, ?_⟩
    cases k with
    | false => exact ⟨ad1, ρ, s1, R.mono x1, S1, w1.shift x1⟩
    | true => exact w1 ad1 H1 _ x1 (.bl _) S1
theorem d_not (ha : PE X a (TD X.K Tb ga)) : PE X (.UnaryOp .Not a pos) (TD X.K Tb (gNot ga)) :=
  PE.of (pe_not ha) fun σ H Q ⟨ad, ρ, st, R, S, w⟩ => by
    obtain ⟨k, s1, e1, w1⟩ := w.bind
    refine ⟨ad, ρ, st, R, S, ?_⟩
    rw [tB_ok e1]
    intro ad1 H1 x x1 r1 S1
    cases r1
    exact ⟨k, rfl, w1 ad1 H1 _ x1 (.bl _) S1⟩
theorem d_if (hc : PT X c (TB X.K Tb t)) (ha : PE X a (TD X.K Tb ga)) (hb : PE X b (TD X.K Tb gb)) : PE X (.IfExp c a b pos) (TD X.K Tb (gIf t ga gb)) :=
  PE.of (pe_ifExp hc ha hb) fun σ H Q ⟨ad, ρ, st, R, S, w⟩ => by
    obtain ⟨k, s1, e1, w1⟩ := w.bind
    refine ⟨ad, ρ, st, R, S, ?_⟩
    rw [e1]
    intro ad1 H1 x1 S1
    cases k with
    | true => exact ⟨ad1, ρ, s1, R.mono x1, S1, w1.shift x1⟩
    | false => exact ⟨ad1, ρ, s1, R.mono x1, S1, w1.shift x1⟩
/-- tests -/
theorem t_not (ha : PT X a (TB X.K Tb t)) : PT X (.UnaryOp .Not a pos) (TB X.K Tb (tNot t)) :=
  PT.of (pt_not ha) fun σ H Q ⟨ad, ρ, st, R, S, w⟩ => by
    obtain ⟨k, s1, e1, w1⟩ := w.bind
    refine ⟨ad, ρ, st, R, S, ?_⟩
    rw [e1]
    exact fun ad1 H1 x1 S1 => w1 ad1 H1 x1 S1
theorem t_and1 (ha : PT X a (TB X.K Tb t)) : PW X (.BoolOp .And [a] pos) (TB X.K Tb t) := pw_and1 ha
theorem t_or1 (ha : PT X a (TB X.K Tb t)) : PW X (.BoolOp .Or [a] pos) (TB X.K Tb t) := pw_or1 ha
theorem t_and (ha : PT X a (TB X.K Tb t)) (hb : PW X (.BoolOp .And (b :: rest) pos) (TB X.K Tb u)) : PW X (.BoolOp .And (a :: b :: rest) pos) (TB X.K Tb (tAnd t u)) :=
  PW.of (pw_and ha hb) fun σ H Q ⟨ad, ρ, st, R, S, w⟩ => by
    obtain ⟨k, s1, e1, w1⟩ := w.bind
    refine ⟨ad, ρ, st, R, S, ?_⟩
    rw [e1]
    intro ad1 H1 x1 S1
    cases k with
    | true => exact ⟨ad1, ρ, s1, R.mono x1, S1, w1.shift x1⟩
    | false => exact w1 ad1 H1 x1 S1
theorem t_or (ha : PT X a (TB X.K Tb t)) (hb : PW X (.BoolOp .Or (b :: rest) pos) (TB X.K Tb u)) : PW X (.BoolOp .Or (a :: b :: rest) pos) (TB X.K Tb (tOr t u)) :=
  PW.of (pw_or ha hb) fun σ H Q ⟨ad, ρ, st, R, S, w⟩ => by
    obtain ⟨k, s1, e1, w1⟩ := w.bind
    refine ⟨ad, ρ, st, R, S, ?_⟩
    rw [e1]
    intro ad1 H1 x1 S1
    cases k with
    | true => exact w1 ad1 H1 x1 S1
    | false => exact ⟨ad1, ρ, s1, R.mono x1, S1, w1.shift x1⟩
theorem t_w (h : PW X a (TB X.K Tb t)) : PT X a (TB X.K Tb t) := h.pt
theorem t_tru (ha : PE X a (TD X.K Tb ga)) (he : ∀ whole, isTrue a X.env whole = (do let v ← whole; standAt a.pos; holding [v] (truthy v)) := by intro _; rfl) : PT X a (TB X.K Tb (tTru ga)) :=
  PT.of (pt_truth ha he) fun σ H Q ⟨ad, ρ, st, R, S, w⟩ => by
    obtain ⟨d, s1, e1, w1⟩ := w.bind
    refine ⟨ad, ρ, st, R, S, ?_⟩
    rw [e1]
    intro ad1 H1 x x1 r1 S1
    cases e2 : tru d s1 with
    | none => simp only [e2] at w1; exact w1.elim
    | some k =>
      simp only [e2] at w1
      have fin := w1 ad1 H1 x1 S1
      refine ⟨k, ?_, fin⟩
      cases r1 with
      | non => exact (Option.some.inj e2).symm
      | bl b => exact (Option.some.inj e2).symm
      | int i => exact (Option.some.inj e2).symm
      | str z =>
        have e3 : (if z.length ≤ SZ then some ((z.length : Int) != 0) else none) = some k := e2
        by_cases c : z.length ≤ SZ
        · rw [if_pos c] at e3
          exact ⟨SZ_line c, (Option.some.inj e3).symm⟩
        · rw [if_neg c] at e3; cases e3
      | tup h1 rs =>
        rename_i q xs ds
        refine .inr (.inl ⟨xs, h1, ?_⟩)
        have e3 : (!ds.isEmpty) = k := Option.some.inj e2
        rw [← e3]
        cases rs <;> rfl
      | cl h1 rs => cases e2
      | dr h1 hk_ => cases e2
      | ob h1 => cases e2
      | rf h1 hk_ =>
        rename_i n q
        have e5 : ((cellItems s1 n).map fun ds => !ds.isEmpty) = some k := e2
        cases e4 : cellItems s1 n with
        | none => rw [e4] at e5; cases e5
        | some ds =>
          rw [e4] at e5
          obtain ⟨xs, g1, g2⟩ := S1.items e4 h1
          refine .inl ⟨xs, g1, ?_⟩
          have e3 : (!ds.isEmpty) = k := Option.some.inj e5
          rw [← e3]
          cases g2 <;> rfl
end
/-! ### own calls -/
def spD (K : PySem.W.Frag) (Tb : List (Addr × Str)) (n : Nat) (g : GF) : Sp := fun vs H Q _ => vs.length = n ∧ ∃ ad ds st, RVs K ad H vs ds ∧ RS K Tb ad H st ∧ PostD K Tb ad H Q (g ds st)
structure Cal (P : Program) (w : World) (K : PySem.W.Frag) (Tb : List (Addr × Str)) (mg : Str → Option Value) (base : Heap) (k : Nat) (x : Str) (n : Nat) (g : GF) : Prop where
  ex : ∃ (f : Addr) (fd : FuncData) (ps : List Str), FnOk P w K mg base CX0 k f fd ps (spD K Tb n g) ∧ mg x = some (.ref f) ∧ PySem.W.keepIn K (.ref f) = true ∧ Binds K fd ps []
  len : ∀ ds st, ds.length ≠ n → g ds st = .stuck
theorem gFn_len {np n : Nat} {b : GS} {ds : List D} {st : Store} (h : ds.length ≠ np) : gFn np n b ds st = .stuck := by
  unfold gFn
  rw [if_neg h] <;> rfl
section
variable {X : Cx} {e : Expr} {es : List Expr} {gs : GA} {p pos : Pos}
theorem d_call {k n : Nat} {x : Str} {g : GF} (C : Cal X.prog X.w X.K Tb X.mg X.base k x n g) (hr : Room k X.A) (ha : PA X (e :: es) (TAs X.K Tb gs)) (hg : Gl X x := by rfl) (hdb : (x == ("__debug__" : Str)) = false := by decide)
    (he : starEach (e :: es) X.env = (false, eval e X.env) :: starEach es X.env := by rfl) (hpl : (backTo pos (starEach es X.env)).any (·.1) = false := by rfl) : PE X (.Call (.Name x p) (e :: es) [] pos) (TD X.K Tb (gCall g gs)) := by
  obtain ⟨f, fd, ps, F, hm, hk, hb⟩ := C.ex
  refine PE.of (pe_call F hr hg hm hk hb .nil pass0 ha hdb he hpl) fun σ H Q ⟨ad, ρ, st, R, S, w⟩ => ?_
  obtain ⟨ds, s1, e1, w1⟩ := w.bind
  refine ⟨ad, ρ, st, R, S, ?_⟩
  rw [e1]
  intro ad1 H1 vs x1 r1 S1
  rw [List.append_nil]
  refine ⟨?_, ad1, ds, s1, r1, S1, w1.shift x1⟩
  rw [r1.length]
  by_cases h : ds.length = n
  · exact h
  · rw [C.len ds s1 h] at w1; exact w1.elim
end
/-! ### targets -/
section
variable {X : Cx} {e : Expr} {es : List Expr} {g : GG} {r : GGs} {is js : List Nat} {pos : Pos}
theorem dg_name (i : Nat) {x : Str} (hN : X.N.Nodup) (hi : X.N[i]? = some x := by rfl) (hx : Loc X.env.scope x := by first | exact Or.inl rfl | exact Or.inr rfl) (hf : X.fn x = true ∨ X.env.scope.names.lookup x = some .local := by first | exact .inl rfl | exact .inr rfl) : PG X (.Name x pos) (TGt X.K Tb [i] (gName i)) :=
  PG.of (pg_name hN hi hx hf) fun v σ H Q ⟨ad, d, ρ, st, rv, R, S, w⟩ => w ad H _ Ext.refl (R.set i rv) S (by simp) fun j hj => by
    have : j ≠ i := fun z => hj (by simp [z])
    exact List.getElem?_set_ne (Ne.symm this)
theorem dgs_nil : PGs X [] (TGts X.K Tb [] ggNil) :=
  PGs.of pgs_nil fun vs σ H Q ⟨ad, ds, ρ, st, rv, R, S, w⟩ => by
    cases rv with
    | nil => exact ⟨rfl, w ad H σ Ext.refl R S rfl fun _ _ => rfl⟩
    | cons _ _ => exact w.elim
theorem PostG.shift {K : PySem.W.Frag} {ad ad' : List Addr} {H H' : Hp} {σ σ1 : L2.St} {Q : L2.St → Hp → Prop} {w : Res Env} (x : Ext K ad H ad' H') (hl : σ1.length = σ.length) (hs : ∀ j, j ∉ is → σ1[j]? = σ[j]?) (h : PostG K Tb ad H σ (is ++ js) Q w) : PostG K Tb ad' H' σ1 js Q w := by
  cases w with
  | ok ρ s => exact fun ad2 H2 σ2 x2 R2 S2 l2 q2 => h ad2 H2 σ2 (x.trans x2) R2 S2 (l2.trans hl) fun j hj => (q2 j fun z => hj (List.mem_append_right _ z)).trans (hs j fun z => hj (List.mem_append_left _ z))
  | stuck => exact h
  | exc _ _ _ => exact h
theorem dgs_cons (h1 : PG X e (TGt X.K Tb is g)) (h2 : PGs X es (TGts X.K Tb js r)) (hs : (assignEach (e :: es) X.env).map (·.2) = assign e X.env :: (assignEach es X.env).map (·.2) := by rfl) : PGs X (e :: es) (TGts X.K Tb (is ++ js) (ggCons g r)) :=
  PGs.of (pgs_cons h1 h2 hs) fun vs σ H Q ⟨ad, ds, ρ, st, rv, R, S, w⟩ => by
    cases rv with
    | nil => exact w.elim
    | @cons v vs d ds hv tv =>
      obtain ⟨ρ1, s1, e1, w1⟩ := PostG.bind w
      refine ⟨v, vs, rfl, ad, d, ρ, st, hv, R, S, ?_⟩
      rw [e1]
      intro ad1 H1 σ1 x1 R1 S1 l1 q1
      exact ⟨ad1, ds, ρ1, s1, tv.mono x1, R1, S1, PostG.shift x1 l1 q1 w1⟩
theorem dg_tup {k n : Nat} (h : PGs X es (TGts X.K Tb is r)) (hc : X.calm = true := by rfl) (hn : (assignEach es X.env).length = n := by rfl) (hst : (assignEach es X.env).findIdx? (·.1) = none := by rfl) : PG X (.Tuple es k pos) (TGt X.K Tb is (gUnpack n r)) :=
  PG.of (pg_tup hc h hn hst) fun v σ H Q ⟨ad, d, ρ, st, rv, R, S, w⟩ => by
    cases rv with
    | @tup q xs ds h1 rs =>
      unfold gUnpack at w
      simp only at w
      by_cases c : ds.length = n
      · rw [if_pos c] at w
        exact ⟨q, xs, rfl, h1, by rw [rs.length]; exact c, ad, ds, ρ, st, rs, R, S, w⟩
      · rw [if_neg c] at w; exact w.elim
    | _ => exact w.elim
end
end DL
namespace DL
open PySem L2
section
variable {X : Cx} {K : PySem.W.Frag} {Tb : List (Addr × Str)} {ad : List Addr} {H : Hp} {st : Store} {tg a b c e : Expr} {ga gb gc g : GE} {gs : GA} {t u : GT} {pos p : Pos}
/-! ### what a for walks -/
theorem gives_tup {q : Addr} {xs : List V} {ds : List D} (h : SqT K H q xs) (r : RVs K ad H xs ds) (gd : Store → Prop) : Gives K Tb ad H (Itt K q) ⟨ds, gd⟩ := by
  intro ad1 H1 st1 x1 S1 _ i
  have h1 := x1.tup _ _ h
  have r1 := r.mono x1
  refine ⟨fun d hd => ?_, fun hi => ⟨xs, h1, by rw [r.length]; exact hi⟩⟩
  obtain ⟨v, g1, g2⟩ := r1.get hd
  refine ⟨⟨xs, v, h1, g1⟩, fun x H2 hy => ?_⟩
  obtain ⟨rfl, hy⟩ := hy
  have := hy xs h1
  rw [g1] at this
  cases this
  exact ⟨ad1, .refl, g2, S1⟩
theorem gives_list {n : Nat} {q : Addr} {ds : List D} (h : ad[n]? = some q) : Gives K Tb ad H (Itl K q) ⟨ds, fun st' => cellItems st' n = some ds⟩ := by
  intro ad1 H1 st1 x1 S1 hg i
  obtain ⟨xs, g1, g2⟩ := S1.items hg (x1.at h)
  refine ⟨fun d hd => ?_, fun hi => ⟨xs, g1, by rw [g2.length]; exact hi⟩⟩
  obtain ⟨v, g3, g4⟩ := g2.get hd
  refine ⟨⟨xs, v, g1, g3⟩, fun x H2 hy => ?_⟩
  obtain ⟨rfl, hy⟩ := hy
  have := hy xs g1
  rw [g3] at this
  cases this
  exact ⟨ad1, .refl, g4, S1⟩
theorem gives_new {q : Addr} {xs : List V} {ds : List D} (h : H q = some (.lst xs)) (n : q ∉ ad) (r : RVs K ad H xs ds) (gd : Store → Prop) : Gives K Tb ad H (Itl K q) ⟨ds, gd⟩ := by
  intro ad1 H1 st1 x1 S1 _ i
  have h1 : SqL K H1 q xs := SqL.of (x1.oth _ _ h (fun _ z => nomatch z) n)
  have r1 := r.mono x1
  refine ⟨fun d hd => ?_, fun hi => ⟨xs, h1, by rw [r.length]; exact hi⟩⟩
  obtain ⟨v, g1, g2⟩ := r1.get hd
  refine ⟨⟨xs, v, h1, g1⟩, fun x H2 hy => ?_⟩
  obtain ⟨rfl, hy⟩ := hy
  have := hy xs h1
  rw [g1] at this
  cases this
  exact ⟨ad1, .refl, g2, S1⟩
theorem gives_cl {q : Addr} {xs : List V} {ds : List D} (h : SqC K H q xs) (r : RVs K ad H xs ds) (gd : Store → Prop) : Gives K Tb ad H (Itl K q) ⟨ds, gd⟩ := by
  intro ad1 H1 st1 x1 S1 _ i
  have h1 : SqL K H1 q xs := (x1.cls _ _ h).sql
  have r1 := r.mono x1
  refine ⟨fun d hd => ?_, fun hi => ⟨xs, h1, by rw [r.length]; exact hi⟩⟩
  obtain ⟨v, g1, g2⟩ := r1.get hd
  refine ⟨⟨xs, v, h1, g1⟩, fun x H2 hy => ?_⟩
  obtain ⟨rfl, hy⟩ := hy
  have := hy xs h1
  rw [g1] at this
  cases this
  exact ⟨ad1, .refl, g2, S1⟩
theorem gives_range {lo : Int} {n : Nat} (gd : Store → Prop) : Gives K Tb ad H (Itr lo n) ⟨fromTo lo n, gd⟩ := by
  intro ad1 H1 st1 x1 S1 _ i
  unfold fromTo
  refine ⟨fun d hd => ?_, fun hi => by show n ≤ i; simpa using hi⟩
  rw [List.getElem?_map] at hd
  cases e : (List.range n)[i]? with
  | none => rw [e] at hd; cases hd
  | some k =>
    rw [e] at hd
    obtain ⟨hl, hk⟩ := List.getElem?_eq_some_iff.mp e
    rw [List.getElem_range] at hk
    subst hk
    have : D.int (lo + (i : Nat)) = d := Option.some.inj hd
    subst this
    refine ⟨by show i < n; simpa using hl, fun x H2 hy => ?_⟩
    obtain ⟨rfl, rfl⟩ := hy
    exact ⟨ad1, .refl, .int _, S1⟩
theorem PI.or {t t' : TI} (h : PI X tg e t) (h' : PI X tg e t') : PI X tg e (fun σ H R => t σ H R ∨ t' σ H R) := ⟨fun pins s σ H R I w => by
  rcases w with w | w
  · exact h.run pins s σ H R I w
  · exact h'.run pins s σ H R I w⟩
theorem di_seq (ha : PE X a (TD X.K Tb ga)) : PI X tg a (TIt X.K Tb (wSeq ga)) :=
  PI.of (PI.or (pi_tup ha) (pi_list ha)) fun σ H R' ⟨ad, ρ, st, R, S, w⟩ => by
    obtain ⟨d, s1, e1, w1⟩ := w.bind
    cases d with
    | tup ds =>
      refine .inl ⟨ad, ρ, st, R, S, ?_⟩
      rw [e1]
      intro ad1 H1 x x1 r1 S1
      cases r1 with
      | @tup q xs _ h1 rs => exact ⟨q, rfl, ⟨xs, h1⟩, w1 ad1 H1 _ x1 S1 (gives_tup h1 rs _)⟩
    | rf n =>
      refine .inr ⟨ad, ρ, st, R, S, ?_⟩
      rw [e1]
      intro ad1 H1 x x1 r1 S1
      cases r1 with
      | @rf _ q h1 _ =>
        simp only at w1
        cases e2 : cellItems s1 n with
        | none => simp only [e2] at w1; exact w1.elim
        | some ds =>
          simp only [e2] at w1
          obtain ⟨xs, g1, g2⟩ := S1.items e2 h1
          exact ⟨q, rfl, ⟨xs, g1⟩, w1 ad1 H1 _ x1 S1 (gives_list h1)⟩
    | cl ds =>
      refine .inr ⟨ad, ρ, st, R, S, ?_⟩
      rw [e1]
      intro ad1 H1 x x1 r1 S1
      cases r1 with
      | @cl q xs _ h1 rs => exact ⟨q, rfl, ⟨xs, h1.sql⟩, w1 ad1 H1 _ x1 S1 (gives_cl h1 rs _)⟩
    | _ => exact w1.elim
theorem di_new (ha : PE X a (TL X.K Tb gs)) : PI X tg a (TIt X.K Tb (wNew gs)) :=
  PI.of (pi_list ha) fun σ H R' ⟨ad, ρ, st, R, S, w⟩ => by
    obtain ⟨ds, s1, e1, w1⟩ := w.bind
    refine ⟨ad, ρ, st, R, S, ?_⟩
    rw [e1]
    exact fun ad1 H1 q xs x1 hp np hl r1 S1 => ⟨q, rfl, ⟨xs, SqL.of hl⟩, w1 ad1 H1 _ x1 S1 (gives_new hl np r1 _)⟩
theorem smallI_ok {j : Int} (h : smallI j = true) : -(2 ^ 62) ≤ j ∧ j < 2 ^ 62 := by
  unfold smallI at h
  simpa only [Bool.and_eq_true, decide_eq_true_eq] using h
theorem di_range {x : Str} (hx : x = "range") (hm : X.mg x = none) (ha : PE X a (TD X.K Tb ga)) (hg : Gl X x := by rfl) (hs : starEach [a] X.env = [(false, eval a X.env)] := by rfl) : PI X tg (.Call (.Name x p) [a] [] pos) (TIt X.K Tb (wRange ga)) := by
  subst hx
  refine PI.of (pi_range1 hg hm (da_cons ha da_nil hs) hs) fun σ H R' ⟨ad, ρ, st, R, S, w⟩ => ?_
  obtain ⟨d, s1, e1, w1⟩ := w.bind
  refine ⟨ad, ρ, st, R, S, ?_⟩
  have e : gCons ga gNil ρ st = .ok [d] s1 := by unfold gCons gNil andThen; rw [e1]; rfl
  rw [e]
  intro ad1 H1 xs x1 r1 S1
  cases r1 with
  | cons r2 r3 =>
    cases r3
    obtain ⟨i, s2, e2, w2⟩ := w1.bind
    obtain ⟨rfl, rfl⟩ := asInt_ok e2
    cases r2
    by_cases c : smallI i = true
    · rw [if_pos c] at w2
      obtain ⟨h1, h2⟩ := smallI_ok c
      exact ⟨i, rfl, h1, h2, w2 ad1 H1 _ x1 S1 (gives_range _)⟩
    · rw [if_neg c] at w2; exact w2.elim
theorem di_range2 {x : Str} (hx : x = "range") (hm : X.mg x = none) (ha : PE X a (TD X.K Tb ga)) (hb : PE X b (TD X.K Tb gb)) (hg : Gl X x := by rfl) (hs : starEach [a, b] X.env = [(false, eval a X.env), (false, eval b X.env)] := by rfl) (hs2 : starEach [b] X.env = [(false, eval b X.env)] := by rfl) :
    PI X tg (.Call (.Name x p) [a, b] [] pos) (TIt X.K Tb (wRange2 ga gb)) := by
  subst hx
  refine PI.of (pi_range2 hg hm (da_cons ha (da_cons hb da_nil hs2) (by rw [hs, hs2])) hs hs2) fun σ H R' ⟨ad, ρ, st, R, S, w⟩ => ?_
  obtain ⟨d, s1, e1, w1⟩ := w.bind
  obtain ⟨d', s2, e2, w2⟩ := w1.bind
  refine ⟨ad, ρ, st, R, S, ?_⟩
  have e : gCons ga (gCons gb gNil) ρ st = .ok [d, d'] s2 := by simp only [gCons, gNil, andThen, ret, e1, e2]
  rw [e]
  intro ad1 H1 xs x1 r1 S1
  cases r1 with
  | cons r2 r3 =>
    cases r3 with
    | cons r4 r5 =>
      cases r5
      obtain ⟨i, s3, e3, w3⟩ := w2.bind
      obtain ⟨rfl, rfl⟩ := asInt_ok e3
      obtain ⟨j, s4, e4, w4⟩ := w3.bind
      obtain ⟨rfl, rfl⟩ := asInt_ok e4
      cases r2
      cases r4
      by_cases c : (smallI i && smallI j) = true
      · rw [if_pos c] at w4
        rw [Bool.and_eq_true] at c
        obtain ⟨h1, h2⟩ := smallI_ok c.1
        obtain ⟨h3, h4⟩ := smallI_ok c.2
        exact ⟨i, j, rfl, ⟨h1, h2, h3, h4⟩, w4 ad1 H1 _ x1 S1 (gives_range _)⟩
      · rw [if_neg c] at w4; exact w4.elim
/-! ### statements -/
variable {st1 st2 : Stmt} {rest body orelse : List Stmt} {q1 q2 : GS} {tgt : Expr} {gg : GG} {is : List Nat}
theorem ss_nil : PSs X [] (TS' X.K Tb gNext) := PSs.of pss_nil fun D σ H ⟨ad, ρ, st, R, S, w⟩ => w ad H σ .refl R S
theorem ss_one (h : PS X st1 (TS' X.K Tb q1)) : PSs X [st1] (TS' X.K Tb q1) := pss_one h
theorem ss_cons (h1 : PS X st1 (TS' X.K Tb q1)) (h2 : PSs X rest (TS' X.K Tb q2)) : PSs X (st1 :: rest) (TS' X.K Tb (gSeq q1 q2)) :=
  PSs.of (pss_cons h1 h2) fun D σ H ⟨ad, ρ, st, R, S, w⟩ => by
    obtain ⟨f, s1, e1, w1⟩ := w.bind
    refine ⟨ad, ρ, st, R, S, ?_⟩
    rw [e1]
    cases f with
    | nx ρ1 => exact fun ad1 H1 σ1 x1 R1 S1 => ⟨ad1, ρ1, s1, R1, S1, w1.shift x1⟩
    | bk ρ1 => exact w1
    | ct ρ1 => exact w1
    | rt d => exact w1
theorem s_pass : PS X (.Pass pos) (TS' X.K Tb gNext) := PS.of ps_pass fun D σ H ⟨ad, ρ, st, R, S, w⟩ => w ad H σ .refl R S
theorem s_break : PS X (.Break pos) (TS' X.K Tb gBreak) := PS.of ps_break fun D σ H ⟨ad, ρ, st, R, S, w⟩ => w ad H σ .refl R S
theorem s_continue : PS X (.Continue pos) (TS' X.K Tb gCont) := PS.of ps_continue fun D σ H ⟨ad, ρ, st, R, S, w⟩ => w ad H σ .refl R S
/-- a statement that is never reached -/
theorem s_never : PS X st1 (TS' X.K Tb gStuck) := PS.of ps_never fun D σ H ⟨ad, ρ, st, R, S, w⟩ => w
theorem s_expr (he : PE X e (TD X.K Tb g)) (hs : swapsWith e none pos.line X.env = pure false := by rfl) : PS X (.Expr e pos) (TS' X.K Tb (gDrop g)) :=
  PS.of (ps_expr he hs) fun D σ H ⟨ad, ρ, st, R, S, w⟩ => by
    obtain ⟨d, s1, e1, w1⟩ := w.bind
    refine ⟨ad, ρ, st, R, S, ?_⟩
    rw [e1]
    exact fun ad1 H1 x x1 r1 S1 => w1 ad1 H1 σ x1 (R.mono x1) S1
theorem s_ret (he : PE X e (TD X.K Tb g)) : PS X (.Return (some e) pos) (TS' X.K Tb (gRet g)) :=
  PS.of (ps_ret he) fun D σ H ⟨ad, ρ, st, R, S, w⟩ => by
    obtain ⟨d, s1, e1, w1⟩ := w.bind
    refine ⟨ad, ρ, st, R, S, ?_⟩
    rw [e1]
    exact fun ad1 H1 x x1 r1 S1 => w1 ad1 H1 x x1 r1 S1
theorem s_retN : PS X (.Return none pos) (TS' X.K Tb gRetN) := PS.of ps_retN fun D σ H ⟨ad, ρ, st, R, S, w⟩ => w ad H .non .refl .non S
theorem s_if {c : Expr} (hc : PT X c (TB X.K Tb t)) (ha : PSs X body (TS' X.K Tb q1)) (hb : PSs X orelse (TS' X.K Tb q2)) : PS X (.If c body orelse pos) (TS' X.K Tb (gIfS t q1 q2)) :=
  PS.of (ps_if hc ha hb) fun D σ H ⟨ad, ρ, st, R, S, w⟩ => by
    obtain ⟨k, s1, e1, w1⟩ := w.bind
    refine ⟨ad, ρ, st, R, S, ?_⟩
    rw [e1]
    intro ad1 H1 x1 S1
    cases k with
    | true => exact ⟨ad1, ρ, s1, R.mono x1, S1, w1.shift x1⟩
    | false => exact ⟨ad1, ρ, s1, R.mono x1, S1, w1.shift x1⟩
theorem s_asg (he : PE X e (TD X.K Tb g)) (hg : PG X tgt (TGt X.K Tb is gg)) (hs : swapsWithSole [tgt] e pos.line X.env = pure false := by rfl) (hw : swappedStores [tgt] e X.env = pure none := by rfl)
    (h1 : (assignEach [tgt] X.env).map (·.2) = [assign tgt X.env] := by rfl) : PS X (.Assign [tgt] e pos) (TS' X.K Tb (gAsg g gg)) :=
  PS.of (ps_asg he hg hs hw h1) fun D σ H ⟨ad, ρ, st, R, S, w⟩ => by
    obtain ⟨d, s1, e1, w1⟩ := w.bind
    refine ⟨ad, ρ, st, R, S, ?_⟩
    rw [e1]
    intro ad1 H1 x x1 r1 S1
    obtain ⟨ρ1, s2, e2, w2⟩ := w1.bind
    refine ⟨ad1, d, ρ, s1, r1, R.mono x1, S1, ?_⟩
    rw [e2]
    exact fun ad2 H2 σ2 x2 R2 S2 _ _ => w2 ad2 H2 σ2 (x1.trans x2) R2 S2
theorem s_set {o i : Expr} {go gi : GE} {p2 : Pos} (he : PE X e (TD X.K Tb g)) (ho : PE X o (TD X.K Tb go)) (hi : PE X i (TD X.K Tb gi)) (hs : swapsWithSole [.Subscript o i p2] e pos.line X.env = pure false := by rfl) (hw : swappedStores [.Subscript o i p2] e X.env = pure none := by rfl)
    (h1 : (assignEach [.Subscript o i p2] X.env).map (·.2) = [assign (.Subscript o i p2) X.env] := by rfl)
    (hp : ∀ v, assign (.Subscript o i p2) X.env v = (do
      let ov ← holding [v] (eval o X.env)
      let iv ← holding [v, ov] (eval i X.env)
      standAt p2
      holding [v, ov, iv] (setItem ov iv v)
      release [v, ov, iv] []) := by intro _; rfl) : PS X (.Assign [.Subscript o i p2] e pos) (TS' X.K Tb (gSet g go gi)) :=
  PS.of (ps_asg he (pg_sub ho hi set_list hp) hs hw h1) fun D σ H ⟨ad, ρ, st, R, S, w⟩ => by
    obtain ⟨d, s1, e1, w1⟩ := w.bind
    refine ⟨ad, ρ, st, R, S, ?_⟩
    rw [e1]
    refine fun ad1 H1 x x1 r1 S1 => ⟨ad1, ρ, s1, R.mono x1, S1, ?_⟩
    obtain ⟨do_, s2, e2, w2⟩ := w1.bind
    rw [e2]
    refine fun ad2 H2 y x2 r2 S2 => ⟨ad2, ρ, s2, R.mono (x1.trans x2), S2, ?_⟩
    obtain ⟨di_, s3, e3, w3⟩ := w2.bind
    rw [e3]
    intro ad3 H3 z x3 r3 S3
    obtain ⟨un, s4, e4, w4⟩ := w3.bind
    have r2' := r2.mono x3
    have r1' := (r1.mono x2).mono x3
    unfold vSet at e4
    cases r2' with
    | @rf n q h1 _ =>
      cases r3 with
      | int k =>
        simp only at e4
        cases e5 : s3[n]? with
        | none => simp only [e5] at e4; cases e4
        | some c =>
          cases c with
          | dct _ _ => simp only [e5] at e4; cases e4
          | oth _ => simp only [e5] at e4; cases e4
          | lst ds =>
            simp only [e5] at e4
            cases e6 : ixOf ds.length k with
            | none => simp only [e6] at e4; cases e4
            | some j =>
              simp only [e6] at e4
              injection e4 with _ e7
              subst e7
              obtain ⟨xs, g1, g2⟩ := S3.cell n _ q e5 h1
              obtain ⟨S4, x4⟩ := S3.set (es := ds.set j d) (xs := xs.set j x) e5 h1 (g2.set r1' j)
              exact ⟨q, xs, k, j, rfl, rfl, g1, by rw [g2.length]; exact e6, w4 ad3 _ σ (((x1.trans x2).trans x3).trans x4) (R.mono (((x1.trans x2).trans x3).trans x4)) S4⟩
      | _ => cases e4
    | _ => cases r3 <;> cases e4
theorem d_app {o : Expr} {go : GE} {apos cpos : Pos} {m : Str} (hm : m = "append") (ho : PE X o (TD X.K Tb go)) (he : PE X e (TD X.K Tb g)) (hbase : attributeBase o m X.env (eval o X.env) = eval o X.env := by rfl)
    (hline : (apos.endLine == cpos.line) = true := by rfl) (hs : starEach [e] X.env = (false, eval e X.env) :: starEach [] X.env := by rfl) : PE X (.Call (.Attribute o m apos) [e] [] cpos) (TD X.K Tb (gApp go g)) := by
  subst hm
  refine PE.of (pe_bm PySem.F.plainAttrs_list PySem.F.slot_list_append PySem.F.type_list_append mt_append ho (da_cons he da_nil hs) hbase (by rw [hs]; rfl) hline hs (by rfl)) fun σ H Q ⟨ad, ρ, st, R, S, w⟩ => ?_
  obtain ⟨d, s1, e1, w1⟩ := w.bind
  refine ⟨ad, ρ, st, R, S, ?_⟩
  rw [e1]
  intro ad1 H1 x x1 r1 S1
  obtain ⟨v, s2, e2, w2⟩ := w1.bind
  have e : gCons g gNil ρ s1 = .ok [v] s2 := by unfold gCons gNil andThen; rw [e2]; rfl
  cases r1 with
  | @rf n q h1 hk_ =>
    have tl : ∃ xs, SqL X.K H1 q xs := by
      have hl : n < s1.length := by rw [← S1.len]; exact (List.getElem?_eq_some_iff.mp h1).1
      have hc := S1.cell n _ q (List.getElem?_eq_getElem hl) h1
      cases e5 : s1[n] with
      | lst ds => rw [e5] at hc; obtain ⟨xs, g1, _⟩ := hc; exact ⟨xs, SqL.of g1⟩
      | dct lk kvs => rw [e5] at hc; obtain ⟨us, g1, _⟩ := hc; obtain ⟨_, _, _, g2⟩ := DctAt.at_ g1; rw [hk_] at g2; cases g2
      | oth u => rw [e5] at hc; obtain ⟨_, g1, _, _, g2, _⟩ := OthOk.at_ hc; rw [g1] at hk_; exact absurd hk_ g2
    obtain ⟨xs0, tl⟩ := tl
    refine ⟨.inl ⟨rfl, xs0, tl⟩, ad1, ρ, s1, R.mono x1, S1, ?_⟩
    rw [e]
    intro ad2 H2 vs x2 r2 S2
    cases r2 with
    | cons r3 r4 =>
      cases r4
      unfold vApp at w2
      simp only at w2
      cases e5 : s2[n]? with
      | none => simp only [e5] at w2; exact w2.elim
      | some c =>
        cases c with
        | dct _ _ => simp only [e5] at w2; exact w2.elim
        | oth _ => simp only [e5] at w2; exact w2.elim
        | lst ds =>
          simp only [e5] at w2
          by_cases c : ds.length < SZ
          · rw [if_pos c] at w2
            have h2 := x2.at h1
            obtain ⟨xs, g1, g2⟩ := S2.cell n _ q e5 h2
            obtain ⟨S4, x4⟩ := S2.set (es := ds ++ [v]) (xs := xs ++ [_]) e5 h2 (g2.append (.cons r3 .nil))
            exact ⟨q, xs, _, rfl, rfl, g1, by rw [g2.length]; exact SZ_lt c, w2 ad2 _ .non ((x1.trans x2).trans x4) .non S4⟩
          · rw [if_neg c] at w2; exact w2.elim
  | _ => exact w2.elim
end
end DL
namespace DL
open PySem L2
theorem andThen_ok {α β : Type} {m : M α} {f : α → M β} {st st' : Store} {b : β} (h : andThen m f st = .ok b st') : ∃ a s1, m st = .ok a s1 ∧ f a s1 = .ok b st' := by
  unfold andThen at h
  cases e : m st with
  | ok a s => rw [e] at h; exact ⟨a, s, rfl, h⟩
  | stuck => rw [e] at h; cases h
  | exc _ _ _ => rw [e] at h; cases h
theorem walkC_pos {α : Type} {gd : Store → Prop} {m : Store → Res α} {st : Store} (h : gd st) : walkC gd m st = m st := by
  unfold walkC; rw [if_pos h]
theorem walkC_neg {α : Type} {gd : Store → Prop} {m : Store → Res α} {st : Store} (h : ¬ gd st) : walkC gd m st = .stuck := by
  unfold walkC; rw [if_neg h]
theorem drop_cons {α : Type} {l : List α} {i : Nat} {d : α} {r : List α} (h : l.drop i = d :: r) : l[i]? = some d ∧ l.drop (i + 1) = r ∧ i < l.length := by
  have h1 : i < l.length := by
    have := congrArg List.length h
    rw [List.length_drop, List.length_cons] at this
    omega
  have h2 := List.drop_eq_getElem_cons h1
  rw [h] at h2
  injection h2 with h3 h4
  exact ⟨by rw [List.getElem?_eq_getElem h1, h3], h4.symm, h1⟩
theorem drop_nil {α : Type} {l : List α} {i : Nat} (h : l.drop i = []) : l.length ≤ i := List.drop_eq_nil_iff.mp h
section
variable {X : Cx} {K : PySem.W.Frag} {Tb : List (Addr × Str)} {ad ad' : List Addr} {H H' : Hp} {st : Store} {tg iter : Expr} {body : List Stmt} {gi : GI} {gg : GG} {gb : GS} {is : List Nat} {pos : Pos}
theorem s_for (hi : PI X tg iter (TIt X.K Tb gi)) (hg : PG X tg (TGt X.K Tb is gg)) (hb : PSs X body (TS' X.K Tb gb)) (hp : PassesOwn (model X.prog X.w) X.A X.env X.xe := by exact PassesOwn.never) (hc : X.calm = true := by rfl)
    (hs : ∀ x, foldedSetIterable iter X.env x = pure x := by intro _; rfl) : PS X (.For tg iter body [] pos) (TS' X.K Tb (gFor gi gg gb)) :=
  PS.of (ps_for hp hc hi hg hb hs) fun D σ H ⟨ad, ρ, st, R, S, w⟩ => by
    obtain ⟨k, s1, e1, w1⟩ := w.bind
    refine ⟨ad, ρ, st, R, S, ?_⟩
    rw [e1]
    intro ad1 H1 J x1 S1 G
    refine ⟨fun i m σ' H' => ∃ ad2 ρ2 st2, Ext X.K ad1 H1 ad2 H' ∧ RE X.K ad2 H' σ' ρ2 ∧ RS X.K Tb ad2 H' st2 ∧ m = k.items.length - i ∧ PostS X.K Tb ad H D (gLoop k.guard gg gb (k.items.drop i) ρ2 st2), ⟨_, ad1, ρ, s1, .refl, R.mono x1, S1, rfl, w1⟩, ?_⟩
    rintro i m σ' H' ⟨ad2, ρ2, st2, x2, R2, S2, hm, w2⟩
    cases hd : k.items.drop i with
    | nil =>
      rw [hd] at w2
      unfold gLoop at w2
      by_cases hgd : k.guard st2
      · rw [walkC_pos hgd] at w2
        exact .inl ⟨(G ad2 H' st2 x2 S2 hgd i).2 (drop_nil hd), w2 ad2 H' σ' (x1.trans x2) R2 S2⟩
      · rw [walkC_neg hgd] at w2; exact w2.elim
    | cons d rest =>
      obtain ⟨hd1, hd2, hd3⟩ := drop_cons hd
      rw [hd] at w2
      unfold gLoop at w2
      by_cases hgd : k.guard st2
      · rw [walkC_pos hgd] at w2
        obtain ⟨hgo, hyl⟩ := (G ad2 H' st2 x2 S2 hgd i).1 d hd1
        refine .inr ⟨hgo, fun σ3 H3 => ∃ ad2 ρ2 st2, Ext X.K ad1 H1 ad2 H3 ∧ RE X.K ad2 H3 σ3 ρ2 ∧ RS X.K Tb ad2 H3 st2 ∧ PostS X.K Tb ad H D (gLoop k.guard gg gb (k.items.drop (i + 1)) ρ2 st2), ?_, ?_⟩
        · rintro σ3 H3 ⟨a3, r3, t3, q1, q2, q3, q4⟩
          exact ⟨k.items.length - (i + 1), by omega, a3, r3, t3, q1, q2, q3, rfl, q4⟩
        · intro x H3 hy
          obtain ⟨ad3, x3, rv, S3⟩ := hyl x H3 hy
          obtain ⟨ρ3, s4, e4, w4⟩ := w2.bind
          refine ⟨ad3, d, ρ2, st2, rv, R2.mono x3, S3, ?_⟩
          rw [e4]
          intro ad4 H4 σ4 x4 R4 S4 _ _
          obtain ⟨f, s5, e5, w5⟩ := w4.bind
          refine ⟨ad4, ρ3, s4, R4, S4, ?_⟩
          rw [e5]
          have x14 := (x2.trans x3).trans x4
          rw [hd2]
          cases f with
          | nx ρ5 => exact fun ad5 H5 σ5 x5 R5 S5 => ⟨ad5, ρ5, s5, x14.trans x5, R5, S5, w5⟩
          | ct ρ5 => exact fun ad5 H5 σ5 x5 R5 S5 => ⟨ad5, ρ5, s5, x14.trans x5, R5, S5, w5⟩
          | bk ρ5 => exact fun ad5 H5 σ5 x5 R5 S5 => w5 ad5 H5 σ5 ((x1.trans x14).trans x5) R5 S5
          | rt d => exact fun ad5 H5 v x5 r5 S5 => w5 ad5 H5 v ((x1.trans x14).trans x5) r5 S5
      · rw [walkC_neg hgd] at w2; exact w2.elim
/-! ### comprehensions -/
theorem wipe_get (σ : L2.St) : ∀ (vs : List Nat) (j : Nat), (wipe σ vs)[j]? = if j ∈ vs then (σ[j]?).map (fun _ => none) else σ[j]?
  | [], j => by simp [wipe]
  | v :: vs, j => by
    unfold L2.wipe
    by_cases h : j = v
    · subst h
      rw [if_pos List.mem_cons_self]
      by_cases hl : j < σ.length
      · rw [List.getElem?_set_self (by rw [wipe_length]; exact hl), List.getElem?_eq_getElem hl]
        rfl
      · rw [List.getElem?_eq_none (by rw [List.length_set, wipe_length]; omega), List.getElem?_eq_none (by omega)]
        rfl
    · rw [List.getElem?_set_ne (Ne.symm h), wipe_get σ vs j]
      by_cases h2 : j ∈ vs
      · rw [if_pos h2, if_pos (List.mem_cons_of_mem _ h2)]
      · rw [if_neg h2, if_neg (fun z => (List.mem_cons.mp z).elim h h2)]
theorem wipe_same {σ σ2 : L2.St} {vs : List Nat} (hl : σ2.length = σ.length) (h : ∀ j, j ∉ vs → σ2[j]? = (wipe σ vs)[j]?) : wipe σ2 vs = wipe σ vs := by
  refine List.ext_getElem? fun j => ?_
  rw [wipe_get, wipe_get]
  by_cases hj : j ∈ vs
  · rw [if_pos hj, if_pos hj]
    by_cases hz : j < σ.length
    · rw [List.getElem?_eq_getElem hz, List.getElem?_eq_getElem (by rw [hl]; exact hz)]; rfl
    · rw [List.getElem?_eq_none (by omega), List.getElem?_eq_none (by omega)]
  · rw [if_neg hj, if_neg hj, h j hj, wipe_get, if_neg hj]
mutual
theorem RV.tupm (k : (∀ a xs, SqT K H a xs → SqT K H' a xs) ∧ (∀ a xs, SqC K H a xs → SqC K H' a xs) ∧ ∀ a j, j ≠ 2 → kindH (H a) = j → kindH (H' a) = j) : ∀ {v : V} {d : D}, RV K ad H v d → RV K ad H' v d
  | _, _, .non => .non
  | _, _, .bl b => .bl b
  | _, _, .int i => .int i
  | _, _, .str x => .str x
  | _, _, .tup h r => .tup (k.1 _ _ h) (RVs.tupm k r)
  | _, _, .rf h j => .rf h (k.2.2 _ _ (by decide) j)
  | _, _, .dr h j => .dr h (k.2.2 _ _ (by decide) j)
  | _, _, .ob h => .ob h
  | _, _, .cl h r => .cl (k.2.1 _ _ h) (RVs.tupm k r)
theorem RVs.tupm (k : (∀ a xs, SqT K H a xs → SqT K H' a xs) ∧ (∀ a xs, SqC K H a xs → SqC K H' a xs) ∧ ∀ a j, j ≠ 2 → kindH (H a) = j → kindH (H' a) = j) : ∀ {vs : List V} {ds : List D}, RVs K ad H vs ds → RVs K ad H' vs ds
  | _, _, .nil => .nil
  | _, _, .cons h t => .cons (RV.tupm k h) (RVs.tupm k t)
end
theorem RKs.tupm (k : (∀ a xs, SqT K H a xs → SqT K H' a xs) ∧ (∀ a xs, SqC K H a xs → SqC K H' a xs) ∧ ∀ a j, j ≠ 2 → kindH (H a) = j → kindH (H' a) = j) {us : List (Key × V)} {kvs : List (DKey × D)} (h : RKs K ad H us kvs) : RKs K ad H' us kvs := by
  induction h with
  | nil => exact .nil
  | cons h t ih => exact .cons (h.tupm k) ih
theorem RFs.tupm (k : (∀ a xs, SqT K H a xs → SqT K H' a xs) ∧ (∀ a xs, SqC K H a xs → SqC K H' a xs) ∧ ∀ a j, j ≠ 2 → kindH (H a) = j → kindH (H' a) = j) {us : List (Str × V)} {fs : List (Str × D)} (h : RFs K ad H us fs) : RFs K ad H' us fs := by
  induction h with
  | nil => exact .nil
  | cons h t ih => exact .cons (h.tupm k) ih
theorem OthOk.tupm (k : (∀ a xs, SqT K H a xs → SqT K H' a xs) ∧ (∀ a xs, SqC K H a xs → SqC K H' a xs) ∧ ∀ a j, j ≠ 2 → kindH (H a) = j → kindH (H' a) = j) (kx : ∀ a us, H a = some (.xd us) → H' a = some (.xd us)) {q : Addr} (hq : H' q = H q) : ∀ {o : Oth}, OthOk K ad H q o → OthOk K ad H' q o
  | .exn _ _, ⟨C, d, us, h1, h2, h3, h4⟩ => ⟨C, d, us, h1, by rw [hq]; exact h2, by
      cases d with
      | none => exact h3
      | some dx => exact kx _ _ h3, h4.tupm k⟩
  | .ins _ _, ⟨C, dx, us, h1, h2, h4⟩ => ⟨C, dx, us, h1, by rw [hq]; exact h2, h4.tupm k⟩
theorem kind_lst {q : Addr} {xs ys : List V} (h : H q = some (.lst xs)) : ∀ a j, j ≠ 2 → kindH (H a) = j → kindH (upd H q (.lst ys) a) = j := fun a j _ z => by
  by_cases hb : a = q
  · rw [hb] at z ⊢; rw [upd_same, ← z, h]; rfl
  · rw [upd_ne hb]; exact z
theorem RS.off {q : Addr} {xs ys : List V} (S : RS K Tb ad H st) (h : H q = some (.lst xs)) (n : q ∉ ad) : RS K Tb ad (upd H q (.lst ys)) st :=
  ⟨S.len, S.nd, fun m c a h1 h2 => by
    have hc := S.cell m c a h1 h2
    have ne : a ≠ q := fun z => n (by rw [← z]; exact List.mem_of_getElem? h2)
    have k : (∀ a xs, SqT K H a xs → SqT K (upd H q (.lst ys)) a xs) ∧ (∀ a xs, SqC K H a xs → SqC K (upd H q (.lst ys)) a xs) ∧ ∀ a j, j ≠ 2 → kindH (H a) = j → kindH (upd H q (.lst ys) a) = j := ⟨fun a xs z => sqT_upd (notup_lst h) z, fun a xs z => sqC_upd (nofrz_lst h) z, kind_lst h⟩
    cases c with
    | lst ds => obtain ⟨zs, g1, g2⟩ := hc; exact ⟨zs, by rw [upd_ne ne]; exact g1, g2.tupm k⟩
    | dct lk kvs =>
      obtain ⟨us, g1, g2⟩ := hc
      refine ⟨us, ?_, RKs.tupm k g2⟩
      cases lk with
      | false => show upd _ _ _ _ = _; rw [upd_ne ne]; exact g1
      | true => obtain ⟨o, g1⟩ := g1; exact ⟨o, by rw [upd_ne ne]; exact g1⟩
    | oth u => exact OthOk.tupm k (fun b us z => by rw [upd_ne (fun w : b = q => by rw [w, h] at z; cases z)]; exact z) (upd_ne ne) hc,
  tabs_keep S.tabs fun b o z nl => by rw [upd_ne (fun w : b = q => by rw [w, h] at z; rw [← Option.some.inj z] at nl; cases nl)]; exact z⟩
theorem Ext.off {q : Addr} {xs ys : List V} (e : Ext K ad H ad' H') (h0 : Fre H q) (h : H' q = some (.lst xs)) : Ext K ad H ad' (upd H' q (.lst ys)) :=
  ⟨e.more, fun a zs z => sqT_upd (notup_lst h) (e.tup a zs z), fun a zs z => sqC_upd (nofrz_lst h) (e.cls a zs z), fun a o z nt n => by
    rw [upd_ne (fun y : a = q => by
      obtain ⟨ps, w⟩ := h0 o (y ▸ z)
      exact nt ps w)]
    exact e.oth a o z nt n, fun a k => by
    by_cases hb : a = q
    · rw [hb, upd_same]; rw [hb] at k; rw [← e.knd q k, h]; rfl
    · rw [upd_ne hb]; exact e.knd a k, fun a o u z => by
    have z2 := e.frz a o u z
    rw [upd_ne (fun y : a = q => by rw [y, h] at z2; cases z2)]; exact z2, fun a us z => by
    have z2 := e.xds a us z
    rw [upd_ne (fun y : a = q => by rw [y, h] at z2; cases z2)]; exact z2⟩
theorem Ext.new {q : Addr} (e : Ext K ad H ad' H') (h : H' q = none) {o : HO} : Ext K ad H ad' (upd H' q o) := e.trans (ext_new h)
variable {elt : Expr} {ifs : List Expr} {scope : Scope} {own : List (Str × Nat)} {ge : GE} {gt : GT}
theorem run_lc {vs : List Nat} (hsub : ∀ j, j ∈ is → j ∈ vs) {σ : L2.St} {Q : VK} (ww : TL K Tb (gLc gi gg gt ge vs) σ H Q) : tLc (TIt K Tb gi) (TGt K Tb is gg) (TB K Tb gt) (TD K Tb ge) vs σ H Q := by
    obtain ⟨ad, ρ, st, R, S, w⟩ := ww
    obtain ⟨k, s1, e1, w1⟩ := w.bind
    refine ⟨ad, ρ, st, R, S, ?_⟩
    rw [e1]
    intro ad1 H1 J x1 S1 G q hq
    obtain ⟨total, s9, e9, w9⟩ := w1.bind
    cases e8 : small total s9 with
    | stuck => rw [e8] at w9; exact w9.elim
    | exc _ _ _ => rw [e8] at w9; exact w9.elim
    | ok ds' s9' =>
      obtain ⟨hsz, rfl, rfl⟩ := small_ok e8
      rw [e8] at w9
      have nq : q ∉ ad1 := S1.not_mem hq
      refine ⟨fun i m H' => ∃ ad2 st2 acc es rest, Ext K ad1 H1 ad2 H' ∧ RS K Tb ad2 H' st2 ∧ q ∉ ad2 ∧ H' q = some (.lst acc) ∧ RVs K ad2 H' acc es ∧ m = k.items.length - i ∧
          gComp k.guard gg gt ge (wipeE ρ vs) (k.items.drop i) st2 = .ok rest s9' ∧ es ++ rest = ds', ?_, ?_⟩
      · exact ⟨_, ad1, s1, [], [], ds', .new .refl hq, S1.upd_new hq, nq, upd_same, .nil, rfl, e9, rfl⟩
      · rintro i m H' ⟨ad2, st2, acc, es, rest, x2, S2, nq2, hl, ra, hm, hgc, htot⟩
        cases hd : k.items.drop i with
        | nil =>
          rw [hd] at hgc
          unfold gComp at hgc
          by_cases hgd : k.guard st2
          · rw [walkC_pos hgd] at hgc
            have z : Res.ok ([] : List D) st2 = .ok rest s9' := hgc
            injection z with z1 z2
            subst z1 z2
            rw [List.append_nil] at htot
            subst htot
            exact .inl ⟨(G ad2 H' st2 x2 S2 hgd i).2 (drop_nil hd), w9 ad2 H' q acc (x1.trans x2) (x1.none_of S1 hq) nq2 hl ra S2⟩
          · rw [walkC_neg hgd] at hgc; cases hgc
        | cons d rst =>
          obtain ⟨hd1, hd2, hd3⟩ := drop_cons hd
          rw [hd] at hgc
          unfold gComp at hgc
          by_cases hgd : k.guard st2
          · rw [walkC_pos hgd] at hgc
            obtain ⟨hgo, hyl⟩ := (G ad2 H' st2 x2 S2 hgd i).1 d hd1
            refine .inr ⟨hgo, fun H3 => ∃ ad2 st2 acc es rest, Ext K ad1 H1 ad2 H3 ∧ RS K Tb ad2 H3 st2 ∧ q ∉ ad2 ∧ H3 q = some (.lst acc) ∧ RVs K ad2 H3 acc es ∧
              gComp k.guard gg gt ge (wipeE ρ vs) (k.items.drop (i + 1)) st2 = .ok rest s9' ∧ es ++ rest = ds', ?_, ?_⟩
            · rintro H3 ⟨a3, t3, acc3, es3, r3, q1, q2, q3, q4, q5, q6, q7⟩
              exact ⟨k.items.length - (i + 1), by omega, a3, t3, acc3, es3, r3, q1, q2, q3, q4, q5, rfl, q6, q7⟩
            · intro x H3 hy
              obtain ⟨ad3, x3, rv, S3⟩ := hyl x H3 hy
              obtain ⟨ρ3, s4, e4, h4⟩ := andThen_ok hgc
              have R0 : RE K ad3 H3 (wipe σ vs) (wipeE ρ vs) := ((R.mono x1).wipe _).mono (x2.trans x3)
              refine ⟨ad3, d, wipeE ρ vs, st2, rv, R0, S3, ?_⟩
              rw [e4]
              intro ad4 H4 σ4 x4 R4 S4 l4 q4
              refine ⟨wipe_same (by rw [l4, wipe_length]) fun j hj => q4 j fun z => hj (hsub j z), ?_⟩
              obtain ⟨b, s5, e5, h5⟩ := andThen_ok h4
              refine ⟨ad4, ρ3, s4, R4, S4, ?_⟩
              rw [e5]
              intro ad5 H5 x5 S5
              have x35 := (x3.trans x4).trans x5
              have nq5 : q ∉ ad5 := by
                obtain ⟨mm, hmm, fm⟩ := x35.more
                rw [hmm]
                intro z
                rcases List.mem_append.mp z with z | z
                · exact nq2 z
                · obtain ⟨ps, w⟩ := (fm q z).1 _ hl
                  cases w
              have hl5 := x35.oth q _ hl (fun _ z => nomatch z) nq2
              cases b with
              | false =>
                rw [if_neg Bool.false_ne_true]
                rw [if_neg Bool.false_ne_true] at h5
                exact ⟨ad5, s5, acc, es, rest, x2.trans x35, S5, nq5, hl5, ra.mono x35, by rw [hd2]; exact h5, htot⟩
              | true =>
                rw [if_pos rfl]
                rw [if_pos rfl] at h5
                obtain ⟨y, s6, e6, h6⟩ := andThen_ok h5
                obtain ⟨r7, s7, e7, h7⟩ := andThen_ok h6
                have z : Res.ok (y :: r7) s7 = .ok rest s9' := h7
                injection z with z1 z2
                subst z1 z2
                refine ⟨ad5, ρ3, s5, R4.mono x5, S5, ?_⟩
                rw [e6]
                intro ad6 H6 v x6 r6 S6
                have x36 := x35.trans x6
                have nq6 : q ∉ ad6 := by
                  obtain ⟨mm, hmm, fm⟩ := x6.more
                  rw [hmm]
                  intro z
                  rcases List.mem_append.mp z with z | z
                  · exact nq5 z
                  · obtain ⟨ps, w⟩ := (fm q z).1 _ hl5
                    cases w
                have hl6 := x6.oth q _ hl5 (fun _ z => nomatch z) nq5
                have ra6 := ra.mono x36
                have kk : (∀ a xs, SqT K H6 a xs → SqT K (upd H6 q (.lst (acc ++ [v]))) a xs) ∧ (∀ a xs, SqC K H6 a xs → SqC K (upd H6 q (.lst (acc ++ [v]))) a xs) ∧ ∀ a j, j ≠ 2 → kindH (H6 a) = j → kindH (upd H6 q (.lst (acc ++ [v])) a) = j := ⟨fun a xs z => sqT_upd (notup_lst hl6) z, fun a xs z => sqC_upd (nofrz_lst hl6) z, kind_lst hl6⟩
                refine ⟨acc, hl6, ?_, ad6, s6, acc ++ [v], es ++ [y], r7, (x2.trans x36).off (fre_none hq) hl6, S6.off hl6 nq6, nq6, upd_same, (ra6.append (.cons r6 .nil)).tupm kk, by rw [hd2]; exact e7, by rw [← htot]; simp⟩
                rw [ra.length]
                refine SZ_lt ?_
                have : ds'.length = es.length + (r7.length + 1) := by rw [← htot]; simp
                omega
          · rw [walkC_neg hgd] at hgc; cases hgc
variable {pre : Expr}
theorem dl_comp (hi : PI X tg iter (TIt X.K Tb gi)) (hN : X.N.Nodup) (ok : BlkOk X.N X.env.scope scope own)
    (hg : ∀ (s : Shared) (H : Hp) (C : Addr) (cl : List (Str × Addr)) (fp : List Addr), PG (X.blk s H scope (compEnvC scope cl C X.env) fp) tg (TGt X.K Tb is gg))
    (ht : ∀ (s : Shared) (H : Hp) (C : Addr) (cl : List (Str × Addr)) (fp : List Addr), PTs (X.blk s H scope (compEnvC scope cl C X.env) fp) ifs (TB X.K Tb gt))
    (he : ∀ (s : Shared) (H : Hp) (C : Addr) (cl : List (Str × Addr)) (fp : List Addr), PE (X.blk s H scope (compEnvC scope cl C X.env) fp) elt (TD X.K Tb ge))
    (hsub : ∀ j, j ∈ is → j ∈ own.map (·.2)) (hc : X.calm = true := by rfl) (hs : ∀ x, foldedSetIterable iter X.env x = pure x := by intro _; rfl) :
    PE X (.ListComp elt [⟨tg, iter, ifs, 0⟩] scope pos) (TL X.K Tb (gLc gi gg gt ge (own.map (·.2)))) :=
  PE.of (pe_lc hc hN hi ok hg ht he hs) fun σ H Q w => run_lc hsub w
/-- y = [.. for ..], y a plain local name -/
theorem s_setLc {i : Nat} {y : Str} {py spos : Pos} (hi : PI X tg iter (TIt X.K Tb gi)) (hN : X.N.Nodup) (ok : BlkOk X.N X.env.scope scope own)
    (hg : ∀ (s : Shared) (H : Hp) (C : Addr) (cl : List (Str × Addr)) (fp : List Addr), PG (X.blk s H scope (compEnvC scope cl C X.env) fp) tg (TGt X.K Tb is gg))
    (ht : ∀ (s : Shared) (H : Hp) (C : Addr) (cl : List (Str × Addr)) (fp : List Addr), PTs (X.blk s H scope (compEnvC scope cl C X.env) fp) ifs (TB X.K Tb gt))
    (he : ∀ (s : Shared) (H : Hp) (C : Addr) (cl : List (Str × Addr)) (fp : List Addr), PE (X.blk s H scope (compEnvC scope cl C X.env) fp) elt (TD X.K Tb ge))
    (hsub : ∀ j, j ∈ is → j ∈ own.map (·.2)) (hsw : swapsWith (.ListComp elt [⟨tg, iter, ifs, 0⟩] scope pos) (some (.Name y py)) spos.line X.env = pure true) (hyl : X.env.scope.names.lookup y = some .local := by rfl) (hy : X.N[i]? = some y := by rfl)
    (hc : X.calm = true := by rfl) (hs : ∀ x, foldedSetIterable iter X.env x = pure x := by intro _; rfl) :
    PS X (.Assign [.Name y py] (.ListComp elt [⟨tg, iter, ifs, 0⟩] scope pos) spos) (TS' X.K Tb (gAsg (gNew (gLc gi gg gt ge (own.map (·.2)))) (gName i))) :=
  PS.of (ps_setLc hc hN hy hyl hsw hi ok hg ht he hs) fun D σ H ⟨ad, ρ, st, R, S, w⟩ => by
    obtain ⟨d, s1, e1, w1⟩ := w.bind
    obtain ⟨ds, s0, e0, e2⟩ := andThen_ok e1
    unfold newList at e2
    injection e2 with e3 e4
    subst e3 e4
    refine run_lc hsub ⟨ad, ρ, st, R, S, ?_⟩
    rw [e0]
    intro ad1 H1 q xs x1 hq np hl r1 S1
    refine w1 (ad1 ++ [q]) H1 _ (x1.push hq S) ((R.mono (x1.push hq S)).set i (.rf ?_ (by rw [hl]; rfl))) (S1.push hl np r1)
    rw [← S1.len]
    simp
/-- no test -/
theorem ts_nil : PTs X [] (TB K Tb tYes) := ⟨fun pins s σ H Q I ⟨ad, ρ, st, R, S, w⟩ => pts_nil.run pins s σ H Q I (w ad H .refl S)⟩
theorem ts_one {c : Expr} (h : PT X c (TB K Tb gt)) : PTs X [c] (TB K Tb gt) := pts_one h
end
/-! ### a def -/
section
variable {P : Program} {w : World} {K : PySem.W.Frag} {Tb : List (Addr × Str)} {mg : Str → Option Value} {base : Heap}
theorem fn_mk {x qual : Str} {sd : Stmt} {f : Addr} {fd : FuncData} {N ps : List Str} {k : Nat} {b : GS} (F : Fun K x qual sd f fd) (S : FnScope N ps (defScope sd))
    (body : ∀ (cdv : Value) (A : Around) (outer : List PySem.Env) (s : Shared) (H : Hp) (E : XK), Room k (A.deeper (PyProof.Rows.envOfC qual (defScope sd) s.heap.objs.size f cdv)) → PSs (cxOf CX0 P w K mg base N qual (defScope sd) f cdv A outer s H E).nox (defBody sd) (TS' K Tb b)) :
    FnOk P w K mg base CX0 (k + 1) f fd ps (spD K Tb ps.length (gFn ps.length N.length b)) := by
  refine F.ok S (fun vs H Q E h => h.1) (fun cdv A outer s H vs Q E hr h => ⟨TS' K Tb b, body cdv A outer s H E hr, ?_⟩)
  obtain ⟨hl, ad, ds, st, r, Sx, q⟩ := h
  refine ⟨ad, startE N.length ds, st, RE.start N.length N rfl r, Sx, ?_⟩
  unfold gFn at q
  rw [if_pos (by rw [← r.length]; exact hl)] at q
  obtain ⟨fl, s1, e1, q1⟩ := q.bind
  rw [e1]
  cases fl with
  | nx ρ => exact fun ad' H' σ' x _ S' => q1 ad' H' .non x .non S'
  | rt d => exact fun ad' H' v x r' S' => q1 ad' H' v x r' S'
  | bk ρ => exact q1.elim
  | ct ρ => exact q1.elim
theorem cal_mk {x : Str} {f : Addr} {fd : FuncData} {ps : List Str} {k n : Nat} {b : GS} (F : FnOk P w K mg base CX0 k f fd ps (spD K Tb ps.length (gFn ps.length n b))) (hm : mg x = some (.ref f)) (hk : PySem.W.keepIn K (.ref f) = true) (hb : Binds K fd ps []) :
    Cal P w K Tb mg base k x ps.length (gFn ps.length n b) := ⟨⟨f, fd, ps, F, hm, hk, hb⟩, fun ds st h => gFn_len h⟩
theorem rv_ints {ad : List Addr} {H : Hp} : ∀ ns : List Int, RVs K ad H (ns.map V.int) (ns.map D.int)
  | [] => .nil
  | n :: r => .cons (.int n) (rv_ints r)
theorem sp_lawC {g : GF} {H : Hp} {a : Addr} {ns : List Int} {E : XK} (h : ∃ st', g [.cl (ns.map D.int)] [] = .ok (.bl true) st') (hT : LamX.Tabs Tb H) (hc : SqC K H a (ns.map V.int)) : spD K Tb 1 g [.ref a] H (fun v _ => v = .bl true) E := by
  obtain ⟨st', h⟩ := h
  refine ⟨rfl, [], [.cl (ns.map D.int)], [], .cons (.cl hc (rv_ints ns)) .nil, ⟨rfl, List.nodup_nil, fun n c a h1 _ => by simp at h1, hT⟩, ?_⟩
  rw [h]
  intro ad' H' v x r S
  cases r
  rfl
theorem sp_law {g : GF} {H : Hp} {a : Addr} {ns : List Int} {E : XK} (h : ∃ st', g [.cl (ns.map D.int)] [] = .ok (.bl true) st') (ho : Only H) (hS : SqL K H a (ns.map V.int)) : spD K [] 1 g [.ref a] H (fun v _ => v = .bl true) E := by
  refine sp_lawC h (fun _ z => nomatch z) ?_
  rcases hS with (h1 | h1) | h1
  · rcases ho a with z | ⟨o, xs, z⟩
    · rw [h1] at z; cases z
    · rw [h1] at z; cases z
  · exact .inl h1
  · exact .inr h1
/-- beside tables the script may be a plain list, too -/
theorem sp_lawT {g : GF} {H : Hp} {a : Addr} {ns : List Int} {E : XK} (h : ∃ st', g [.cl (ns.map D.int)] [] = .ok (.bl true) st') (h2 : ∃ st', g [.rf 0] [.lst (ns.map D.int)] = .ok (.bl true) st') (hT : LamX.Tabs Tb H) (hS : SqL K H a (ns.map V.int)) : spD K Tb 1 g [.ref a] H (fun v _ => v = .bl true) E := by
  rcases hS with (h1 | h1) | h1
  · obtain ⟨st', h2⟩ := h2
    refine ⟨rfl, [a], [.rf 0], [.lst (ns.map D.int)], .cons (.rf rfl (by rw [h1]; rfl)) .nil, ⟨rfl, by simp, fun n c b h3 h4 => ?_, hT⟩, ?_⟩
    · cases n with
      | zero =>
        obtain rfl : Cell.lst (ns.map D.int) = c := by simpa using h3
        obtain rfl : a = b := by simpa using h4
        exact ⟨_, h1, rv_ints ns⟩
      | succ n => simp at h3
    · rw [h2]
      intro ad' H' v x r S
      cases r
      rfl
  · exact sp_lawC h hT (.inl h1)
  · exact sp_lawC h hT (.inr h1)
theorem u65 {k : Nat} {A : Around} (hr : Room k A) : A.units + 65 < cLine := by have := hr.un; omega
end
end DL
namespace DL
open PySem L2
/-! ### enumerate of a tuple -/
theorem typeCall_enum1 (a : Value) : checkTypeCall "enumerate" ⟨[a], []⟩ = pure () := F.typeCall_enumerate_1 a
theorem meets_enumT (l : Addr) (items : Array Value) :
    Meets (Builtin.«enumerate.__new__» ⟨[.type "enumerate", .ref l], []⟩) (fun _ R s => s.heap.IsTuple l items ∧
      R (.ok (.ret (.ref (s.heap.push { cls := .type "tuple_iterator", data := .fields #[.ref l, .int 0 0] }).objs.size)))
        { s with heap := (s.heap.push { cls := .type "tuple_iterator", data := .fields #[.ref l, .int 0 0] }).push { cls := .type "enumerate", data := .fields #[.none, .bool false, .ref s.heap.objs.size, rawInt 0, .none, .none] } }) :=
  .of_wp fun prog w A R s h => by
    obtain ⟨hp, g, d, tk, os⟩ := s; obtain ⟨h1, h⟩ := h
    have hsub := sub_enumerate
    have q1 : ∀ {A' : Around} {E : Value → Shared → Prop} {Q : Value → Shared → Prop}, Q (.ref hp.objs.size) ⟨hp.push { cls := .type "tuple_iterator", data := .fields #[.ref l, .int 0 0] }, g, d, tk, os⟩ → wpAny (model prog w) A' (pyIter (.ref l)) Q E ⟨hp, g, d, tk, os⟩ :=
      fun q => wpAny_pyIter_tuple (s := ⟨hp, g, d, tk, os⟩) h1 q
    wp_walk using q1
    refine wpAny_stack_any fun st => wpAny_pure ?_
    split
    · rename_i c _ _ _ _ _
      cases (c == Value.type "enumerate")
      · wp_walk using q1
        exact ⟨_, rfl, h⟩
      · wp_walk using q1
        exact ⟨_, rfl, h⟩
    · wp_walk using q1
      exact ⟨_, rfl, h⟩
section
variable {prog : Program} {w : World} {A : Around} {E : Value → Shared → Prop} {s : Shared}
theorem call_enumerate_tup {l : Addr} {items : Array Value} {Q : Value → Shared → Prop} (hL : s.heap.IsTuple l items)
    (h : ∀ h', IsEnum h' (s.heap.objs.size + 1) s.heap.objs.size 0 .none → h'.IsTupleIter s.heap.objs.size l 0 → h'.objs.size = s.heap.objs.size + 2 →
      (∀ b o, s.heap.get? b = some o → h'.get? b = some o) → Q (.ref (s.heap.objs.size + 1)) { s with heap := h' }) :
    wpAny (model prog w) A (call (.type "enumerate") [.ref l]) Q E s := by
  refine callType_new F.called_enumerate (by decide) (F.typeCall_enumerate_1 _) (F.newCall_enumerate_1 _) (fun obj => F.args_object_init_2 obj _) F.entry_enumerate_new
    (meets_enumT l items) ⟨hL, ?_⟩
  have hz : (s.heap.push { cls := .type "tuple_iterator", data := .fields #[.ref l, .int 0 0] }).objs.size = s.heap.objs.size + 1 := Heap.size_push ..
  show _ ∧ _
  rw [hz]
  have he : IsEnum ((s.heap.push { cls := .type "tuple_iterator", data := .fields #[.ref l, .int 0 0] }).push
      { cls := .type "enumerate", data := .fields #[.none, .bool false, .ref s.heap.objs.size, rawInt 0, .none, .none] }) (s.heap.objs.size + 1) s.heap.objs.size 0 .none := by
    have := Heap.get?_push_size (s.heap.push { cls := .type "tuple_iterator", data := .fields #[.ref l, .int 0 0] })
      (o := { cls := .type "enumerate", data := .fields #[.none, .bool false, .ref s.heap.objs.size, rawInt 0, .none, .none] }) rfl
    rw [hz] at this; exact this
  refine ⟨⟨_, he, rfl⟩, h _ he ⟨_, Heap.get?_push_of_some _ (Heap.get?_push_size _ rfl), rfl, rfl⟩ (by rw [Heap.size_push, hz]) fun b o x => Heap.get?_push_of_some _ (Heap.get?_push_of_some _ x)⟩
end
def IteT (K : PySem.W.Frag) (a : Addr) : It :=
  ⟨fun i H => ∃ (xs : List V) (x : V), SqT K H a xs ∧ xs[i]? = some x, fun i H v H' => ∃ T x, v = .ref T ∧ H T = none ∧ H' = upd H T (.tup [.int (i : Nat), x]) ∧ ∀ xs, SqT K H a xs → xs[i]? = some x, fun i H => ∃ xs : List V, SqT K H a xs ∧ xs.length ≤ i⟩
theorem turn_enumT {P : Program} {w : World} {K : PySem.W.Frag} {elts : List Expr} {kk : Nat} {tpos : Pos} (a e it : Addr) (hai : a ≠ it) (hae : a ≠ e) (hne : e ≠ it) :
    Turn P w K (.Tuple elts kk tpos) (IteT K a) [e, it] e (fun i h => (∃ old, IsEnum h e it ((i : Nat) : Int) old) ∧ h.IsTupleIter it a i) where
  mem := by simp
  obj := fun i h st b hb => by
    obtain ⟨⟨old, he⟩, ⟨o, ho, hc, hd⟩⟩ := st
    have e' : b = e ∨ b = it := by simpa using hb
    rcases e' with z | z
    · rw [z]; exact ⟨_, he, fun v q => nomatch q⟩
    · rw [z]; exact ⟨o, ho, fun v q => by rw [hd] at q; cases q⟩
  keep := fun i h h' st k => let ⟨⟨old, he⟩, hi⟩ := st; ⟨⟨old, k e (by simp) _ he⟩, hi.at fun o q => k it (by simp) o q⟩
  item := by
    intro X hP hw hK hc i pins s σ H E I hf st hg
    subst hP hw hK
    obtain ⟨⟨old, he⟩, hit⟩ := st
    obtain ⟨xs, x, hq, hx⟩ := hg
    obtain ⟨its, rv, p, hz⟩ := I.tuple hq
    obtain ⟨u, hu, ru⟩ := rv.get hx
    have hel : e < s.heap.objs.size := Heap.lt_size he
    have hil : it < s.heap.objs.size := by obtain ⟨_, q, _⟩ := hit; exact Heap.lt_size q
    have hlt : i < its.toArray.size := by
      have := (List.getElem?_eq_some_iff.mp hu).1
      simpa using this
    refine wpAny_pyNext_enum_itemD (Draws.tuple (prog := X.prog) (w := X.w) (A := X.A.in1) (I.ok.hd hc) it a hai its.toArray) he ⟨hit, show s.heap.IsTuple a its.toArray from p⟩ hlt hne (by
      intro z
      have : e = it ∨ e = a := by simpa using z
      rcases this with z | z
      · exact hne z
      · exact hae z.symm) fun x' h' tk hx' ho hst' hT hsz hk => ?_
    have ex : x' = u := by
      have q : its[i]? = some x' := by simpa using hx'
      rw [hu] at q
      exact (Option.some.inj q).symm
    subst ex
    refine ⟨_, rfl, wpAny_letOwnedTupleGo_enum (s := { s with heap := h', toks := tk + 1 }) ho fun h'' he' sb => ?_⟩
    have hT2 : h''.get? s.heap.objs.size = some { cls := .type "tuple", data := .seq #[.int i tk, x'] } := (sb.2 _ (Nat.ne_of_gt hel)).trans hT
    have new : ObjOk X.prog X.w (upd H s.heap.objs.size (.tup [.int (i : Nat), x])) h'' s.heap.objs.size (.tup [.int (i : Nat), x]) :=
      ⟨by show 2 ≤ sizeLine; decide, [.int i tk, x'], .cons ⟨_, rfl⟩ (.cons ru .nil), ⟨_, hT2, rfl, _, rfl⟩⟩
    have I1 : Inv X pins σ (upd H s.heap.objs.size (.tup [.int (i : Nat), x])) { s with heap := h'', toks := tk + 1 } :=
      I.turnedNew (ch := [e, it]) (fun b ob hb q => (sb.2 b (fun z => hb (by simp [z]))).trans (hk b ob (fun z => hb (by simp [z])) (fun z => hb (by simp [z])) q)) hf (Nat.le_refl _) new
    refine ⟨.ref s.heap.objs.size, _, I1, rfl, ⟨_, x, rfl, I.hok.fresh (Nat.le_refl _), rfl, fun ys hy => by rw [I.tuple_inj hy hq]; exact hx⟩, ⟨⟨x', ?_⟩, hst'.1.at fun o q => (sb.2 it (Ne.symm hne)).trans q⟩, fun b hb => ?_⟩
    · have e1 : ((i + 1 : Nat) : Int) = (i : Int) + 1 := by omega
      rw [e1]; exact he'
    · have hb' : b < s.heap.objs.size := by
        have e' : b = e ∨ b = it := by simpa using hb
        rcases e' with z | z
        · rw [z]; exact hel
        · rw [z]; exact hil
      rw [upd_ne (Nat.ne_of_lt hb')]
      exact (hf b hb).1
  done := by
    intro X hP hw hK hc i pins s σ H E I hf st hg
    subst hP hw hK
    obtain ⟨⟨old, he⟩, hit⟩ := st
    obtain ⟨xs, hq, hx⟩ := hg
    obtain ⟨its, rv, p, hz⟩ := I.tuple hq
    obtain ⟨f0, f1, f2, f3, f4, f5⟩ := hf it (by simp)
    have hl := rv.length
    unfold pyNext
    refine wpAny_bind (wpAny_attempt (wpAny_callSpecial?_slot (name := Str.ofString "__next__") (T := "enumerate") ⟨_, he, rfl⟩ F.slot_enumerate_next
      (wpAny_call_entry F.slot_enumerate_next (T := "enumerate") ⟨_, he, rfl⟩ F.entry_enumerate_next ?_ (F.args_enumerate_next_1 _))))
    show wpAny _ _ (field (.ref e) 2 >>= _) _ _ _
    refine wpAny_bind (wpAny_field he rfl (x := .ref it) rfl ?_)
    refine wpAny_bind (wpAny_nextOf_tuple_end (I.ok.hd hc) hit (show s.heap.IsTuple a its.toArray from p) (by simp; omega) fun h' x he' hx' => ?_)
    obtain ⟨o, ho, hcl⟩ := hx'
    refine wpAny_bind (wpAny_isInstance (T := "StopIteration") (b := true) ⟨o, ho, hcl⟩ isSubtype_stop ?_)
    exact wpAny_pure ⟨rfl, I.turned (t' := s.toks) (fun b o hb q => he' b o hb q) f0 f1 f3 f4 f5⟩
  self := fun A i s Q E st h => let ⟨⟨_, he⟩, _⟩ := st; wpAny_pyIter_enum he h
def iEnumT (K : PySem.W.Frag) (ta : TA) : TI := fun σ H R => ta σ H fun vs H1 => ∃ a xs, vs = [.ref a] ∧ SqT K H1 a xs ∧ R (IteT K a) H1
theorem pi_enumT {X : Cx} {e : Expr} {ta : TA} {p pos tpos : Pos} {elts : List Expr} {kk : Nat} (hg : Gl X "enumerate") (hm : X.mg "enumerate" = none) (ha : PA X [e] ta) (hs : starEach [e] X.env = [(false, eval e X.env)] := by rfl) :
    PI X (.Tuple elts kk tpos) (.Call (.Name "enumerate" p) [e] [] pos) (iEnumT X.K ta) := by
  refine ⟨fun pins s σ H R I h => ?_⟩
  refine PyProof.Rows.Call_ (ld_blt I hg hm PyProof.Rows.boot_enumerate (PyProof.Rows.callWith_type1 (thn (ha.run pos pins s σ H _ I h) fun us s1 ⟨vs, H1, I1, r1, q1⟩ => ?_) hs rfl))
  obtain ⟨a, xs, ex, hq, q⟩ := q1
  subst ex
  cases r1 with
  | cons r rr =>
    cases rr
    cases r
    obtain ⟨its, rv, p', hz⟩ := I1.tuple hq
    obtain ⟨oa, hoa, _⟩ := id p'
    have hal : a < s1.heap.objs.size := Heap.lt_size hoa
    refine call_enumerate_tup (show s1.heap.IsTuple a its.toArray from p') fun h' he hit hsz hk => wpAny_pyIter_enum he ?_
    have I2 : Inv X pins σ H1 { s1 with heap := h' } := I1.kept (t' := s1.toks) hk
    refine ⟨s1.heap.objs.size + 1, [s1.heap.objs.size + 1, s1.heap.objs.size], _, _, H1, rfl, I2, turn_enumT a (s1.heap.objs.size + 1) s1.heap.objs.size (Nat.ne_of_lt hal) (Nat.ne_of_lt (Nat.lt_succ_of_lt hal)) (Nat.succ_ne_self _), ⟨⟨.none, he⟩, hit⟩, fun b hb => ?_, q⟩
    have e' : b = s1.heap.objs.size + 1 ∨ b = s1.heap.objs.size := by simpa using hb
    have hle : s1.heap.objs.size ≤ b := by
      rcases e' with z | z
      · rw [z]; exact Nat.le_add_right _ _
      · rw [z]; exact Nat.le_refl _
    exact I1.fpOk hle (I1.hok.fresh hle)
end DL
namespace DL
open PySem L2 RZ
theorem enumD_get {ds : List D} {i : Nat} {d : D} (h : (enumD ds)[i]? = some d) : ∃ e, ds[i]? = some e ∧ d = .tup [.int (i : Nat), e] := by
  unfold enumD at h
  rw [List.getElem?_mapIdx] at h
  cases q : ds[i]? with
  | none => rw [q] at h; cases h
  | some e => rw [q] at h; exact ⟨e, rfl, (Option.some.inj h).symm⟩
theorem enumD_length (ds : List D) : (enumD ds).length = ds.length := by unfold enumD; simp
theorem zipD_get {xs ys : List D} {i : Nat} {d : D} (h : (zipD xs ys)[i]? = some d) : ∃ a b, xs[i]? = some a ∧ ys[i]? = some b ∧ d = .tup [a, b] := by
  unfold zipD at h
  rw [List.getElem?_zipWith] at h
  cases q : xs[i]? with
  | none => rw [q] at h; cases h
  | some a =>
    cases q2 : ys[i]? with
    | none => rw [q, q2] at h; cases h
    | some b => rw [q, q2] at h; exact ⟨a, b, rfl, rfl, (Option.some.inj h).symm⟩
theorem zipD_length (xs ys : List D) : (zipD xs ys).length = min xs.length ys.length := by unfold zipD; simp
section
variable {X : Cx} {K : PySem.W.Frag} {Tb : List (Addr × Str)} {ad : List Addr} {H : Hp} {st : Store} {tg a b c e : Expr} {ga gb gc g : GE} {gs : GA} {t u : GT} {pos p tpos : Pos} {elts : List Expr} {kk : Nat}
/-- a pair newly made -/
theorem new_pair {ad1 : List Addr} {H1 : Hp} {st1 : Store} {T : Addr} {x y : V} {dx dy : D} (S1 : RS K Tb ad1 H1 st1) (hT : H1 T = none) (rx : RV K ad1 H1 x dx) (ry : RV K ad1 H1 y dy) :
    ∃ ad2, Ext K ad1 H1 ad2 (upd H1 T (.tup [x, y])) ∧ RV K ad2 (upd H1 T (.tup [x, y])) (.ref T) (.tup [dx, dy]) ∧ RS K Tb ad2 (upd H1 T (.tup [x, y])) st1 :=
  ⟨ad1, ext_new hT, .tup (.inl (.inl upd_same)) (.cons (rx.mono (ext_new hT)) (.cons (ry.mono (ext_new hT)) .nil)), S1.upd_new hT⟩
theorem gives_enumT {q : Addr} {xs : List V} {ds : List D} (h : SqT K H q xs) (r : RVs K ad H xs ds) (gd : Store → Prop) : Gives K Tb ad H (IteT K q) ⟨enumD ds, gd⟩ := by
  intro ad1 H1 st1 x1 S1 _ i
  have h1 := x1.tup _ _ h
  have r1 := r.mono x1
  refine ⟨fun d hd => ?_, fun hi => ⟨xs, h1, by rw [r.length]; exact (enumD_length ds) ▸ hi⟩⟩
  obtain ⟨e, he, rfl⟩ := enumD_get hd
  obtain ⟨v, g1, g2⟩ := r1.get he
  refine ⟨⟨xs, v, h1, g1⟩, fun x H2 hy => ?_⟩
  obtain ⟨T, y, rfl, hT, rfl, hy⟩ := hy
  have := hy xs h1
  rw [g1] at this
  cases this
  exact new_pair S1 hT (.int _) g2
theorem gives_enumL {n : Nat} {q : Addr} {ds : List D} (h : ad[n]? = some q) : Gives K Tb ad H (Ite K q) ⟨enumD ds, fun st' => cellItems st' n = some ds⟩ := by
  intro ad1 H1 st1 x1 S1 hg i
  obtain ⟨xs, g1, g2⟩ := S1.items hg (x1.at h)
  refine ⟨fun d hd => ?_, fun hi => ⟨xs, g1, by rw [g2.length]; exact (enumD_length ds) ▸ hi⟩⟩
  obtain ⟨e, he, rfl⟩ := enumD_get hd
  obtain ⟨v, g3, g4⟩ := g2.get he
  refine ⟨⟨xs, v, g1, g3⟩, fun x H2 hy => ?_⟩
  obtain ⟨T, y, rfl, hT, rfl, hy⟩ := hy
  have := hy xs g1
  rw [g3] at this
  cases this
  exact new_pair S1 hT (.int _) g4
theorem di_enum {x : Str} (hx : x = "enumerate") (hm : X.mg x = none) (ha : PE X a (TD X.K Tb ga)) (hg : Gl X x := by rfl) (hs : starEach [a] X.env = [(false, eval a X.env)] := by rfl) : PI X (.Tuple elts kk tpos) (.Call (.Name x p) [a] [] pos) (TIt X.K Tb (wEnum ga)) := by
  subst hx
  refine PI.of (PI.or (pi_enumT hg hm (da_cons ha da_nil hs) hs) (pi_enum hg hm (da_cons ha da_nil hs) hs)) fun σ H R' ⟨ad, ρ, st, R, S, w⟩ => ?_
  obtain ⟨d, s1, e1, w1⟩ := w.bind
  have e : gCons ga gNil ρ st = .ok [d] s1 := by unfold gCons gNil andThen; rw [e1]; rfl
  cases d with
  | tup ds =>
    refine .inl ⟨ad, ρ, st, R, S, ?_⟩
    rw [e]
    intro ad1 H1 xs x1 r1 S1
    cases r1 with
    | cons r2 r3 =>
      cases r3
      cases r2 with
      | @tup q xs _ h1 rs => exact ⟨q, xs, rfl, h1, w1 ad1 H1 _ x1 S1 (gives_enumT h1 rs _)⟩
  | rf n =>
    refine .inr ⟨ad, ρ, st, R, S, ?_⟩
    rw [e]
    intro ad1 H1 xs x1 r1 S1
    cases r1 with
    | cons r2 r3 =>
      cases r3
      cases r2 with
      | @rf _ q h1 _ =>
        simp only at w1
        cases e2 : cellItems s1 n with
        | none => simp only [e2] at w1; exact w1.elim
        | some ds =>
          simp only [e2] at w1
          obtain ⟨xs, g1, g2⟩ := S1.items e2 h1
          exact ⟨q, xs, rfl, g1, w1 ad1 H1 _ x1 S1 (gives_enumL h1)⟩
  | _ => exact w1.elim
theorem gives_zipT {q r : Addr} {xs ys : List V} {ds es : List D} (h : SqT K H q xs) (h' : SqT K H r ys) (rx : RVs K ad H xs ds) (ry : RVs K ad H ys es) (gd : Store → Prop) : Gives K Tb ad H (ItzT K q r) ⟨zipD ds es, gd⟩ := by
  intro ad1 H1 st1 x1 S1 _ i
  have h1 := x1.tup _ _ h
  have h2 := x1.tup _ _ h'
  have r1 := rx.mono x1
  have r2 := ry.mono x1
  refine ⟨fun d hd => ?_, fun hi => ⟨xs, ys, h1, h2, ?_⟩⟩
  · obtain ⟨a, b, ha, hb, rfl⟩ := zipD_get hd
    obtain ⟨v, g1, g2⟩ := r1.get ha
    obtain ⟨u, g3, g4⟩ := r2.get hb
    refine ⟨⟨xs, ys, v, u, h1, h2, g1, g3⟩, fun x H2 hy => ?_⟩
    obtain ⟨T, y, z, rfl, hT, rfl, hy, hz⟩ := hy
    have q1 := hy xs h1
    have q2 := hz ys h2
    rw [g1] at q1
    rw [g3] at q2
    cases q1
    cases q2
    exact new_pair S1 hT g2 g4
  · have hl : (zipD ds es).length ≤ i := hi
    rw [zipD_length] at hl
    rw [rx.length, ry.length]
    omega
theorem gives_zipL {n m : Nat} {q r : Addr} {ds es : List D} (h : ad[n]? = some q) (h' : ad[m]? = some r) : Gives K Tb ad H (Itz K q r) ⟨zipD ds es, fun st' => cellItems st' n = some ds ∧ cellItems st' m = some es⟩ := by
  intro ad1 H1 st1 x1 S1 hg i
  obtain ⟨xs, h1, r1⟩ := S1.items hg.1 (x1.at h)
  obtain ⟨ys, h2, r2⟩ := S1.items hg.2 (x1.at h')
  refine ⟨fun d hd => ?_, fun hi => ⟨xs, ys, h1, h2, ?_⟩⟩
  · obtain ⟨a, b, ha, hb, rfl⟩ := zipD_get hd
    obtain ⟨v, g1, g2⟩ := r1.get ha
    obtain ⟨u, g3, g4⟩ := r2.get hb
    refine ⟨⟨xs, ys, v, u, h1, h2, g1, g3⟩, fun x H2 hy => ?_⟩
    obtain ⟨T, y, z, rfl, hT, rfl, hy, hz⟩ := hy
    have q1 := hy xs h1
    have q2 := hz ys h2
    rw [g1] at q1
    rw [g3] at q2
    cases q1
    cases q2
    exact new_pair S1 hT g2 g4
  · have hl : (zipD ds es).length ≤ i := hi
    rw [zipD_length] at hl
    rw [r1.length, r2.length]
    omega
theorem di_zip {x : Str} (hx : x = "zip") (hm : X.mg x = none) (ha : PE X a (TD X.K Tb ga)) (hb : PE X b (TD X.K Tb gb)) (hg : Gl X x := by rfl) (hs : starEach [a, b] X.env = [(false, eval a X.env), (false, eval b X.env)] := by rfl) (hs2 : starEach [b] X.env = [(false, eval b X.env)] := by rfl) :
    PI X (.Tuple elts kk tpos) (.Call (.Name x p) [a, b] [] pos) (TIt X.K Tb (wZip ga gb)) := by
  subst hx
  refine PI.of (pi_zipA hg hm (da_cons ha (da_cons hb da_nil hs2) (by rw [hs, hs2])) (by rw [hs, hs2]) (by rw [hs2]; rfl)) fun σ H R' ⟨ad, ρ, st, R, S, w⟩ => ?_
  obtain ⟨d, s1, e1, w1⟩ := w.bind
  obtain ⟨d2, s2, e2, w2⟩ := w1.bind
  have e : gCons ga (gCons gb gNil) ρ st = .ok [d, d2] s2 := by unfold gCons gNil andThen; rw [e1]; simp only [e2]; rfl
  refine ⟨ad, ρ, st, R, S, ?_⟩
  rw [e]
  intro ad1 H1 xs x1 r1 S1
  cases r1 with
  | cons ra r2 =>
    cases r2 with
    | cons rb r3 =>
      cases r3
      cases ra with
      | @tup q xs ds h1 rs =>
        cases rb with
        | @tup q2 ys es h2 rs2 => exact ⟨q, q2, xs, ys, rfl, .inr ⟨h1, h2, w2 ad1 H1 _ x1 S1 (gives_zipT h1 h2 rs rs2 _)⟩⟩
        | _ => exact w2.elim
      | @rf n q h1 _ =>
        cases rb with
        | @rf m q2 h2 _ =>
          simp only at w2
          cases e3 : cellItems s2 n with
          | none => simp only [e3] at w2; exact w2.elim
          | some ds =>
            cases e4 : cellItems s2 m with
            | none => simp only [e3, e4] at w2; exact w2.elim
            | some es =>
              simp only [e3, e4] at w2
              obtain ⟨xs, g1, g2⟩ := S1.items e3 h1
              obtain ⟨ys, g3, g4⟩ := S1.items e4 h2
              exact ⟨q, q2, xs, ys, rfl, .inl ⟨g1, g3, w2 ad1 H1 _ x1 S1 (gives_zipL h1 h2)⟩⟩
        | _ => exact w2.elim
      | _ => exact w2.elim
end
end DL
namespace DL
open PySem PySem.Spec PyProof.Rows L2
/-! ### sorted(.., key=lambda x: x[k]) -/
section
variable {prog : Program} {w : World} {A : Around} {E : Value → Shared → Prop} {s : Shared}
theorem call_lam {f t c' : Addr} {q x : Str} {params : Arguments} {scope : Scope} {cl : List (Str × Addr)} {pm ctv : Value} {p1 p2 pos : Pos} {k n : Int} {j : Nat} {tk : Tok} {items : Array Value} {Q : Value → Shared → Prop}
    (hr : A.depth < recursionLimit) (hlim : s.heap.NoLimit) (hf : s.heap.get? f = some (PySem.W.kla_obj "<lambda>" q params (.Subscript (.Name x p1) (.Constant (.int k) j p2) pos) scope cl pm c' ctv)) (hc : s.heap.CodeRec (.ref c') q)
    (hk : scope.kind = .function) (hco : scope.isCoroutine = false) (hgen : scope.isGenerator = false) (hcell : ∀ x ∈ scope.names, x.2 ≠ .cell) (hx : scope.names.lookup x = some .local) (hd : (x == ("__debug__" : Str)) = false)
    (hbind : bindArgs (PySem.W.kla_fn "<lambda>" q params (.Subscript (.Name x p1) (.Constant (.int k) j p2) pos) scope cl pm (.ref c') ctv) ⟨[.ref t], []⟩ = pure [(x, .ref t)])
    (ht : IsTup s.heap t items) (hk0 : 0 ≤ k) (hk1 : k < 2 ^ 62) (hi : items[k.toNat]? = some (.int n tk))
    (h : ∀ h' tk', (∀ b o, s.heap.get? b = some o → h'.get? b = some o) → s.heap.objs.size ≤ h'.objs.size → Q (.int n tk) { s with heap := h', toks := tk' }) :
    wpAny (model prog w) A (call (.ref f) [.ref t]) Q E s := by
  refine wpAny_call (PySem.W.kla_callFunE hr hf rfl hco hgen rfl hc ?_)
  rw [hbind]
  refine wpAny_pure (wpAny_newFunctionEnv hcell (fun y hy => ?_) (fun h₁ hns hsb => ⟨hlim.fresh _ hsb, ?_⟩) hk)
  · obtain rfl : y = (x, Value.ref t) := by simpa using hy
    exact hx
  · have kp : ∀ b o, s.heap.get? b = some o → h₁.get? b = some o := fun b o e => hsb.extBut b o (Nat.ne_of_lt (Heap.lt_size e)) (Heap.get?_push_of_some _ e)
    show codeAny _ _ (.expr _ (PySem.W.envX q scope s.heap.objs.size f (.ref c') cl)) _ _
    refine PySem.W.kla_codeExpr ?_
    refine Subscript_ ?_
    refine wpAny_Name (wpAny_loadName_local (v := .ref t) hk hx hns (by simp) ?_) hd
    refine wpAny_Constant_int ?_
    have ht' : IsTup h₁ t items := ht.keeps kp
    refine subscriptTail_builtin (T := "tuple") ht'.typeIs slot_tuple_getitem.lookup (getItem_tuple (j := k.toNat) (x := .int n tk) ht' (by omega) (by omega) ?_ hi ?_)
    · have hlt : k.toNat < items.size := (Array.getElem?_eq_some_iff.mp hi).1
      rw [seqIndex_of hk0 (by omega)]
    · refine h h₁ _ kp ?_
      rw [hsb.1]
      exact Nat.le_of_lt (by rw [Heap.size_push]; exact Nat.lt_succ_self _)
end
section
variable {X : Cx} {pins : List (Addr × Obj)} {σ : L2.St} {H : Hp} {s : Shared}
/-- behind a rule of the ledger: all but the frame is kept -/
theorem keptN {g h h' : Heap} {L : Addr} {m : Str → Option Value} (k : ∀ b o, g.get? b = some o → h.get? b = some o) (F : Fr g L h' m) (N : News g L h' (allNews g h L)) : ∀ b o, b ≠ L → h.get? b = some o → h'.get? b = some o := fun b o h1 e => by
  cases q : g.get? b with
  | some u =>
    have := k b u q
    rw [e] at this; cases this
    exact F.keep b _ q
  | none => exact (N (b, o) (mem_allNews h1 q e)).1
/-- a new list; the frame's names are as they were -/
theorem inv_newL {h' : Heap} {D : Addr} {t' : Nat} {ys : List V} (I : Inv X pins σ H s) (k : ∀ b o, b ≠ X.env.locals → s.heap.get? b = some o → h'.get? b = some o) (ns : ∀ m, s.heap.Ns X.env.locals m → h'.Ns X.env.locals m) (hp : s.heap.get? D = none)
    (new : ObjOk X.prog X.w (upd H D (.lst ys)) h' D (.lst ys)) : Inv X pins σ (upd H D (.lst ys)) { s with heap := h', toks := t' } := by
  have nD : H D = none := I.hok.gone hp
  have nL : ∀ b u, H b = some u → b ≠ X.env.locals := fun b u e z => by rw [z, I.free] at e; cases e
  refine I.step (g' := s.gens) (d' := s.drawn) (ch := []) (fun _ z => nomatch z) (fun b o hb _ _ q _ => k b o hb q) (fun b o hb _ _ q _ => ⟨o.slots, k b o hb q⟩)
    (fun b o _ q z => by rw [upd_ne (fun w => by rw [w, hp] at q; cases q)]; exact z) (fun b o _ q => ?_) (fun b xs q => by rw [upd_ne (ne_of_none q nD)]; exact q) (fun b o u q => by rw [upd_ne (ne_of_none q nD)]; exact q)
    (fun b ps q => ⟨#[], by rw [upd_ne (ne_of_none q nD), q]; simp⟩) ns (fun b u q => ?_) I.bare
  · by_cases h1 : b = X.env.locals
    · obtain ⟨m, hn, _⟩ := I.loc
      obtain ⟨o', _, _, e', _⟩ := ns m hn
      exact ⟨o', by rw [h1]; exact e'⟩
    · exact ⟨o, k b o h1 q⟩
  · by_cases h1 : b = D
    · subst h1
      rw [upd_same] at q
      cases q
      exact new
    · rw [upd_ne h1] at q
      refine (I.hok b u q).stay (fun c v hc z => k c v ?_ z) (fun c z => by rw [upd_ne (ne_of_none z nD)]; exact z) fun c xs z => by rw [upd_ne (ne_of_none z nD)]; exact z
      rcases hc with z | z
      · rw [z]; exact nL b u q
      · exact nL _ _ z
/-- the lambda x: x[k], an object at f -/
structure LamAt (h : Heap) (f : Addr) (k : Int) : Prop where
  ex : ∃ (q x : Str) (params : Arguments) (scope : Scope) (cl : List (Str × Addr)) (pm ctv : Value) (p1 p2 pos : Pos) (j : Nat) (c' : Addr),
    h.get? f = some (PySem.W.kla_obj "<lambda>" q params (.Subscript (.Name x p1) (.Constant (.int k) j p2) pos) scope cl pm c' ctv) ∧ h.CodeRec (.ref c') q ∧
    scope.kind = .function ∧ scope.isCoroutine = false ∧ scope.isGenerator = false ∧ (∀ x ∈ scope.names, x.2 ≠ .cell) ∧ scope.names.lookup x = some .local ∧ (x == ("__debug__" : Str)) = false ∧
    ∀ t, bindArgs (PySem.W.kla_fn "<lambda>" q params (.Subscript (.Name x p1) (.Constant (.int k) j p2) pos) scope cl pm (.ref c') ctv) ⟨[.ref t], []⟩ = pure [(x, .ref t)]
/-- keys of the items: ints at k -/
def KeysAt (K : PySem.W.Frag) (H : Hp) (k : Int) (xs : List V) (kz : List Int) : Prop := kz.length = xs.length ∧ ∀ (i : Nat) (x : V) (n : Int), xs[i]? = some x → kz[i]? = some n → ∃ t ys, x = .ref t ∧ SqT K H t ys ∧ ys[k.toNat]? = some (.int n)
theorem run_sortK {l f : Addr} {k : Int} {xs : List V} {kz : List Int} {Q : VK} (I : Inv X pins σ H s) (hd : X.A.depth < recursionLimit) (hf : LamAt s.heap f k) (hk0 : 0 ≤ k) (hk1 : k < 2 ^ 62) (hs : SqL X.K H l xs) (hkz : KeysAt X.K H k xs kz)
    (q : ∀ (ys : List V) (p : Addr), (∃ ps : List (Int × V), ps.Perm (kz.zip xs) ∧ ys = ps.map Prod.snd ∧ ps.Pairwise (fun a b => a.1 ≤ b.1)) → H p = none → Q (.ref p) (upd H p (.lst ys))) :
    wpAny (model X.prog X.w) X.A (call (.builtin "sorted") [.ref l] [(Str.ofString "key", .ref f)]) (EP X pins σ Q) X.xe s := by
  obtain ⟨its, rv, hl, hz⟩ := I.list hs
  obtain ⟨m, F⟩ := I.fr
  have hlen : its.length = xs.length := rv.length.symm
  obtain ⟨e1, e2⟩ := refs_back rv fun x hm => by
    obtain ⟨i, hi⟩ := List.getElem?_of_mem hm
    have hil : i < kz.length := by rw [hkz.1]; exact (List.getElem?_eq_some_iff.mp hi).1
    obtain ⟨t, _, e, _⟩ := hkz.2 i x _ hi (List.getElem?_eq_getElem hil)
    exact ⟨t, e⟩
  have neL : ∀ b o, s.heap.get? b = some o → (∀ es ep, o.data ≠ .dict es ep) → b ≠ X.env.locals := fun b o e nd z => by
    obtain ⟨m, ⟨o', es, ep, ho', hd', _⟩, _⟩ := I.loc
    rw [z, ho'] at e; cases e
    exact nd _ _ hd'
  refine ksk_sortedSt (kz := kz) (b := false) F (news := allNews X.base s.heap X.env.locals) news_all hl.isList (by rw [hlen]; exact hkz.1) (by rw [hlen]; exact hz) (ksk_s1 _ _) (fun _ => ksk_l1 _ _) (fun a => ksk_t1 f a) (fun i v n hv hn h tk own F' N' => ?_) fun D h' tk out c F' N' l1 ko => ?_
  · have kp := keptN I.bk F' (fun p hp => N' p (List.mem_append_left _ hp))
    obtain ⟨x, hx, rx⟩ : ∃ x, xs[i]? = some x ∧ RelV x v := by
      have hil : i < xs.length := by rw [← hlen]; exact (List.getElem?_eq_some_iff.mp hv).1
      obtain ⟨u, hu, ru⟩ := rv.get (List.getElem?_eq_getElem hil)
      rw [hv] at hu; cases hu
      exact ⟨_, List.getElem?_eq_getElem hil, ru⟩
    obtain ⟨t, ys, rfl, ht, hy⟩ := hkz.2 i x n hx hn
    obtain rfl : v = Value.ref t := rx
    obtain ⟨its2, rv2, p2, _⟩ := I.tuple ht
    obtain ⟨u, hu, ru⟩ := rv2.get hy
    obtain ⟨tt, rfl⟩ := ru
    obtain ⟨o2, ho2, hc2, n2, hd2⟩ := (show IsTup s.heap t its2.toArray from p2)
    have tL : t ≠ X.env.locals := neL t o2 ho2 (fun es ep z => by rw [hd2] at z; cases z)
    obtain ⟨qn, x0, params, scope, cl, pm, ctv, p1, p2', pos, j, c', hfo, ⟨c1, oc, vs, tq, ec, hoc, hdc, hvc⟩, g1, g2, g3, g4, g5, g6, g7⟩ := hf.ex
    have fL : f ≠ X.env.locals := neL f _ hfo (fun es ep z => by cases z)
    have cL : c1 ≠ X.env.locals := neL c1 oc hoc (fun es ep z => by rw [hdc] at z; cases z)
    refine call_lam (s := { s with heap := h, toks := tk }) (A := X.A.in1.in1) (items := its2.toArray) (tk := tt) hd (I.mod.nolimit.keeps F'.keep) (kp _ _ fL hfo) ⟨c1, oc, vs, tq, ec, kp _ _ cL hoc, hdc, hvc⟩ g1 g2 g3 g4 g5 g6 (g7 t) ⟨o2, kp _ _ tL ho2, hc2, n2, hd2⟩ hk0 hk1 (by simpa using hu) fun h2 tk2 kp2 _ => ?_
    exact ⟨h2, tk2, tt, rfl, rfl, F'.keptAll kp2, fun p hp => ⟨kp2 _ _ (N' p hp).1, (N' p hp).2⟩⟩
  · have kp := keptN I.bk F' (fun p hp => N' p (List.mem_cons_of_mem _ hp))
    obtain ⟨hD, dL, dB⟩ := N' _ List.mem_cons_self
    obtain ⟨ps, hp1, hp2, hp3, _⟩ := ko
    have dN : s.heap.get? D = none := by
      cases z : s.heap.get? D with
      | none => rfl
      | some o => exact absurd (l1 _ (mem_allNews dL dB z)) (Nat.lt_irrefl _)
    have hsub : ∀ p ∈ ps, p.2 ∈ its := fun p hp => (List.of_mem_zip (hp1.mem_iff.mp hp)).2
    have h3 : ∀ u ∈ out.toList, ∃ a, u = Value.ref a := fun u hu => by
      rw [hp2] at hu
      obtain ⟨p, hp, rfl⟩ := List.mem_map.mp hu
      exact e2 _ (hsub p hp)
    have hz' : kz.zip xs = (kz.zip its).map fun p => (p.1, backV p.2) := by
      rw [e1, List.zip_map_right]
      rfl
    have hol : out.toList.length = xs.length := by
      rw [hp2, List.length_map, hp1.length_eq, List.length_zip, hkz.1, hlen, Nat.min_self]
    refine ⟨.ref D, upd H D (.lst (out.toList.map backV)), inv_newL I kp (fun m' hm => ?_) dN ⟨by rw [List.length_map, hol]; exact hz, out.toList, c, vals_back h3, by rw [Array.toArray_toList]; exact hD⟩, rfl, q _ D ⟨ps.map fun p => (p.1, backV p.2), ?_, ?_, ?_⟩ (I.hok.gone dN)⟩
    · have this : m' = m := SlX.ns_only hm F.ns
      rw [this]
      exact F'.ns
    · rw [hz']
      exact hp1.map _
    · rw [hp2, List.map_map, List.map_map]
      rfl
    · rw [List.pairwise_map]
      exact hp3.imp fun {a b} z => by simpa using z
end
end DL
namespace DL
open PySem PySem.Spec PyProof.Rows L2
theorem optAll_get {α β : Type} {f : β → Option α} : ∀ {l : List β} {r : List α}, optAll (l.map f) = some r → r.length = l.length ∧ ∀ (i : Nat) (x : β) (a : α), l[i]? = some x → r[i]? = some a → f x = some a
  | [], r, h => by
    obtain rfl : ([] : List α) = r := Option.some.inj h
    exact ⟨rfl, fun i x a h => by simp at h⟩
  | x :: l, r, h => by
    rw [List.map_cons] at h
    cases e : f x with
    | none => rw [e] at h; cases h
    | some a =>
      rw [e] at h
      have h' : (optAll (l.map f)).map (a :: ·) = some r := h
      cases e2 : optAll (l.map f) with
      | none => rw [e2] at h'; cases h'
      | some r' =>
        rw [e2] at h'
        obtain rfl : a :: r' = r := Option.some.inj h'
        obtain ⟨h1, h2⟩ := optAll_get e2
        refine ⟨by simp [h1], fun i y b hy hb => ?_⟩
        cases i with
        | zero => simp at hy hb; subst hy hb; exact e
        | succ i => exact h2 i y b (by simpa using hy) (by simpa using hb)
theorem perm_lift {α β : Type} (f : α → β) : ∀ {l m : List β}, l.Perm m → ∀ n : List α, m = n.map f → ∃ n' : List α, n'.Perm n ∧ l = n'.map f := by
  intro l m h
  induction h with
  | nil =>
    intro n e
    have : n = [] := by simpa using e.symm
    exact ⟨[], by rw [this], rfl⟩
  | @cons x l m _ ih =>
    intro n e
    cases n with
    | nil => simp at e
    | cons a n =>
      rw [List.map_cons] at e
      obtain ⟨e1, e2⟩ := List.cons.inj e
      obtain ⟨n', p, q⟩ := ih n e2
      exact ⟨a :: n', p.cons a, by rw [List.map_cons, ← q, e1]⟩
  | swap x y l =>
    intro n e
    cases n with
    | nil => simp at e
    | cons a n =>
      cases n with
      | nil => simp at e
      | cons b n =>
        simp only [List.map_cons, List.cons.injEq] at e
        obtain ⟨e1, e2, e3⟩ := e
        exact ⟨b :: a :: n, List.Perm.swap a b n, by simp [e1, e2, e3]⟩
  | trans _ _ ih1 ih2 =>
    intro n e
    obtain ⟨n1, p1, q1⟩ := ih2 n e
    obtain ⟨n2, p2, q2⟩ := ih1 n1 q1
    exact ⟨n2, p2.trans p1, q2⟩
theorem sortZ_uniq {l m : List (Int × D)} (h : l.Perm m) (hp : l.Pairwise fun a b => a.1 ≤ b.1) (hn : (m.map Prod.fst).Nodup) : l = sortZ m := by
  have hq : (sortZ m).Perm m := List.mergeSort_perm _ _
  have hs : (sortZ m).Pairwise fun a b => a.1 ≤ b.1 := by
    refine (List.pairwise_mergeSort (le := fun a b : Int × D => decide (a.1 ≤ b.1)) (fun a b c h1 h2 => ?_) (fun a b => ?_) m).imp fun {a b} z => of_decide_eq_true z
    · have := of_decide_eq_true h1
      have := of_decide_eq_true h2
      exact decide_eq_true (by omega)
    · rcases Int.le_total a.1 b.1 with z | z
      · simp [z]
      · simp [z]
  refine List.Perm.eq_of_pairwise (le := fun a b : Int × D => a.1 ≤ b.1) (fun a b ha hb h1 h2 => ?_) hp hs (h.trans hq.symm)
  have ha' := h.mem_iff.mp ha
  have hb' := hq.mem_iff.mp hb
  obtain ⟨i, hi⟩ := List.getElem?_of_mem ha'
  obtain ⟨j, hj⟩ := List.getElem?_of_mem hb'
  have e : a.1 = b.1 := by omega
  have hij : i = j := nodup_ix hn (x := a.1) (by rw [List.getElem?_map, hi]; rfl) (by rw [List.getElem?_map, hj, e]; rfl)
  subst hij
  rw [hi] at hj
  exact Option.some.inj hj
where
  nodup_ix {l : List Int} {i j : Nat} {x : Int} (hN : l.Nodup) (a : l[i]? = some x) (b : l[j]? = some x) : i = j := by
    obtain ⟨h1, e1⟩ := List.getElem?_eq_some_iff.mp a
    obtain ⟨h2, e2⟩ := List.getElem?_eq_some_iff.mp b
    exact (List.getElem_inj hN).mp (e1.trans e2.symm)
section
variable {K : PySem.W.Frag} {Tb : List (Addr × Str)} {ad ad' : List Addr} {H H' : Hp} {st : Store}
/-- items and their keys, in whatever order -/
theorem RVs.zips : ∀ {xs : List V} {ds : List D} (kz : List Int), RVs K ad H xs ds → kz.length = xs.length → ∃ zs : List (Int × V × D), zs.map (fun z => (z.1, z.2.1)) = kz.zip xs ∧ zs.map (fun z => (z.1, z.2.2)) = kz.zip ds ∧ ∀ z ∈ zs, RV K ad H z.2.1 z.2.2
  | _, _, [], .nil, _ => ⟨[], rfl, rfl, fun _ z => nomatch z⟩
  | _, _, [], .cons _ _, h => by simp at h
  | _, _, _ :: _, .nil, h => by simp at h
  | _, _, k :: kz, .cons (v := v) (d := d) r t, h => by
    obtain ⟨zs, h1, h2, h3⟩ := RVs.zips kz t (by simpa using h)
    refine ⟨(k, v, d) :: zs, by simp [h1], by simp [h2], fun z hz => ?_⟩
    rcases List.mem_cons.mp hz with rfl | hz
    · exact r
    · exact h3 z hz
theorem RVs.of_zip : ∀ {zs : List (Int × V × D)}, (∀ z ∈ zs, RV K ad H z.2.1 z.2.2) → RVs K ad H (zs.map fun z => z.2.1) (zs.map fun z => z.2.2)
  | [], _ => .nil
  | z :: zs, h => .cons (h z List.mem_cons_self) (RVs.of_zip fun y hy => h y (List.mem_cons_of_mem _ hy))
theorem RVs.sorted {xs : List V} {ds : List D} {kz : List Int} {ps : List (Int × V)} (r : RVs K ad H xs ds) (hl : kz.length = xs.length) (hn : kz.Nodup) (hp : ps.Perm (kz.zip xs)) (hs : ps.Pairwise fun a b => a.1 ≤ b.1) : RVs K ad H (ps.map Prod.snd) ((sortZ (kz.zip ds)).map Prod.snd) := by
  obtain ⟨zs, h1, h2, h3⟩ := RVs.zips kz r hl
  obtain ⟨zs', p, q⟩ := perm_lift (fun z : Int × V × D => (z.1, z.2.1)) hp zs h1.symm
  have hu : zs'.map (fun z => (z.1, z.2.2)) = sortZ (kz.zip ds) := by
    refine sortZ_uniq (by rw [← h2]; exact p.map _) ?_ ?_
    · rw [q] at hs
      rw [List.pairwise_map] at hs ⊢
      exact hs
    · rw [List.map_fst_zip (by rw [hl, r.length]; exact Nat.le_refl _)]
      exact hn
  rw [← hu, q, List.map_map, List.map_map]
  exact RVs.of_zip fun z hz => h3 z (p.mem_iff.mp hz)
/-- the keys, as the layer tells them -/
theorem keys_at {k : Int} {xs : List V} {ds : List D} {kz : List Int} (r : RVs K ad H xs ds) (h : keysD k ds = some kz) : KeysAt K H k xs kz := by
  obtain ⟨h1, h2⟩ := optAll_get h
  refine ⟨by rw [h1, r.length], fun i x n hx hn => ?_⟩
  have hil : i < ds.length := by rw [← h1]; exact (List.getElem?_eq_some_iff.mp hn).1
  obtain ⟨v, g1, g2⟩ := r.get (List.getElem?_eq_getElem hil)
  rw [hx] at g1; cases g1
  have hk := h2 i _ n (List.getElem?_eq_getElem hil) hn
  revert g2 hk
  generalize ds[i] = d
  intro g2 hk
  cases g2 with
  | @tup t ys es hq rs =>
    unfold keyD at hk
    simp only at hk
    cases e : es[k.toNat]? with
    | none => rw [e] at hk; cases hk
    | some y =>
      rw [e] at hk
      cases y with
      | int m =>
        have : m = n := Option.some.inj hk
        subst this
        obtain ⟨w, g3, g4⟩ := rs.get e
        cases g4
        exact ⟨t, ys, rfl, hq, g3⟩
      | _ => cases hk
  | _ => cases hk
end
end DL
namespace DL
open PySem PySem.Spec PyProof.Rows L2
section
variable {K : PySem.W.Frag} {Tb : List (Addr × Str)} {ad ad' : List Addr} {H H' H2 : Hp} {st : Store}
theorem ext_lam (eN : LamX.ExtN H H2) : Ext K ad H ad H2 := by
  refine ⟨⟨[], by simp⟩, fun a xs h => ?_, fun a xs h => ?_, fun a o h nt _ => eN a o h nt, fun a k => ?_, fun a o u h => ?_, fun a us h => eN _ _ h (fun _ z => nomatch z)⟩
  · rcases h with (h | ⟨o, h⟩) | h
    · exact .inl (.inl (eN _ _ h (fun _ z => nomatch z)))
    · exact .inl (.inr ⟨o, eN _ _ h (fun _ z => nomatch z)⟩)
    · exact .inr h
  · rcases h with ⟨o, h⟩ | h
    · exact .inl ⟨o, eN _ _ h (fun _ z => nomatch z)⟩
    · exact .inr h
  · cases q : H a with
    | none => rw [q] at k; exact absurd rfl k
    | some o =>
      rw [eN _ _ q (fun ps z => k (by rw [q, z]; rfl))]
  · exact eN _ _ h (fun _ z => nomatch z)
theorem RS.lam (S : RS K Tb ad H st) (eN : LamX.ExtN H H2) (T2 : LamX.Tabs Tb H2) : RS K Tb ad H2 st := by
  refine ⟨S.len, S.nd, fun n c a h1 h2 => ?_, T2⟩
  have hc := S.cell n c a h1 h2
  cases c with
  | lst ds =>
    obtain ⟨xs, g1, g2⟩ := hc
    exact ⟨xs, eN _ _ g1 (fun _ z => nomatch z), g2.mono (ext_lam eN)⟩
  | dct lk kvs =>
    obtain ⟨us, g1, g2⟩ := hc
    refine ⟨us, ?_, g2.mono (ext_lam eN)⟩
    cases lk with
    | false => exact eN _ _ g1 (fun _ z => nomatch z)
    | true => obtain ⟨o, g1⟩ := g1; exact ⟨o, eN _ _ g1 (fun _ z => nomatch z)⟩
  | oth u => exact OthOk.mono (ext_lam eN) (fun o z => eN _ _ z (fun ps w => by obtain ⟨_, g1, g2, _⟩ := OthOk.at_ hc; rw [g1] at z; cases z; exact g2 ps w)) hc
theorem sortKD_ok {k : Int} {ds out : List D} {s s' : Store} (h : sortKD k ds s = .ok out s') : ∃ kz, keysD k ds = some kz ∧ kz.Nodup ∧ out = (sortZ (kz.zip ds)).map Prod.snd ∧ s' = s := by
  unfold sortKD at h
  cases e : keysD k ds with
  | none => rw [e] at h; cases h
  | some kz =>
    rw [e] at h
    simp only at h
    by_cases c : kz.Nodup
    · rw [if_pos c] at h
      unfold ret at h
      injection h with h1 h2
      exact ⟨kz, rfl, c, h1.symm, h2.symm⟩
    · rw [if_neg c] at h; cases h
theorem PostL.ok {Q : VK} {r : Res (List D)} (h : PostL K Tb ad H Q r) : ∃ ds s, r = .ok ds s := by
  cases r with
  | ok ds s => exact ⟨ds, s, rfl⟩
  | stuck => exact h.elim
  | exc _ _ _ => exact h.elim
end
/-! ### a list that is read, new or not -/
def PostR (K : PySem.W.Frag) (Tb : List (Addr × Str)) (ad : List Addr) (H : Hp) (Q : VK) : Res (List D) → Prop
  | .ok ds st' => ∀ ad' H' l xs, Ext K ad H ad' H' → SqL K H' l xs → RVs K ad' H' xs ds → RS K Tb ad' H' st' → Q (.ref l) H'
  | _ => False
def TR (K : PySem.W.Frag) (Tb : List (Addr × Str)) (g : GA) : TE := fun σ H Q => ∃ ad ρ st, RE K ad H σ ρ ∧ RS K Tb ad H st ∧ PostR K Tb ad H Q (g ρ st)
section
variable {X : Cx} {Tb : List (Addr × Str)} {a : Expr} {gs : GA} {g : GE} {pos p : Pos}
theorem dr_new (h : PE X a (TL X.K Tb gs)) : PE X a (TR X.K Tb gs) := PE.of h fun σ H Q ⟨ad, ρ, st, R, S, w⟩ => by
  refine ⟨ad, ρ, st, R, S, ?_⟩
  cases e : gs ρ st with
  | ok ds s => rw [e] at w; exact fun ad' H' q xs x _ _ hl r S' => w ad' H' q xs x (SqL.of hl) r S'
  | stuck => rw [e] at w; exact w.elim
  | exc _ _ _ => rw [e] at w; exact w.elim
theorem dr_val (h : PE X a (TD X.K Tb g)) : PE X a (TR X.K Tb (gSeen g)) := PE.of h fun σ H Q ⟨ad, ρ, st, R, S, w⟩ => by
  have w : PostR X.K Tb ad H Q (andThen (g ρ) vSeen st) := w
  refine ⟨ad, ρ, st, R, S, ?_⟩
  unfold andThen at w
  cases e : g ρ st with
  | ok d s =>
    rw [e] at w
    intro ad1 H1 x x1 r1 S1
    cases r1 with
    | @rf n q h1 _ =>
      unfold vSeen at w
      simp only at w
      cases e2 : cellItems s n with
      | none => simp only [e2] at w; exact w.elim
      | some ds =>
        simp only [e2] at w
        obtain ⟨xs, g1, g2⟩ := S1.items e2 h1
        exact w ad1 H1 q xs x1 g1 g2 S1
    | cl h1 rs => exact w ad1 H1 _ _ x1 h1.sql rs S1
    | _ => exact w.elim
  | stuck => rw [e] at w; exact w.elim
  | exc _ _ _ => rw [e] at w; exact w.elim
theorem dl_sortK {c P : Addr} {params : Arguments} {kx x : Str} {p1 p2 p3 lpos kpos : Pos} {k : Int} {j : Nat} {scope : Scope} (hx : x = "sorted") (hm : X.mg x = none) (TB : LamX.TabB X.base X.mg c P) (hcode : X.env.code = .ref c)
    (hmT : (P, X.env.qual ++ "<lambda>") ∈ Tb) (hu : ∀ p ∈ Tb, p.1 = P → p.2 = X.env.qual ++ "<lambda>") (hr : X.A.depth < recursionLimit) (ha : PE X a (TR X.K Tb gs))
    (hk : (decide (0 ≤ k) && decide (k < 2 ^ 62)) = true := by decide) (hkind : scope.kind = .function := by rfl) (hco : scope.isCoroutine = false := by rfl) (hgen : scope.isGenerator = false := by rfl) (hcell : ∀ x ∈ scope.names, x.2 = .local := by decide +kernel) (hkx : scope.names.lookup kx = some .local := by rfl) (hkd : (kx == ("__debug__" : Str)) = false := by decide)
    (hdef : defaultsOf params X.env = ([], []) := by rfl)
    (hbind : ∀ (q : Str) (cl : List (Str × Addr)) (pm cv ctv : Value) (t : Addr), bindArgs (PySem.W.kla_fn "<lambda>" q params (.Subscript (.Name kx p1) (.Constant (.int k) j p2) p3) scope cl pm cv ctv) ⟨[.ref t], []⟩ = pure [(kx, .ref t)] := by intros; rfl)
    (hg : Gl X x := by rfl) (he : starEach [a] X.env = (false, eval a X.env) :: starEach [] X.env := by rfl) (hdb : (x == ("__debug__" : Str)) = false := by decide) :
    PE X (.Call (.Name x p) [a] [⟨some (Str.ofString "key"), .Lambda params (.Subscript (.Name kx p1) (.Constant (.int k) j p2) p3) scope lpos, kpos⟩] pos) (TL X.K Tb (gSortK k gs)) := by
  subst hx
  simp only [Bool.and_eq_true, decide_eq_true_eq] at hk
  refine ⟨fun pins s σ H Q I ⟨ad, ρ, st, R, S, w⟩ => ?_⟩
  obtain ⟨ds, s1, e1, w1⟩ := w.bind
  obtain ⟨out, s2, e2⟩ := w1.ok
  obtain ⟨kz, hkz, hnd, rfl, rfl⟩ := sortKD_ok e2
  rw [e2] at w1
  have harg : PA X [a] (tCons (TR X.K Tb gs) tNil) := pa_cons ha pa_nil he
  refine wpAny_Call_Name_kw (ld_blt I hg hm (u := .builtin "sorted") (by decide +kernel) ?_ (by decide) hdb)
  refine PyProof.Rows.callWith_kw (thn (harg.run pos pins s σ H (fun vs H1 => ∃ ad1 l xs, vs = [.ref l] ∧ Ext X.K ad H ad1 H1 ∧ SqL X.K H1 l xs ∧ RVs X.K ad1 H1 xs ds ∧ RS X.K Tb ad1 H1 s2) I ?_) fun us s3 ⟨vs, H1, I1, r1, q1⟩ => ?_) (by rw [he]; rfl) (by rw [he]; rfl) (by rfl) (by rfl)
  · refine ⟨ad, ρ, st, R, S, ?_⟩
    rw [e1]
    exact fun ad1 H1 l xs x1 h1 rv S1 => ⟨ad1, l, xs, rfl, x1, h1, rv, S1⟩
  · obtain ⟨ad1, l, xs, rfl, x1, h1, rv, S1⟩ := q1
    obtain rfl := Vals.ref1 r1
    show wpAny _ _ (evalAll ((do let v ← eval _ X.env; standAt pos; pure v) :: [])) _ _ _
    refine wpAny_evalAll_cons (wpAny_bind (LamX.lam_make2 I1 TB hcode hmT hu S1.tabs hdef (fun y hy z => by rw [hcell y hy] at z; cases z) fun f c' pm ctv H2 s4 I2 eN T2 hf hfn hfr hco' => wpAny_bind (wpAny_standAt (wpAny_pure (wpAny_evalAll_nil ?_)))))
    obtain ⟨⟨oc, vs, t, hoc, hdc, hvc⟩, _, _⟩ := I2.hok c' _ hco'
    have x2 : Ext X.K ad1 H1 ad1 H2 := ext_lam eN
    have S2 := S1.lam eN T2
    have rv2 := rv.mono x2
    have h2 : SqL X.K H2 l xs := by
      rcases h1 with (h1 | ⟨o, h1⟩) | h1
      · exact .inl (.inl (eN _ _ h1 (fun _ z => nomatch z)))
      · exact .inl (.inr ⟨o, eN _ _ h1 (fun _ z => nomatch z)⟩)
      · exact .inr h1
    refine run_sortK I2 hr ⟨_, kx, params, scope, _, pm, ctv, p1, p2, p3, j, c', hf, ⟨c', oc, vs, t, rfl, hoc, hdc, hvc⟩, hkind, hco, hgen, (fun y hy z => by rw [hcell y hy] at z; cases z), hkx, hkd, fun t => hbind _ _ _ _ _ t⟩ hk.1 hk.2 h2 (keys_at rv2 hkz) fun ys q ⟨ps, hp1, hp2, hp3⟩ hq => ?_
    subst hp2
    have x3 : Ext X.K ad1 H2 ad1 (upd H2 q (.lst (ps.map Prod.snd))) := ext_new hq
    have rs := rv2.sorted (by rw [(optAll_get hkz).1, rv.length]) hnd hp1 hp3
    exact w1 ad1 _ q _ ((x1.trans x2).trans x3) ((x1.trans x2).none_of S2 hq) (S2.not_mem hq) upd_same (rs.mono x3) (S2.upd_new hq)
end
end DL
namespace DL
open PySem PySem.Spec PyProof.Rows L2
/-! ### sorted of tuples of ints, none empty -/
def IsIT (h : Heap) (v : Value) (ns : List Int) : Prop := ∃ (a : Addr) (o : Obj) (its : List Value) (n : Nat), v = .ref a ∧ h.get? a = some o ∧ o.cls = .type "tuple" ∧ o.data = .seq its.toArray n ∧ IntsAre its ns ∧ ns ≠ []
theorem IsIT.keeps {h h' : Heap} {v : Value} {ns : List Int} (x : IsIT h v ns) (k : ∀ b o, v = .ref b → h.get? b = some o → h'.get? b = some o) : IsIT h' v ns := by
  obtain ⟨a, o, its, n, e, g, r⟩ := x
  exact ⟨a, o, its, n, e, k _ _ e g, r⟩
theorem IsIT.inj {h : Heap} {v : Value} {ns ms : List Int} (x : IsIT h v ns) (y : IsIT h v ms) : ns = ms := by
  obtain ⟨a, o, its, n, rfl, g, _, d, i, _⟩ := x
  obtain ⟨a', o', its', n', e, g', _, d', i', _⟩ := y
  cases e
  rw [g] at g'; cases g'
  rw [d] at d'
  injection d' with d1 d2
  have : its = its' := by simpa using d1
  subst this
  rw [← i.nums, ← i'.nums]
section
variable {prog : Program} {w : World} {A : Around} {E : Value → Shared → Prop} {s : Shared}
theorem kat_ints {fin : Bool} {Q : Bool → Shared → Prop} : ∀ {vs us : List Value} {ns ms : List Int} (i : Nat), IntsAre vs ns → IntsAre us ms → (fin = decide (ns.length < ms.length)) → Q (HT.lexLt ns ms) s → PySem.W.KatLex prog w A true fin Q (vs.zip us) i s
  | _, _, _, _, i, .nil, .nil, hf, h => by
    refine PySem.W.kat_nil ?_
    rw [HT.lexLt_nil_nil] at h
    rw [hf]; exact h
  | _, _, _, _, i, .nil, .cons (ns := ms) c u hw, hf, h => by
    rw [List.zip_nil_left]
    refine PySem.W.kat_nil ?_
    rw [HT.lexLt_nil_cons] at h
    rw [hf]
    simpa using h
  | _, _, _, _, i, .cons a t hv, .nil, hf, h => by
    rw [List.zip_nil_right]
    refine PySem.W.kat_nil ?_
    rw [HT.lexLt_cons_nil] at h
    rw [hf]
    simpa using h
  | _, _, _, _, i, .cons a t hv, .cons c u hw, hf, h => by
    rw [List.zip_cons_cons]
    rw [HT.lexLt_cons] at h
    refine PySem.W.kat_cons (SeqAt.EqAt.int_int a t c u prog w _ _ ?_)
    refine PySem.W.kat_go (fun e1 => ?_) (fun e1 => ?_)
    · have ex : a = c := by simpa using e1
      rw [if_pos ex] at h
      refine PySem.W.kat_yes (kat_ints (i + 1) hv hw ?_ h)
      rw [hf]
      simp
    · have ex : ¬ a = c := by simpa using e1
      rw [if_neg ex] at h
      refine PySem.W.kat_no ?_
      cases i with
      | zero => exact PyProof.Rows.oneLt_int h
      | succ i => exact PySem.W.kat_one _ _ (PyProof.Rows.lt_int h)
theorem it_cmp {vs : List Value} {k : Value → List Int} (hp : ∀ v ∈ vs, IsIT s.heap v (k v)) : SrtO.Cmp prog w A s (tuples' true) (fun p => p.1 ∈ vs) (SrtO.lt2 fun v u => HT.lexLt (k v) (k u)) := by
  intro p q hm hm'
  obtain ⟨a, o, its, n, e, ho, hc, hd, hi, _⟩ := hp _ hm
  obtain ⟨a', o', its', n', e', ho', hc', hd', hi', _⟩ := hp _ hm'
  show wpAny (model prog w) A (keyLt' (tuples' true) p.1 q.1) (fun r s' => s' = s ∧ r = HT.lexLt (k p.1) (k q.1)) (fun _ _ => False) s
  generalize k p.1 = ns at hi ⊢
  generalize k q.1 = ms at hi' ⊢
  rw [e, e']
  refine PySem.W.kat_lt ho hd ho' hd' ?_
  exact kat_ints (fin := decide (its.toArray.size < its'.toArray.size)) (Q := fun r s' => s' = s ∧ r = HT.lexLt ns ms) 0 hi hi' (by rw [List.size_toArray, List.size_toArray, hi.length, hi'.length]) ⟨rfl, rfl⟩
theorem firsts_it {h : Heap} {k : Value → List Int} : ∀ {vs : List Value}, (∀ v ∈ vs, IsIT h v (k v)) → ∃ fs : List Value, PySem.W.KatTups h vs fs ∧ fs.length = vs.length ∧ ∀ f ∈ fs, ∃ x t, f = Value.int x t
  | [], _ => ⟨[], PySem.W.KatTups.nil, rfl, fun _ hm => by simp at hm⟩
  | v :: vs, hp => by
    obtain ⟨fs, h1, h2, h3⟩ := firsts_it (vs := vs) fun v' hm => hp v' (List.mem_cons_of_mem _ hm)
    obtain ⟨a, o, its, n, e, ho, hc, hd, hi, hne⟩ := hp v List.mem_cons_self
    generalize k v = ns at hi hne
    subst e
    cases hi with
    | nil => exact absurd rfl hne
    | cons x t hr =>
      refine ⟨.int x t :: fs, PySem.W.KatTups.cons ho hc hd (by simp) h1, by rw [List.length_cons, List.length_cons, h2], fun f hm => ?_⟩
      rcases List.mem_cons.mp hm with rfl | hm
      · exact ⟨x, t, rfl⟩
      · exact h3 f hm
theorem it_sortable {a : Addr} {vs : List Value} {k : Value → List Int} (h0 : 0 < vs.length) (hp : ∀ v ∈ vs, IsIT s.heap v (k v)) (ha : ∀ o, s.heap.get? a = some o → o.cls ≠ .type "tuple") : SrtO.SortableO prog w A s a vs fun v u => HT.lexLt (k v) (k u) := by
  intro h' keep
  have hp' : ∀ v ∈ vs, IsIT h' v (k v) := fun v hm => by
    obtain ⟨b, o, its, n, e, ho, hc, r⟩ := hp v hm
    exact ⟨b, o, its, n, e, keep b o (fun z => ha o (z ▸ ho) hc) ho, hc, r⟩
  obtain ⟨fs, h1, h2, h3⟩ := firsts_it hp'
  refine ⟨tuples' true, fun Q E hq => ?_, it_cmp (s := { s with heap := h' }) hp'⟩
  refine PySem.W.kat_kind (s := { s with heap := h' }) (T := .type "int") h1 (by omega) (fun f hm => ?_) (by rfl) ?_
  · obtain ⟨x, t, rfl⟩ := h3 f hm
    exact PySem.W.Looks.now
  · have e : (Value.type "int" != Value.type "tuple") = true := by first | decide +kernel | rfl | decide
    rw [e]
    exact hq
end
/-- the items are tuples of these ints -/
def TupsOf (K : PySem.W.Frag) (H : Hp) (xs : List V) (nss : List (List Int)) : Prop := nss.length = xs.length ∧ ∀ (i : Nat) (x : V) (ns : List Int), xs[i]? = some x → nss[i]? = some ns → ∃ t, x = .ref t ∧ SqT K H t (ns.map V.int) ∧ ns ≠ []
def rSortTup (K : PySem.W.Frag) : List V → Hp → VK → Prop := fun vs H Q => ∃ (a : Addr) (xs : List V) (nss : List (List Int)), vs = [V.ref a] ∧ SqL K H a xs ∧ TupsOf K H xs nss ∧
  ∀ (ys : List V) (nss' : List (List Int)) (p : Addr), TupsOf K H ys nss' → nss'.Perm nss → nss'.Pairwise (fun x y => HT.lexLt y x = false) → H p = none → Q (.ref p) (upd H p (.lst ys))
open Classical in
theorem cr_sortedTup {X : Cx} : CallR X (.builtin "sorted") (rSortTup X.K) := by
  intro pins s σ H vs us Q I r h
  obtain ⟨a, xs, nss, rfl, hs, hx, q⟩ := h
  obtain ⟨its, rv, hl, hz⟩ := I.list hs
  rw [Vals.ref1 r]
  have hlen : its.length = xs.length := rv.length.symm
  have hat : ∀ (i : Nat) (v : Value), its[i]? = some v → ∃ ns t, v = .ref t ∧ xs[i]? = some (.ref t) ∧ nss[i]? = some ns ∧ SqT X.K H t (ns.map V.int) ∧ ns ≠ [] ∧ IsIT s.heap v ns := fun i v hv => by
    have hi1 : i < xs.length := by rw [← hlen]; exact (List.getElem?_eq_some_iff.mp hv).1
    have hi2 : i < nss.length := by rw [hx.1]; exact hi1
    obtain ⟨u, hu, ru⟩ := rv.get (List.getElem?_eq_getElem hi1)
    rw [hv] at hu; cases hu
    obtain ⟨t, e, ht, hne⟩ := hx.2 i _ _ (List.getElem?_eq_getElem hi1) (List.getElem?_eq_getElem hi2)
    rw [e] at ru
    obtain rfl : v = Value.ref t := ru
    obtain ⟨its2, rv2, ⟨o2, ho2, hc2, n2, hd2⟩, _⟩ := I.tuple ht
    exact ⟨_, t, rfl, by rw [List.getElem?_eq_getElem hi1, e], List.getElem?_eq_getElem hi2, ht, hne, t, o2, its2, n2, rfl, ho2, hc2, hd2, rv2.ints, hne⟩
  let k : Value → List Int := fun v => Classical.epsilon fun ns => IsIT s.heap v ns
  have hk : ∀ v ∈ its, IsIT s.heap v (k v) := fun v hm => by
    obtain ⟨i, hi⟩ := List.getElem?_of_mem hm
    obtain ⟨ns, t, _, _, _, _, _, z⟩ := hat i v hi
    exact Classical.epsilon_spec (p := fun ns => IsIT s.heap v ns) ⟨ns, z⟩
  have hmap : its.map k = nss := by
    refine List.ext_getElem? fun i => ?_
    rw [List.getElem?_map]
    cases e : its[i]? with
    | none =>
      have h1 : its.length ≤ i := List.getElem?_eq_none_iff.mp e
      rw [List.getElem?_eq_none (by rw [hx.1, ← hlen]; exact h1)]
      rfl
    | some v =>
      obtain ⟨ns, t, _, _, e2, _, _, z⟩ := hat i v e
      rw [e2]
      exact congrArg some ((hk v (List.mem_of_getElem? e)).inj z)
  refine SrtO.sorted_ord (NtL.swo_lexL k) hl.isList (by rw [hlen]; exact hz) (fun h2 h₁ a' ha kk => it_sortable (s := { s with heap := h₁ }) (by omega) (fun v hm => (hk v hm).keeps fun b o _ e => (kk b o e).2) fun o e => ?_) fun out h1 h2 => ?_
  · have e' : some o = some (seqObj "list" its.toArray 0) := e.symm.trans ha
    cases e'
    intro c
    exact absurd (Value.type.inj c) (by decide)
  · obtain ⟨ep, he'⟩ := PyProof.Rows.sortedAll_at s.heap its out.toArray
    have hmem : ∀ v ∈ out, v ∈ its := fun v hv => h2.perm.mem_iff.mp hv
    have h3 : ∀ u ∈ out, ∃ a, u = Value.ref a := fun u hu => by
      obtain ⟨i, hi⟩ := List.getElem?_of_mem (hmem u hu)
      obtain ⟨_, t, e, _⟩ := hat i u hi
      exact ⟨t, e⟩
    have hlo : (out.map backV).length ≤ sizeLine := by
      rw [List.length_map, h2.perm.length_eq, hlen]
      exact hz
    refine ⟨.ref _, upd H (s.heap.objs.size + 1) (.lst (out.map backV)), I.laid (t' := s.toks) (fun _ _ => PyProof.Rows.sortedAll_old) (Nat.le_succ _) ⟨hlo, out, ep, vals_back h3, he'⟩, rfl, q _ (out.map k) _ ⟨by rw [List.length_map, List.length_map], fun i x ns hx1 hn1 => ?_⟩ ?_ ?_ (I.hok.fresh (Nat.le_succ _))⟩
    · rw [List.getElem?_map] at hx1 hn1
      cases e : out[i]? with
      | none => rw [e] at hx1; cases hx1
      | some v =>
        rw [e] at hx1 hn1
        obtain ⟨j, hj⟩ := List.getElem?_of_mem (hmem v (List.mem_of_getElem? e))
        obtain ⟨ms, t, e1, _, _, ht, hne, z⟩ := hat j v hj
        have e2 : k v = ms := (hk v (List.mem_of_getElem? hj)).inj z
        have e3 : k v = ns := Option.some.inj hn1
        have e4 : backV v = x := Option.some.inj hx1
        rw [e2] at e3
        subst e3
        rw [e1] at e4
        exact ⟨t, e4.symm, ht, hne⟩
    · rw [← hmap]
      exact h2.perm.map k
    · rw [List.pairwise_map]
      exact h1
/-! ### as readings -/
theorem lexLe_eq : ∀ x y : List Int, lexLe x y = !HT.lexLt y x
  | [], [] => by rw [HT.lexLt_nil_nil]; rfl
  | [], _ :: _ => by rw [HT.lexLt_cons_nil]; rfl
  | _ :: _, [] => by rw [HT.lexLt_nil_cons]; rfl
  | x :: xs, y :: ys => by
    rw [HT.lexLt_cons]
    unfold lexLe
    by_cases e : x = y
    · rw [if_pos e, if_pos e.symm]
      exact lexLe_eq xs ys
    · rw [if_neg e, if_neg (Ne.symm e)]
      by_cases z : x < y
      · rw [decide_eq_true z, decide_eq_false (by omega)]; rfl
      · rw [decide_eq_false z, decide_eq_true (by omega)]; rfl
theorem lexLe_anti : ∀ x y : List Int, lexLe x y = true → lexLe y x = true → x = y
  | [], [], _, _ => rfl
  | [], _ :: _, _, h => by cases h
  | _ :: _, [], h, _ => by cases h
  | x :: xs, y :: ys, h1, h2 => by
    unfold lexLe at h1 h2
    by_cases e : x = y
    · rw [if_pos e] at h1
      rw [if_pos e.symm] at h2
      rw [e, lexLe_anti xs ys h1 h2]
    · rw [if_neg e] at h1
      rw [if_neg (Ne.symm e)] at h2
      have := of_decide_eq_true h1
      have := of_decide_eq_true h2
      omega
theorem sortT_uniq {l m : List (List Int)} (h : l.Perm m) (hp : l.Pairwise fun x y => HT.lexLt y x = false) : l = sortT m := by
  have hs : (sortT m).Pairwise fun x y => lexLe x y = true := by
    refine List.pairwise_mergeSort (le := lexLe) (fun a b c h1 h2 => ?_) (fun a b => ?_) m
    · rw [lexLe_eq] at h1 h2 ⊢
      have := NtL.lex_tr a b c (by simpa using h1) (by simpa using h2)
      rw [this]; rfl
    · rw [lexLe_eq, lexLe_eq]
      cases e : HT.lexLt b a with
      | false => rfl
      | true => rw [NtL.lex_asym _ _ e]; rfl
  refine List.Perm.eq_of_pairwise (le := fun x y => lexLe x y = true) (fun a b _ _ => lexLe_anti a b) (hp.imp fun {x y} z => by rw [lexLe_eq, z]; rfl) hs (h.trans (List.mergeSort_perm _ _).symm)
theorem sortI_uniq {l m : List Int} (h : l.Perm m) (hp : l.Pairwise (· ≤ ·)) : l = sortI m := by
  have hs : (sortI m).Pairwise (· ≤ ·) := by
    refine (List.pairwise_mergeSort (le := fun a b : Int => decide (a ≤ b)) (fun a b c h1 h2 => ?_) (fun a b => ?_) m).imp fun {a b} z => of_decide_eq_true z
    · have := of_decide_eq_true h1
      have := of_decide_eq_true h2
      exact decide_eq_true (by omega)
    · rcases Int.le_total a b with z | z
      · simp [z]
      · simp [z]
  exact List.Perm.eq_of_pairwise (le := fun a b : Int => a ≤ b) (fun a b _ _ h1 h2 => by omega) hp hs (h.trans (List.mergeSort_perm _ _).symm)
section
variable {K : PySem.W.Frag} {Tb : List (Addr × Str)} {ad ad' : List Addr} {H H' : Hp} {st : Store}
theorem ints_rv : ∀ {xs : List V} {ds : List D} {ns : List Int}, RVs K ad H xs ds → intsD ds = some ns → xs = ns.map V.int ∧ ds = ns.map D.int
  | _, _, ns, .nil, e => by
    obtain rfl : ([] : List Int) = ns := Option.some.inj e
    exact ⟨rfl, rfl⟩
  | _, _, ns, .cons (d := d) (ds := ds) h t, e => by
    cases d with
    | int n =>
      have e' : (intsD ds).map (n :: ·) = some ns := e
      cases q : intsD ds with
      | none => rw [q] at e'; cases e'
      | some ms =>
        rw [q] at e'
        obtain rfl : n :: ms = ns := Option.some.inj e'
        cases h
        obtain ⟨h1, h2⟩ := ints_rv t q
        exact ⟨by rw [List.map_cons, h1], by rw [List.map_cons, h2]⟩
    | _ => cases e
theorem tups_rv {xs : List V} {ds : List D} {nss : List (List Int)} (r : RVs K ad H xs ds) (h : tupsD ds = some nss) : TupsOf K H xs nss := by
  obtain ⟨h1, h2⟩ := optAll_get h
  refine ⟨by rw [h1, r.length], fun i x ns hx hn => ?_⟩
  have hil : i < ds.length := by rw [← h1]; exact (List.getElem?_eq_some_iff.mp hn).1
  obtain ⟨v, g1, g2⟩ := r.get (List.getElem?_eq_getElem hil)
  rw [hx] at g1; cases g1
  have hk := h2 i _ ns (List.getElem?_eq_getElem hil) hn
  revert g2 hk
  generalize ds[i] = d
  intro g2 hk
  cases g2 with
  | @tup t ys es hq rs =>
    simp only at hk
    cases e : intsD es with
    | none => rw [e] at hk; cases hk
    | some ms =>
      rw [e] at hk
      simp only [Option.bind_some] at hk
      cases e2 : ms.isEmpty with
      | true => rw [e2] at hk; cases hk
      | false =>
        rw [e2] at hk
        obtain rfl : ms = ns := Option.some.inj hk
        rw [(ints_rv rs e).1] at hq
        exact ⟨t, rfl, hq, fun z => by rw [z] at e2; cases e2⟩
  | _ => cases hk
theorem rv_tups {ys : List V} {nss : List (List Int)} (h : TupsOf K H ys nss) : RVs K ad H ys (nss.map fun ns => D.tup (ns.map D.int)) := by
  obtain ⟨h1, h2⟩ := h
  induction ys generalizing nss with
  | nil =>
    have : nss = [] := List.eq_nil_of_length_eq_zero (by simpa using h1)
    subst this
    exact .nil
  | cons y ys ih =>
    cases nss with
    | nil => simp at h1
    | cons ns nss =>
      obtain ⟨t, rfl, ht, _⟩ := h2 0 y ns rfl rfl
      exact .cons (.tup ht (rv_ints ns)) (ih (by simpa using h1) fun i x ms hx hm => h2 (i + 1) x ms (by simpa using hx) (by simpa using hm))
end
/-! ### sorted of tuples whose first items are unlike ints -/
def IsPT (h : Heap) (v : Value) (n : Int) : Prop := ∃ (a : Addr) (o : Obj) (m : Nat) (t : Tok) (rest : List Value), v = .ref a ∧ h.get? a = some o ∧ o.cls = .type "tuple" ∧ o.data = .seq (Value.int n t :: rest).toArray m
theorem IsPT.keeps {h h' : Heap} {v : Value} {n : Int} (x : IsPT h v n) (k : ∀ b o, v = .ref b → h.get? b = some o → h'.get? b = some o) : IsPT h' v n := by
  obtain ⟨a, o, m, t, r, e, g, z⟩ := x
  exact ⟨a, o, m, t, r, e, k _ _ e g, z⟩
theorem IsPT.inj {h : Heap} {v : Value} {n m : Int} (x : IsPT h v n) (y : IsPT h v m) : n = m := by
  obtain ⟨a, o, k, t, r, rfl, g, _, d⟩ := x
  obtain ⟨a', o', k', t', r', e, g', _, d'⟩ := y
  cases e
  rw [g] at g'; cases g'
  rw [d] at d'
  injection d' with d1 d2
  have : Value.int n t :: r = Value.int m t' :: r' := by simpa using d1
  injection this with h1 _
  injection h1
section
variable {prog : Program} {w : World} {A : Around} {E : Value → Shared → Prop} {s : Shared}
theorem kat_self {fin : Bool} {Q : Bool → Shared → Prop} : ∀ {vs : List Value} (i : Nat), Q fin s → PySem.W.KatLex prog w A true fin Q (vs.zip vs) i s
  | [], i, h => PySem.W.kat_nil h
  | v :: vs, i, h => by
    rw [List.zip_cons_cons]
    refine PySem.W.kat_cons (SeqAt.EqAt.same v prog w _ _ ?_)
    exact PySem.W.kat_yes (kat_self (i + 1) h)
theorem prt_cmp {vs : List Value} {k : Value → Int} (hp : ∀ v ∈ vs, IsPT s.heap v (k v)) (hj : ∀ v ∈ vs, ∀ u ∈ vs, k v = k u → v = u) : SrtO.Cmp prog w A s (tuples' true) (fun p => p.1 ∈ vs) (SrtO.lt2 fun v u => decide (k v < k u)) := by
  intro p q hm hm'
  have hj' := hj _ hm _ hm'
  obtain ⟨a, o, m, t, r, e, ho, hc, hd⟩ := hp _ hm
  obtain ⟨a', o', m', t', r', e', ho', hc', hd'⟩ := hp _ hm'
  show wpAny (model prog w) A (keyLt' (tuples' true) p.1 q.1) (fun r s' => s' = s ∧ r = decide (k p.1 < k q.1)) (fun _ _ => False) s
  generalize k p.1 = x at hd hj' ⊢
  generalize k q.1 = y at hd' hj' ⊢
  rw [e, e'] at hj'
  rw [e, e']
  refine PySem.W.kat_lt ho hd ho' hd' ?_
  by_cases c : x = y
  · have z := hj' c
    injection z with z
    subst z
    rw [ho] at ho'; cases ho'
    rw [hd] at hd'
    injection hd' with d1 _
    rw [d1]
    refine kat_self (fin := decide ((Value.int y t' :: r').toArray.size < (Value.int y t' :: r').toArray.size)) 0 ⟨rfl, ?_⟩
    rw [decide_eq_false (Nat.lt_irrefl _), decide_eq_false (by omega)]
  · show PySem.W.KatLex prog w A true _ _ ((Value.int x t, Value.int y t') :: r.zip r') 0 s
    refine PySem.W.kat_cons (SeqAt.EqAt.int_int x t y t' prog w _ _ ?_)
    refine PySem.W.kat_go (fun e1 => absurd (by simpa using e1) c) (fun e1 => ?_)
    refine PySem.W.kat_no ?_
    exact PyProof.Rows.oneLt_int (Q := fun r s' => s' = s ∧ r = decide (x < y)) ⟨rfl, rfl⟩
theorem firsts_pt {h : Heap} {k : Value → Int} : ∀ {vs : List Value}, (∀ v ∈ vs, IsPT h v (k v)) → ∃ fs : List Value, PySem.W.KatTups h vs fs ∧ fs.length = vs.length ∧ ∀ f ∈ fs, ∃ x t, f = Value.int x t
  | [], _ => ⟨[], PySem.W.KatTups.nil, rfl, fun _ hm => by simp at hm⟩
  | v :: vs, hp => by
    obtain ⟨fs, h1, h2, h3⟩ := firsts_pt (vs := vs) fun v' hm => hp v' (List.mem_cons_of_mem _ hm)
    obtain ⟨a, o, m, t, r, e, ho, hc, hd⟩ := hp v List.mem_cons_self
    generalize k v = x at hd
    subst e
    refine ⟨.int x t :: fs, PySem.W.KatTups.cons ho hc hd (by simp) h1, by rw [List.length_cons, List.length_cons, h2], fun f hm => ?_⟩
    rcases List.mem_cons.mp hm with rfl | hm
    · exact ⟨x, t, rfl⟩
    · exact h3 f hm
theorem pt_sortable {a : Addr} {vs : List Value} {k : Value → Int} (h0 : 0 < vs.length) (hp : ∀ v ∈ vs, IsPT s.heap v (k v)) (hj : ∀ v ∈ vs, ∀ u ∈ vs, k v = k u → v = u) (ha : ∀ o, s.heap.get? a = some o → o.cls ≠ .type "tuple") : SrtO.SortableO prog w A s a vs fun v u => decide (k v < k u) := by
  intro h' keep
  have hp' : ∀ v ∈ vs, IsPT h' v (k v) := fun v hm => by
    obtain ⟨b, o, m, t, r, e, ho, hc, z⟩ := hp v hm
    exact ⟨b, o, m, t, r, e, keep b o (fun z => ha o (z ▸ ho) hc) ho, hc, z⟩
  obtain ⟨fs, h1, h2, h3⟩ := firsts_pt hp'
  refine ⟨tuples' true, fun Q E hq => ?_, prt_cmp (s := { s with heap := h' }) hp' hj⟩
  refine PySem.W.kat_kind (s := { s with heap := h' }) (T := .type "int") h1 (by omega) (fun f hm => ?_) (by rfl) ?_
  · obtain ⟨x, t, rfl⟩ := h3 f hm
    exact PySem.W.Looks.now
  · have e : (Value.type "int" != Value.type "tuple") = true := by first | decide +kernel | rfl | decide
    rw [e]
    exact hq
end
theorem swo_k (k : Value → Int) : SrtO.Swo fun v u : Value => decide (k v < k u) := ⟨fun x y h => by
    have := of_decide_eq_true h
    exact decide_eq_false (by omega), fun x y z h1 h2 => by
    have := of_decide_eq_false h1
    have := of_decide_eq_false h2
    exact decide_eq_false (by omega)⟩
def rSortPr (K : PySem.W.Frag) : List V → Hp → VK → Prop := fun vs H Q => ∃ (a : Addr) (xs : List V) (kz : List Int), vs = [V.ref a] ∧ SqL K H a xs ∧ KeysAt K H 0 xs kz ∧ kz.Nodup ∧
  ∀ (ys : List V) (p : Addr), (∃ ps : List (Int × V), ps.Perm (kz.zip xs) ∧ ys = ps.map Prod.snd ∧ ps.Pairwise (fun a b => a.1 ≤ b.1)) → H p = none → Q (.ref p) (upd H p (.lst ys))
open Classical in
theorem cr_sortedPr {X : Cx} : CallR X (.builtin "sorted") (rSortPr X.K) := by
  intro pins s σ H vs us Q I r h
  obtain ⟨a, xs, kz, rfl, hs, hx, hnd, q⟩ := h
  obtain ⟨its, rv, hl, hz⟩ := I.list hs
  rw [Vals.ref1 r]
  have hlen : its.length = xs.length := rv.length.symm
  have hat : ∀ (i : Nat) (v : Value), its[i]? = some v → ∃ n t, v = .ref t ∧ xs[i]? = some (.ref t) ∧ kz[i]? = some n ∧ IsPT s.heap v n := fun i v hv => by
    have hi1 : i < xs.length := by rw [← hlen]; exact (List.getElem?_eq_some_iff.mp hv).1
    have hi2 : i < kz.length := by rw [hx.1]; exact hi1
    obtain ⟨u, hu, ru⟩ := rv.get (List.getElem?_eq_getElem hi1)
    rw [hv] at hu; cases hu
    obtain ⟨t, ys, e, ht, hy⟩ := hx.2 i _ _ (List.getElem?_eq_getElem hi1) (List.getElem?_eq_getElem hi2)
    rw [e] at ru
    obtain rfl : v = Value.ref t := ru
    obtain ⟨its2, rv2, ⟨o2, ho2, hc2, n2, hd2⟩, _⟩ := I.tuple ht
    cases ys with
    | nil => simp at hy
    | cons y ys =>
      have hy' : y = .int kz[i] := by simpa using hy
      subst hy'
      cases rv2 with
      | cons h1 h2 =>
        obtain ⟨tt, rfl⟩ := h1
        exact ⟨_, t, rfl, by rw [List.getElem?_eq_getElem hi1, e], List.getElem?_eq_getElem hi2, t, o2, n2, tt, _, rfl, ho2, hc2, hd2⟩
  let k : Value → Int := fun v => Classical.epsilon fun n => IsPT s.heap v n
  have hk : ∀ v ∈ its, IsPT s.heap v (k v) := fun v hm => by
    obtain ⟨i, hi⟩ := List.getElem?_of_mem hm
    obtain ⟨n, t, _, _, _, z⟩ := hat i v hi
    exact Classical.epsilon_spec (p := fun n => IsPT s.heap v n) ⟨n, z⟩
  have hmap : its.map k = kz := by
    refine List.ext_getElem? fun i => ?_
    rw [List.getElem?_map]
    cases e : its[i]? with
    | none =>
      have h1 : its.length ≤ i := List.getElem?_eq_none_iff.mp e
      rw [List.getElem?_eq_none (by rw [hx.1, ← hlen]; exact h1)]
      rfl
    | some v =>
      obtain ⟨n, t, _, _, e2, z⟩ := hat i v e
      rw [e2]
      exact congrArg some ((hk v (List.mem_of_getElem? e)).inj z)
  have hj : ∀ v ∈ its, ∀ u ∈ its, k v = k u → v = u := fun v hv u hu e => by
    obtain ⟨i, hi⟩ := List.getElem?_of_mem hv
    obtain ⟨j, hj⟩ := List.getElem?_of_mem hu
    have hij : i = j := sortZ_uniq.nodup_ix hnd (x := k v) (by rw [← hmap, List.getElem?_map, hi]; rfl) (by rw [← hmap, List.getElem?_map, hj, e]; rfl)
    subst hij
    rw [hi] at hj
    exact Option.some.inj hj
  refine SrtO.sorted_ord (swo_k k) hl.isList (by rw [hlen]; exact hz) (fun h2 h₁ a' ha kk => pt_sortable (s := { s with heap := h₁ }) (by omega) (fun v hm => (hk v hm).keeps fun b o _ e => (kk b o e).2) hj fun o e => ?_) fun out h1 h2 => ?_
  · have e' : some o = some (seqObj "list" its.toArray 0) := e.symm.trans ha
    cases e'
    intro c
    exact absurd (Value.type.inj c) (by decide)
  · obtain ⟨ep, he'⟩ := PyProof.Rows.sortedAll_at s.heap its out.toArray
    have hmem : ∀ v ∈ out, v ∈ its := fun v hv => h2.perm.mem_iff.mp hv
    have hb : ∀ v ∈ its, ∃ a, v = Value.ref a := fun u hu => by
      obtain ⟨i, hi⟩ := List.getElem?_of_mem hu
      obtain ⟨_, t, e, _⟩ := hat i u hi
      exact ⟨t, e⟩
    have h3 : ∀ u ∈ out, ∃ a, u = Value.ref a := fun u hu => hb u (hmem u hu)
    have hlo : (out.map backV).length ≤ sizeLine := by
      rw [List.length_map, h2.perm.length_eq, hlen]
      exact hz
    have hxs : xs = its.map backV := by
      refine List.ext_getElem? fun i => ?_
      rw [List.getElem?_map]
      cases e : its[i]? with
      | none =>
        have h1 : its.length ≤ i := List.getElem?_eq_none_iff.mp e
        rw [List.getElem?_eq_none (by rw [← hlen]; exact h1)]
        rfl
      | some v =>
        obtain ⟨n, t, e1, e2, _⟩ := hat i v e
        rw [e2, e1]
        rfl
    refine ⟨.ref _, upd H (s.heap.objs.size + 1) (.lst (out.map backV)), I.laid (t' := s.toks) (fun _ _ => PyProof.Rows.sortedAll_old) (Nat.le_succ _) ⟨hlo, out, ep, vals_back h3, he'⟩, rfl, q _ _ ⟨out.map fun v => (k v, backV v), ?_, ?_, ?_⟩ (I.hok.fresh (Nat.le_succ _))⟩
    · have : kz.zip xs = its.map fun v => (k v, backV v) := by
        rw [← hmap, hxs]
        induction its with
        | nil => rfl
        | cons v l ih => simp [List.zip_map']
      rw [this]
      exact h2.perm.map _
    · rw [List.map_map]
      rfl
    · rw [List.pairwise_map]
      exact h1.imp fun {a b} z => by
        have := of_decide_eq_false z
        show k a ≤ k b
        omega
section
variable {X : Cx} {Tb : List (Addr × Str)} {a : Expr} {gs : GA} {pos p : Pos}
theorem dl_sort {x : Str} (hx : x = "sorted") (hm : X.mg x = none) (ha : PE X a (TR X.K Tb gs)) (hg : Gl X x := by rfl) (he : starEach [a] X.env = (false, eval a X.env) :: starEach [] X.env := by rfl) (hdb : (x == ("__debug__" : Str)) = false := by decide) :
    PE X (.Call (.Name x p) [a] [] pos) (TL X.K Tb (gSort gs)) := by
  subst hx
  refine PE.of (pe_callB (id := "sorted") ((cr_sortedI.or cr_sortedTup).or cr_sortedPr) hg hm (by decide +kernel) (pa_cons ha pa_nil he) (by decide) hdb he) fun σ H Q ⟨ad, ρ, st, R, S, w⟩ => ?_
  obtain ⟨ds, s1, e1, w1⟩ := w.bind
  refine ⟨ad, ρ, st, R, S, ?_⟩
  rw [e1]
  intro ad1 H1 l xs x1 h1 r1 S1
  unfold sortD at w1
  cases e2 : intsD ds with
  | some ns =>
    rw [e2] at w1
    obtain ⟨rfl, rfl⟩ := ints_rv r1 e2
    refine .inl (.inl ⟨l, ns, rfl, h1, fun ns' q hp hs hq => ?_⟩)
    obtain rfl := sortI_uniq hp hs
    exact w1 ad1 _ q _ (x1.trans (ext_new hq)) (x1.none_of S1 hq) (S1.not_mem hq) upd_same (rv_ints _) (S1.upd_new hq)
  | none =>
    rw [e2] at w1
    simp only at w1
    cases e3 : tupsD ds with
    | none =>
      rw [e3] at w1
      simp only at w1
      unfold sortKD at w1
      cases e4 : keysD 0 ds with
      | none => rw [e4] at w1; exact w1.elim
      | some kz =>
        rw [e4] at w1
        simp only at w1
        by_cases c : kz.Nodup
        · rw [if_pos c] at w1
          refine .inr ⟨l, xs, kz, rfl, h1, keys_at r1 e4, c, fun ys q ⟨ps, hp, hy, hs⟩ hq => ?_⟩
          subst hy
          have hl : kz.length = xs.length := (keys_at r1 e4).1
          exact w1 ad1 _ q _ (x1.trans (ext_new hq)) (x1.none_of S1 hq) (S1.not_mem hq) upd_same ((r1.sorted hl c hp hs).mono (ext_new hq)) (S1.upd_new hq)
        · rw [if_neg c] at w1; exact w1.elim
    | some nss =>
      rw [e3] at w1
      refine .inl (.inr ⟨l, xs, nss, rfl, h1, tups_rv r1 e3, fun ys nss' q ht hp hs hq => ?_⟩)
      obtain rfl := sortT_uniq hp hs
      exact w1 ad1 _ q ys (x1.trans (ext_new hq)) (x1.none_of S1 hq) (S1.not_mem hq) upd_same ((rv_tups ht).mono (ext_new hq)) (S1.upd_new hq)
end
end DL
namespace DL
open PySem PySem.Spec PyProof.Rows L2
/-! ### a tuple, once -/
theorem tuple_mul1 (l : Addr) (items : Array Value) (n : Nat) (dd : Option Addr) (sl : Array (Option Value)) (u : Tok) :
    Meets (Builtin.«tuple.__mul__» ⟨[.ref l, .int 1 u], []⟩) (fun _ R s => s.heap.get? l = some { cls := .type "tuple", dict := dd, data := .seq items n, slots := sl } ∧ R (.ok (.ret (Value.ref l))) s) :=
  .of_wp fun prog w A R s h => by
    obtain ⟨hp, g, d, tk, os⟩ := s
    obtain ⟨hl, h⟩ := h
    have f1 := AutoSeq1.idx_int
    wp_walk using wpAny_loadPart' hl
    exact ⟨_, rfl, h⟩
def rRep1 (K : PySem.W.Frag) : R2 := fun x y H Q => ∃ l xs, x = .ref l ∧ y = .int 1 ∧ SqT K H l xs ∧ Q (.ref l) H
section
variable {X : Cx}
theorem op_rep1 : OpR X (binaryOp .Mult) (rRep1 X.K) := by
  intro pins s σ H x y v u Q I rx ry h
  obtain ⟨l, xs, rfl, rfl, hT, q⟩ := h
  cases rx
  obtain ⟨t, rfl⟩ := ry
  obtain ⟨its, r, ⟨⟨cls, dd, data, sl⟩, ho, hc, n, hd⟩, hs⟩ := I.tuple hT
  simp only at hc hd
  subst hc hd
  exact wpAny_binaryOp_repeat_ref (T := "tuple") (U := "int") (by decide) ⟨_, ho, rfl⟩ (fun s' => typeIs_int s' 1 t) noFill_tuple_mul F.fills_int_mul F.slot_int_rmul repeat_tuple F.slot_int_index.lookup
    (call_meets F.slot_int_rmul (typeIs_int s 1 t) F.entry_int_rmul (F.args_int_rmul_2 _ _) (int_rmul_tuple 1 t l its.toArray n dd sl)
      ⟨ho, rfl, ⟨_, ho, rfl⟩, call_meets F.slot_tuple_mul ⟨_, ho, rfl⟩ F.entry_tuple_mul (F.args_tuple_mul_2 _ _) (tuple_mul1 l its.toArray n dd sl t) ⟨ho, ⟨.ref l, H, I, rfl, q⟩⟩⟩)
def rRepA (K : PySem.W.Frag) : R2 := fun x y H Q => (rRep1 K x y H Q ∨ rRepT K x y H Q) ∨ rRep x y H Q
theorem op_repA : OpR X (binaryOp .Mult) (rRepA X.K) := (op_rep1.or op_repT).or op_rep
end
section
variable {K : PySem.W.Frag} {Tb : List (Addr × Str)} {ad ad' : List Addr} {H H' : Hp} {st : Store}
theorem RVs.rep {xs : List V} {ds : List D} (r : RVs K ad H xs ds) : ∀ n : Nat, RVs K ad H (List.replicate n xs).flatten (List.replicate n ds).flatten
  | 0 => .nil
  | n + 1 => by
    rw [List.replicate_succ, List.replicate_succ, List.flatten_cons, List.flatten_cons]
    exact r.append (RVs.rep r n)
theorem s_rep : Snd2 K Tb (rRepA K) vRep := by
  intro ad H st x y d e Q rx ry S w
  cases rx with
  | @tup a xs ds h1 r1 =>
    cases ry with
    | int k =>
      have w' : PostD K Tb ad H Q ((if (!ds.isEmpty && decide (1 ≤ k) && decide (k ≤ 1000) && decide (ds.length ≤ 1000)) = true then ret (.tup (List.replicate k.toNat ds).flatten) else bad : M D) st) := w
      by_cases c : (!ds.isEmpty && decide (1 ≤ k) && decide (k ≤ 1000) && decide (ds.length ≤ 1000)) = true
      · rw [if_pos c] at w'
        simp only [Bool.and_eq_true, decide_eq_true_eq, Bool.not_eq_true'] at c
        obtain ⟨⟨⟨c1, c2⟩, c3⟩, c4⟩ := c
        by_cases e1 : k = 1
        · subst e1
          have e2 : (List.replicate (1 : Int).toNat ds).flatten = ds := by simp
          rw [e2] at w'
          exact .inl (.inl ⟨a, xs, rfl, rfl, h1, w' ad H _ .refl (.tup h1 r1) S⟩)
        · refine .inl (.inr ⟨a, k, xs, rfl, rfl, h1, fun z => ?_, by omega, c3, by rw [r1.length]; exact c4, PostD.newTup S (r1.rep k.toNat) w'⟩)
          subst z
          cases r1
          cases c1
      · rw [if_neg c] at w'; exact w'.elim
    | _ => exact w.elim
  | @rf n a h1 _ =>
    cases ry with
    | int k =>
      unfold vRep at w
      simp only at w
      cases e1 : cellItems st n with
      | none => simp only [e1] at w; exact w.elim
      | some ds =>
        simp only [e1] at w
        by_cases c : (decide (0 ≤ k) && decide (k ≤ 1000000) && decide (ds.length * k.toNat ≤ SZ)) = true
        · rw [if_pos c] at w
          simp only [Bool.and_eq_true, decide_eq_true_eq] at c
          obtain ⟨⟨c1, c2⟩, c3⟩ := c
          unfold cellItems at e1
          cases e2 : st[n]? with
          | none => rw [e2] at e1; cases e1
          | some cl =>
            rw [e2] at e1
            have hc := S.cell n _ a e2 h1
            cases cl with
            | dct _ _ => cases e1
            | oth _ => cases e1
            | lst es =>
              cases e1
              obtain ⟨xs, g1, g2⟩ := hc
              exact .inr ⟨a, k, xs, rfl, rfl, g1, by omega, by omega, by rw [g2.length]; exact SZ_line c3, PostD.newLst S (g2.rep k.toNat) w⟩
        · rw [if_neg c] at w; exact w.elim
    | _ => exact w.elim
  | _ => exact w.elim
/-! ### built-ins of two arguments -/
def Snd2L (K : PySem.W.Frag) (Tb : List (Addr × Str)) (r : List V → Hp → VK → Prop) (h : O2) : Prop := Snd2 K Tb (fun x y H Q => r [x, y] H Q) h
theorem s_max : Snd2L K Tb (fun xs H Q => ∃ i j, xs = [.int i, .int j] ∧ Q (.int (if j > i then j else i)) H) vMax := by
  intro ad H st x y d e Q rx ry S w
  cases rx with
  | int i =>
    cases ry with
    | int j => exact ⟨i, j, rfl, w ad H _ .refl (.int _) S⟩
    | _ => exact w.elim
  | _ => exact w.elim
theorem s_min : Snd2L K Tb (fun xs H Q => ∃ i j, xs = [.int i, .int j] ∧ Q (.int (if j < i then j else i)) H) vMin := by
  intro ad H st x y d e Q rx ry S w
  cases rx with
  | int i =>
    cases ry with
    | int j => exact ⟨i, j, rfl, w ad H _ .refl (.int _) S⟩
    | _ => exact w.elim
  | _ => exact w.elim
theorem s_divmod : Snd2L K Tb (fun xs H Q => ∃ i j, xs = [.int i, .int j] ∧ CDiv i j ∧ ∀ p, H p = none → Q (.ref p) (upd H p (.tup [.int (i / j), .int (i % j)]))) vDivmod := by
  intro ad H st x y d e Q rx ry S w
  cases rx with
  | int i =>
    cases ry with
    | int j =>
      have w' : PostD K Tb ad H Q ((if 0 < j ∧ j < 1073741824 then ret (.tup [.int (i / j), .int (i % j)]) else bad : M D) st) := w
      by_cases c : 0 < j ∧ j < 1073741824
      · rw [if_pos c] at w'
        exact ⟨i, j, rfl, c, PostD.newTup S (.cons (.int _) (.cons (.int _) .nil)) w'⟩
      · rw [if_neg c] at w'; exact w'.elim
    | _ => exact w.elim
  | _ => exact w.elim
end
end DL
namespace DL
open PySem L2
section
variable {X : Cx} {K : PySem.W.Frag} {Tb : List (Addr × Str)} {ad : List Addr} {H : Hp} {st : Store} {a b c e o : Expr} {ga gb gc g go gi : GE} {gs : GA} {pos p apos cpos : Pos}
theorem run_c2 {r : List V → Hp → VK → Prop} {h : O2} {σ : L2.St} {Q : VK} (s : Snd2L K Tb r h) (w : TD K Tb (gOp h ga gb) σ H Q) : tCB r (TAs K Tb (gCons ga (gCons gb gNil))) σ H Q := by
  obtain ⟨ad, ρ, st, R, S, w⟩ := w
  obtain ⟨d, s1, e1, w1⟩ := w.bind
  obtain ⟨d2, s2, e2, w2⟩ := w1.bind
  refine ⟨ad, ρ, st, R, S, ?_⟩
  have e : gCons ga (gCons gb gNil) ρ st = .ok [d, d2] s2 := by unfold gCons gNil andThen; rw [e1]; simp only [e2]; rfl
  rw [e]
  intro ad1 H1 xs x1 r1 S1
  cases r1 with
  | cons r2 r3 =>
    cases r3 with
    | cons r4 r5 =>
      cases r5
      exact s ad1 H1 s2 _ _ d d2 Q r2 r4 S1 (w2.shift x1)
theorem d_call2 {id : String} {x : Str} {r : List V → Hp → VK → Prop} {h : O2} (hc : CallR X (.builtin id) r) (s : Snd2L X.K Tb r h) (hm : X.mg x = none) (ha : PE X a (TD X.K Tb ga)) (hb : PE X b (TD X.K Tb gb)) (hg : Gl X x := by rfl)
    (hv : bootBuiltins x = some (.builtin id) := by decide +kernel) (he : starEach [a, b] X.env = (false, eval a X.env) :: starEach [b] X.env := by rfl) (he2 : starEach [b] X.env = (false, eval b X.env) :: starEach [] X.env := by rfl) (hn : x ≠ "__name__" := by decide) (hdb : (x == ("__debug__" : Str)) = false := by decide) :
    PE X (.Call (.Name x p) [a, b] [] pos) (TD X.K Tb (gOp h ga gb)) :=
  PE.of (pe_callB hc hg hm hv (da_cons ha (da_cons hb da_nil he2) he) hn hdb he (by rw [he2]; rfl)) fun σ H Q w => run_c2 s w
theorem fromTo_rv (lo : Int) (n : Nat) : RVs K ad H ((List.range n).map fun i => V.int (lo + (i : Nat))) (fromTo lo n) := by
  unfold fromTo
  generalize List.range n = l
  induction l with
  | nil => exact .nil
  | cons k l ih => exact .cons (.int _) ih
theorem d_tupRg {x y : Str} {p2 pos2 : Pos} (hx : x = "tuple") (hy : y = "range") (hm : X.mg x = none) (hmy : X.mg y = none) (ha : PE X a (TD X.K Tb ga)) (hc : X.calm = true := by rfl) (hg : Gl X x := by rfl) (hgy : Gl X y := by rfl) (hs : starEach [a] X.env = (false, eval a X.env) :: starEach [] X.env := by rfl)
    (na : starEach [.Call (.Name y p2) [a] [] pos2] X.env = (false, eval (.Call (.Name y p2) [a] [] pos2) X.env) :: starEach [] X.env := by rfl) :
    PE X (.Call (.Name x p) [.Call (.Name y p2) [a] [] pos2] [] pos) (TD X.K Tb (gUn vTupRg ga)) := by
  subst hx hy
  refine PE.of (pe_tupRg hc hg hm (prg_1 hgy hmy ha hs) na) fun σ H Q ⟨ad, ρ, st, R, S, w⟩ => ?_
  obtain ⟨d, s1, e1, w1⟩ := w.bind
  refine ⟨ad, ρ, st, R, S, ?_⟩
  rw [e1]
  intro ad1 H1 x x1 r1 S1
  cases r1 with
  | int n =>
    have w' : PostD X.K Tb ad H Q ((if smallI n = true ∧ n ≤ 1000000 then ret (.tup (fromTo 0 n.toNat)) else bad : M D) s1) := w1
    by_cases c : smallI n = true ∧ n ≤ 1000000
    · rw [if_pos c] at w'
      obtain ⟨c1, c2⟩ := smallI_ok c.1
      refine ⟨n, rfl, ⟨by omega, by omega, c1, c2, by omega⟩, ?_⟩
      have := fromTo_rv (K := X.K) (ad := ad1) (H := H1) 0 n.toNat
      have e2 : rgV 0 n = (List.range n.toNat).map fun i => V.int (0 + (i : Nat)) := by unfold rgV; rw [Int.sub_zero]
      rw [e2]
      exact PostD.newTup S1 this (w'.shift x1)
    · rw [if_neg c] at w'; exact w'.elim
  | _ => exact w1.elim
theorem kit_any (d : D) (nc : Plain d) : PySem.W.kitAny K (.type (clsName d)) [.type "list", .type "tuple"] = some (isTL d) := by
  have h1 := kit_ty (K := K) (kit_is .list d nc)
  have h2 := kit_ty (K := K) (kit_is .tuple d nc)
  unfold PySem.W.kitAny
  rw [show PySem.W.kitOne K (.type (clsName d)) (.type "list") = some (isTy .list d) from h1]
  cases d <;> first | exact absurd rfl (nc.1 _) | exact absurd rfl (nc.2 _) | rfl | (simp only [isTy]; unfold PySem.W.kitAny; rw [show PySem.W.kitOne K (.type (clsName _)) (.type "tuple") = some (isTy .tuple _) from h2]; rfl)
theorem d_isiTL {x y z : Str} {p3 p4 tpos : Pos} {k : Nat} (hx : x = "isinstance") (hy : y = "list") (hz : z = "tuple") (hm : X.mg x = none) (hmy : X.mg y = none) (hmz : X.mg z = none) (ha : PE X a (TD X.K Tb ga)) (hg : Gl X x := by rfl) (hgy : Gl X y := by rfl) (hgz : Gl X z := by rfl)
    (he : starEach [a, .Tuple [.Name y p3, .Name z p4] k tpos] X.env = (false, eval a X.env) :: starEach [.Tuple [.Name y p3, .Name z p4] k tpos] X.env := by rfl) (he2 : starEach [.Tuple [.Name y p3, .Name z p4] k tpos] X.env = (false, eval (.Tuple [.Name y p3, .Name z p4] k tpos) X.env) :: starEach [] X.env := by rfl)
    (he3 : starEach [.Name y p3, .Name z p4] X.env = (false, eval (.Name y p3) X.env) :: starEach [.Name z p4] X.env := by rfl) (he4 : starEach [.Name z p4] X.env = (false, eval (.Name z p4) X.env) :: starEach [] X.env := by rfl) :
    PE X (.Call (.Name x p) [a, .Tuple [.Name y p3, .Name z p4] k tpos] [] pos) (TD X.K Tb (gUn vIsiTL ga)) := by
  subst hx hy hz
  have h1 : PE X (.Name "list" p3) (tC (.ty "list")) := pe_bltn (v := .ty "list") hgy hmy (u := .type "list") (by decide +kernel) rfl (by decide) (by decide)
  have h2 : PE X (.Name "tuple" p4) (tC (.ty "tuple")) := pe_bltn (v := .ty "tuple") hgz hmz (u := .type "tuple") (by decide +kernel) rfl (by decide) (by decide)
  have ht : PE X (.Tuple [.Name "list" p3, .Name "tuple" p4] k tpos) (tTup (tCons (tC (.ty "list")) (tCons (tC (.ty "tuple")) tNil))) := pe_tup (pa_cons h1 (pa_cons h2 pa_nil he4) he3)
  refine PE.of (pe_callB (id := "isinstance") call_isiT hg hm (by decide +kernel) (pa_cons ha (pa_cons ht pa_nil he2) he) (by decide) (by decide) he (by rw [he2]; rfl)) fun σ H Q ⟨ad, ρ, st, R, S, w⟩ => ?_
  obtain ⟨d, s1, e1, w1⟩ := w.bind
  refine ⟨ad, ρ, st, R, S, ?_⟩
  rw [e1]
  intro ad1 H1 v x1 r1 S1
  have nc : Plain d := ⟨fun ds z => by subst z; exact w1.elim, fun ds z => by subst z; exact w1.elim, fun ds z => by subst z; exact w1.elim⟩
  have fin : (∃ s2, vIsiTL d s1 = .ok (.bl (isTL d)) s2 ∧ s2 = s1) ∧ ∀ n q, d = .rf n → ad1[n]? = some q → ∃ xs, SqL X.K H1 q xs := by
    cases d with
    | rf n =>
      unfold vIsiTL at w1 ⊢
      simp only at w1 ⊢
      cases e : cellItems s1 n with
      | none => simp only [e] at w1; exact w1.elim
      | some ds =>
        refine ⟨⟨s1, rfl, rfl⟩, fun m q hm hq => ?_⟩
        cases hm
        obtain ⟨xs, g1, _⟩ := S1.items e hq
        exact ⟨xs, g1⟩
    | cl ds => exact absurd rfl (nc.1 ds)
    | dr ds => exact absurd rfl (nc.2.1 ds)
    | ob ds => exact absurd rfl (nc.2.2 ds)
    | _ => exact ⟨⟨s1, rfl, rfl⟩, fun _ _ z => nomatch z⟩
  obtain ⟨⟨s2, e2, rfl⟩, hl⟩ := fin
  rw [e2] at w1
  refine ⟨by show 2 ≤ sizeLine; rw [sizeLine_eq]; omega, fun T hT => ?_⟩
  have x2 : Ext X.K ad1 H1 ad1 (upd H1 T (.tup [.ty "list", .ty "tuple"])) := ext_new hT
  refine ⟨v, T, [.ty "list", .ty "tuple"], .type (clsName d), [.type "list", .type "tuple"], isTL d, rfl, upd_same, .cons (.ty _) (.cons (.ty _) .nil), ?_, kit_any d nc, w1 ad1 _ _ (x1.trans x2) (.bl _) (S1.upd_new hT)⟩
  refine tyX_of (r1.mono x2) nc fun n q hn hq => ?_
  obtain ⟨xs, g⟩ := hl n q hn hq
  refine ⟨xs, ?_⟩
  rcases g with (g | ⟨o, g⟩) | g
  · exact .inl (.inl (by rw [upd_ne (ne_of_none g hT)]; exact g))
  · exact .inl (.inr ⟨o, by rw [upd_ne (ne_of_none g hT)]; exact g⟩)
  · exact .inr g
end
end DL
namespace DL
open PySem L2
theorem room_dp {k : Nat} {A : Around} (hr : Room k A) : A.depth < recursionLimit := by have := hr.dp; omega
/-- a def whose code object is known -/
structure FunC (K : PySem.W.Frag) (c : Addr) (x qual : Str) (st : Stmt) (f : Addr) (fd : FuncData) : Prop where
  ex : ∃ (oc : Value) (od : Option Addr) (kV doc pm : Value) (an : Option Addr) (ct : Value) (osl : Array (Option Value)),
    fd = PySem.W.fnOf x qual (defArgs st) (defBody st) (defScope st) .none kV doc pm an (.ref c) ct ∧ K.lookup f = some ⟨oc, od, .func fd, osl⟩ ∧ PySem.W.codeIn K (.ref c) qual = true
  kp : PySem.W.keepIn K (.ref f) = true
section
variable {P : Program} {w : World} {K : PySem.W.Frag} {Tb : List (Addr × Str)} {mg : Str → Option Value} {base : Heap} {c f : Addr} {fd : FuncData} {x qual : Str} {sd : Stmt} {N ps : List Str} {k n : Nat} {b : GS} {g : GF}
theorem fn_mkC (F : FunC K c x qual sd f fd) (S : FnScope N ps (defScope sd))
    (body : ∀ (A : Around) (outer : List PySem.Env) (s : Shared) (H : Hp) (E : XK), Room k (A.deeper (PyProof.Rows.envOfC qual (defScope sd) s.heap.objs.size f (.ref c))) → PSs (cxOf CX0 P w K mg base N qual (defScope sd) f (.ref c) A outer s H E).nox (defBody sd) (TS' K Tb b)) :
    FnOk P w K mg base CX0 (k + 1) f fd ps (spD K Tb ps.length (gFn ps.length N.length b)) := by
  obtain ⟨oc, od, kV, doc, pm, an, ct, osl, rfl, lk, hcd⟩ := F.ex
  refine fn_of lk hcd S (fun vs H Q E h => h.1) fun A outer s H vs Q E hr h => ?_
  refine ⟨TS' K Tb b, (body A outer s H E hr).nox, ?_⟩
  obtain ⟨hl, ad, ds, st, r, Sx, q⟩ := h
  refine ⟨ad, startE N.length ds, st, RE.start N.length N rfl r, Sx, ?_⟩
  unfold gFn at q
  rw [if_pos (by rw [← r.length]; exact hl)] at q
  obtain ⟨fl, s1, e1, q1⟩ := q.bind
  rw [e1]
  cases fl with
  | nx ρ => exact fun ad' H' σ' x _ S' => q1 ad' H' .non x .non S'
  | rt d => exact fun ad' H' v x r' S' => q1 ad' H' v x r' S'
  | bk ρ => exact q1.elim
  | ct ρ => exact q1.elim
theorem FunC.binds (F : FunC K c x qual sd f fd)
    (h : ∀ (kV doc pm : Value) (an : Option Addr) (cdv ct : Value) (us : List Value), us.length = ps.length → bindArgs (PySem.W.fnOf x qual (defArgs sd) (defBody sd) (defScope sd) .none kV doc pm an cdv ct) ⟨us, []⟩ = pure (ps.zip us)) : Binds K fd ps [] := by
  obtain ⟨oc, od, kV, doc, pm, an, ct, osl, rfl, lk, hcd⟩ := F.ex
  exact .all (h kV doc pm an (.ref c) ct)
theorem funC_mk {oc : Value} {od an : Option Addr} {osl : Array (Option Value)} {kV doc pm ct : Value} (l : K.lookup f = some ⟨oc, od, .func (PySem.W.fnOf x qual (defArgs sd) (defBody sd) (defScope sd) .none kV doc pm an (.ref c) ct), osl⟩)
    (cc : PySem.W.codeIn K (.ref c) qual = true) (k : PySem.W.keepIn K (.ref f) = true) : FunC K c x qual sd f (PySem.W.fnOf x qual (defArgs sd) (defBody sd) (defScope sd) .none kV doc pm an (.ref c) ct) := ⟨⟨oc, od, kV, doc, pm, an, ct, osl, rfl, l, cc⟩, k⟩
theorem cal_any {f : Addr} (F : FnOk P w K mg base CX0 k f fd ps (spD K Tb n g)) (hm : mg x = some (.ref f)) (hk : PySem.W.keepIn K (.ref f) = true) (hb : Binds K fd ps []) (hl : ∀ ds st, ds.length ≠ n → g ds st = .stuck) : Cal P w K Tb mg base k x n g := ⟨⟨f, fd, ps, F, hm, hk, hb⟩, hl⟩
/-- a call that is never reached -/
theorem fn_zero (h : ∀ ds st, g ds st = .stuck) : FnOk P w K mg base CX0 k f fd ps (spD K Tb n g) := by
  refine ⟨fun vs H Q E q => ?_, fun A outer s H args us vs Q E _ _ _ _ q => ?_⟩
  · obtain ⟨_, ad, ds, st, _, _, q⟩ := q
    rw [h] at q
    exact q.elim
  · obtain ⟨_, ad, ds, st, _, _, q⟩ := q
    rw [h] at q
    exact q.elim
end
end DL
/-! Dicts. -/
namespace DL
open PySem L2
section
variable {X : Cx} {K : PySem.W.Frag} {Tb : List (Addr × Str)} {ad : List Addr} {H : Hp} {st : Store} {a b c e o i f : Expr} {ga gb gc g go gi ge : GE} {gs : GA} {pos p apos cpos : Pos}
theorem kV_of {v : V} {d : D} {k : DKey} (r : RV K ad H v d) (h : kD d = some k) : v = kV k := by
  cases r with
  | int i => cases h; rfl
  | str x => cases h; rfl
  | _ => cases h
theorem RKs.get {us : List (Key × V)} {kvs : Ents} (h : RKs K ad H us kvs) (k : DKey) : (∀ d, getD' kvs k = some d → ∃ v, valV us k = some v ∧ RV K ad H v d) ∧ (getD' kvs k = none → valV us k = none) := by
  induction h with
  | nil => exact ⟨fun d z => (by cases z), fun _ => rfl⟩
  | @cons k0 v d us kvs h t ih =>
    by_cases c : k0 = k
    · have e1 : getD' ((k0, d) :: kvs) k = some d := by simp [getD', c]
      rw [e1, valV_pos (p := (k0, v)) c]
      exact ⟨fun d' z => by cases z; exact ⟨v, rfl, h⟩, fun z => (by cases z)⟩
    · have e1 : getD' ((k0, d) :: kvs) k = getD' kvs k := by simp [getD', c]
      rw [e1, valV_neg (p := (k0, v)) c]
      exact ih
theorem RKs.isSome {us : List (Key × V)} {kvs : Ents} (h : RKs K ad H us kvs) (k : DKey) : (valV us k).isSome = (getD' kvs k).isSome := by
  obtain ⟨h1, h2⟩ := h.get k
  cases e : getD' kvs k with
  | none => rw [h2 e]; rfl
  | some d => obtain ⟨v, e2, _⟩ := h1 d e; rw [e2]; rfl
theorem RKs.any {us : List (Key × V)} {kvs : Ents} (h : RKs K ad H us kvs) (k : DKey) : (us.any fun p => decide (p.1 = k)) = kvs.any fun p => decide (p.1 = k) := by
  induction h with
  | nil => rfl
  | cons h t ih => rw [List.any_cons, List.any_cons, ih]
theorem RKs.length {us : List (Key × V)} {kvs : Ents} (h : RKs K ad H us kvs) : us.length = kvs.length := by
  induction h with
  | nil => rfl
  | cons h t ih => rw [List.length_cons, List.length_cons, ih]
theorem RKs.put {us : List (Key × V)} {kvs : Ents} (h : RKs K ad H us kvs) (k : DKey) {v : V} {d : D} (r : RV K ad H v d) : RKs K ad H (putK us k v) (putD' kvs k d) := by
  unfold putK putD'
  rw [h.any k]
  split
  · rename_i hh; clear hh
    induction h with
    | nil => exact .nil
    | @cons k0 v0 d0 us kvs h t ih =>
      rw [List.map_cons, List.map_cons]
      by_cases c : k0 = k
      · simp only [c, if_true]
        exact .cons r ih
      · simp only [c, if_false]
        exact .cons h ih
  · rename_i hh; clear hh
    induction h with
    | nil => exact .cons r .nil
    | cons h t ih => exact .cons h ih
theorem RKs.drop {us : List (Key × V)} {kvs : Ents} (h : RKs K ad H us kvs) (k : DKey) : RKs K ad H (dropK us k) (dropD' kvs k) := by
  unfold dropK dropD'
  induction h with
  | nil => exact .nil
  | @cons k0 v0 d0 us kvs h t ih =>
    rw [List.filter_cons, List.filter_cons]
    by_cases c : k0 = k
    · rw [if_neg (by simp [c]), if_neg (by simp [c])]; exact ih
    · rw [if_pos (by simp [c]), if_pos (by simp [c])]; exact .cons h ih
theorem DctAt.rd {a : Addr} {us : List (Key × V)} : ∀ {lk : Bool}, DctAt H a us lk → Rd H a (.dK us)
  | false, h => .inl h
  | true, ⟨o, h⟩ => .inr ⟨o, h⟩
theorem RS.dict {n : Nat} {kvs : Ents} {a : Addr} (S : RS K Tb ad H st) (h : cellDict st n = some kvs) (ha : ad[n]? = some a) : ∃ us, Rd H a (.dK us) ∧ RKs K ad H us kvs := by
  unfold cellDict at h
  cases e : st[n]? with
  | none => rw [e] at h; cases h
  | some c =>
    rw [e] at h
    have hc := S.cell n c a e ha
    cases c with
    | lst es => cases h
    | dct lk kvs' =>
      cases h
      obtain ⟨us, h1, h2⟩ := hc
      exact ⟨us, DctAt.rd h1, h2⟩
    | oth _ => cases h
theorem dLook_of {d k : D} {x y : V} {r : Option D} (S : RS K Tb ad H st) (rx : RV K ad H x d) (ry : RV K ad H y k) (h : dLook d k st = some r) : ∃ q ov, x = .ref q ∧ DGet H q y ov ∧ (∀ d, r = some d → ∃ v, ov = some v ∧ RV K ad H v d) ∧ (r = none → ov = none) := by
  unfold dLook at h
  cases rx with
  | @dr n q h1 hk =>
    simp only at h
    cases e1 : cellDict st n with
    | none => simp only [e1] at h; cases h
    | some kvs =>
      cases e2 : kD k with
      | none => simp only [e1, e2] at h; cases h
      | some kk =>
        simp only [e1, e2] at h
        cases h
        obtain ⟨us, g1, g2⟩ := S.dict e1 h1
        obtain ⟨g3, g4⟩ := g2.get kk
        exact ⟨q, valV us kk, rfl, .inl ⟨us, kk, g1, kV_of ry e2, rfl⟩, g3, g4⟩
  | _ => cases h
theorem d_dnew : PE X (.Dict [] [] pos) (TD X.K Tb gDNew) := by
  refine PE.of pe_dnewK fun σ H Q ⟨ad, ρ, st, R, S, w⟩ p hp => ?_
  have e1 : Ext X.K ad H ad (upd H p (.dK [])) := ext_new hp
  refine w (ad ++ [p]) _ (.ref p) (e1.push (fre_none hp) S) (.dr ?_ (by rw [upd_same]; rfl)) ((S.upd_new hp).pushC (c0 := .dct false []) ⟨[], by show upd _ _ _ _ = _; rw [upd_same], .nil⟩ (S.not_mem hp))
  rw [← S.len]
  simp
theorem d_ixD (hu : X.A.units + 1 < cLine) (ha : PE X a (TD X.K Tb ga)) (hb : PE X b (TD X.K Tb gb)) (hs : NoSl b := by exact fun _ _ => rfl) : PE X (.Subscript a b pos) (TD X.K Tb (gOp vIxD ga gb)) :=
  PE.of (pe_dget hu ha hb hs) fun σ H Q ⟨ad, ρ, st, R, S, w⟩ => by
    obtain ⟨d, s1, e1, w1⟩ := w.bind
    refine ⟨ad, ρ, st, R, S, ?_⟩
    rw [e1]
    refine fun ad1 H1 x x1 r1 S1 => ⟨ad1, ρ, s1, R.mono x1, S1, ?_⟩
    obtain ⟨k, s2, e2, w2⟩ := w1.bind
    rw [e2]
    intro ad2 H2 y x2 r2 S2
    unfold vIxD at w2
    cases e3 : dLook d k s2 with
    | none => simp only [e3] at w2; exact w2.elim
    | some ro =>
      cases ro with
      | none => simp only [e3] at w2; exact w2.elim
      | some v =>
        simp only [e3] at w2
        obtain ⟨q, ov, rfl, g1, g2, _⟩ := dLook_of S2 (r1.mono x2) r2 e3
        obtain ⟨v', rfl, g3⟩ := g2 v rfl
        exact ⟨q, v', rfl, g1, w2 ad2 H2 v' (x1.trans x2) g3 S2⟩
theorem run_inD {h : O2} {neg : Bool} (hh : ∀ k d st, h k d st = match dLook d k st with | some o => .ok (.bl (if neg then !o.isSome else o.isSome)) st | none => .stuck) {σ : L2.St} {Q : VK} (w : TD K Tb (gOp h ga gb) σ H Q) :
    TD K Tb ga σ H fun y H1 => TD K Tb gb σ H1 fun x H2 => ∃ a o, x = .ref a ∧ DGet H2 a y o ∧ Q (.bl (if neg then !o.isSome else o.isSome)) H2 := by
  obtain ⟨ad, ρ, st, R, S, w⟩ := w
  obtain ⟨k, s1, e1, w1⟩ := w.bind
  refine ⟨ad, ρ, st, R, S, ?_⟩
  rw [e1]
  refine fun ad1 H1 y x1 r1 S1 => ⟨ad1, ρ, s1, R.mono x1, S1, ?_⟩
  obtain ⟨d, s2, e2, w2⟩ := w1.bind
  rw [e2]
  intro ad2 H2 x x2 r2 S2
  rw [hh] at w2
  cases e3 : dLook d k s2 with
  | none => simp only [e3] at w2; exact w2.elim
  | some ro =>
    simp only [e3] at w2
    obtain ⟨q, ov, rfl, g1, g2, g3⟩ := dLook_of S2 r2 (r1.mono x2) e3
    refine ⟨q, ov, rfl, g1, ?_⟩
    have : ov.isSome = ro.isSome := by
      cases ro with
      | none => rw [g3 rfl]; rfl
      | some d => obtain ⟨v, rfl, _⟩ := g2 d rfl; rfl
    rw [this]
    exact w2 ad2 H2 _ (x1.trans x2) (.bl _) S2
theorem d_inD (hu : X.A.units + 1 < cLine) (ha : PE X a (TD X.K Tb ga)) (hb : PE X b (TD X.K Tb gb)) (hm : behindInMarks .In b = false := by first | exact nomark _ | rfl) : PE X (.Compare a [.In] [b] pos) (TD X.K Tb (gOp vInD ga gb)) :=
  PE.of (pe_cmp (pc_din hu ha hb) hm) fun σ H Q w => run_inD (neg := false) (fun _ _ _ => rfl) w
theorem d_notInD (hu : X.A.units + 1 < cLine) (ha : PE X a (TD X.K Tb ga)) (hb : PE X b (TD X.K Tb gb)) (hm : behindInMarks .NotIn b = false := by first | exact nomark _ | rfl) : PE X (.Compare a [.NotIn] [b] pos) (TD X.K Tb (gOp vNotInD ga gb)) :=
  PE.of (pe_cmp (pc_dnotin hu ha hb) hm) fun σ H Q w => run_inD (neg := true) (fun _ _ _ => rfl) w
theorem d_tinD (hu : X.A.units + 1 < cLine) (ha : PE X a (TD X.K Tb ga)) (hb : PE X b (TD X.K Tb gb)) (hm : behindInMarks .In b = false := by first | exact nomark _ | rfl) : PT X (.Compare a [.In] [b] pos) (TB X.K Tb (tB (gOp vInD ga gb))) :=
  PT.of (pt_cmp (pc_din hu ha hb) hm) fun σ H Q w => run_inD (neg := false) (fun _ _ _ => rfl) (tB_run w)
theorem d_tnotInD (hu : X.A.units + 1 < cLine) (ha : PE X a (TD X.K Tb ga)) (hb : PE X b (TD X.K Tb gb)) (hm : behindInMarks .NotIn b = false := by first | exact nomark _ | rfl) : PT X (.Compare a [.NotIn] [b] pos) (TB X.K Tb (tB (gOp vNotInD ga gb))) :=
  PT.of (pt_cmp (pc_dnotin hu ha hb) hm) fun σ H Q w => run_inD (neg := true) (fun _ _ _ => rfl) (tB_run w)
end
end DL
/-! Dicts written, walked; further lists. -/
namespace DL
open PySem L2
section
variable {X : Cx} {K : PySem.W.Frag} {Tb : List (Addr × Str)} {ad : List Addr} {H : Hp} {st : Store} {a b c e o i f : Expr} {ga gb gc g go gi ge : GE} {gs : GA} {pos p apos cpos : Pos}
theorem s_setD {p2 : Pos} (hu : X.A.units + 1 < cLine) (he : PE X e (TD X.K Tb g)) (ho : PE X o (TD X.K Tb go)) (hi : PE X i (TD X.K Tb gi)) (hs : swapsWith e (some (.Subscript o i p2)) pos.line X.env = pure false := by rfl) :
    PS X (.Assign [.Subscript o i p2] e pos) (TS' X.K Tb (gSetD g go gi)) :=
  PS.of (ps_dput hu ho hi he hs) fun D σ H ⟨ad, ρ, st, R, S, w⟩ => by
    obtain ⟨d, s1, e1, w1⟩ := w.bind
    refine ⟨ad, ρ, st, R, S, ?_⟩
    rw [e1]
    refine fun ad1 H1 x x1 r1 S1 => ⟨ad1, ρ, s1, R.mono x1, S1, ?_⟩
    obtain ⟨do_, s2, e2, w2⟩ := w1.bind
    rw [e2]
    refine fun ad2 H2 y x2 r2 S2 => ⟨ad2, ρ, s2, R.mono (x1.trans x2), S2, ?_⟩
    obtain ⟨di_, s3, e3, w3⟩ := w2.bind
    rw [e3]
    intro ad3 H3 z x3 r3 S3
    obtain ⟨un, s4, e4, w4⟩ := w3.bind
    have r2' := r2.mono x3
    have r1' := (r1.mono x2).mono x3
    unfold vSetD at e4
    cases r2' with
    | @dr n q h1 hk =>
      simp only at e4
      cases e5 : s3[n]? with
      | none => simp only [e5] at e4; cases e4
      | some cl =>
        cases cl with
        | lst _ => simp only [e5] at e4; cases e4
        | oth _ => simp only [e5] at e4; cases e4
        | dct lk kvs =>
          cases lk with
          | true => simp only [e5] at e4; cases e4
          | false =>
            cases e6 : kD di_ with
            | none => simp only [e5, e6] at e4; cases e4
            | some kk =>
              simp only [e5, e6] at e4
              by_cases cz : kvs.length < SZ
              · rw [if_pos cz] at e4
                injection e4 with _ e7
                subst e7
                obtain ⟨us, g1, g2⟩ := S3.cell n _ q e5 h1
                have g1 : H3 q = some (.dK us) := g1
                obtain ⟨S4, x4⟩ := S3.setC (c1 := .dct false (putD' kvs kk d)) (o := .dK (putK us kk x)) e5 h1 (by rw [g1]; rfl) (fun _ _ z => by rw [g1] at z; cases z) fun ex => ⟨_, by show upd _ _ _ _ = _; rw [upd_same], (g2.put kk r1').mono ex⟩
                exact ⟨q, _, rfl, .inl ⟨us, kk, g1, kV_of r3 e6, by rw [g2.length]; exact SZ_lt cz, rfl⟩, w4 ad3 _ σ (((x1.trans x2).trans x3).trans x4) (R.mono (((x1.trans x2).trans x3).trans x4)) S4⟩
              · rw [if_neg cz] at e4; cases e4
    | _ => cases e4
theorem s_lenD : Snd1 K Tb (fun x H Q => (fun (xs : List V) (H : Hp) (Q : VK) => ∃ a kvs, xs = [V.ref a] ∧ H a = some (.dK kvs) ∧ Q (.int kvs.length) H) [x] H Q) vLenD := by
  intro ad H st x d Q r S w
  unfold vLenD at w
  cases r with
  | @dr n q h1 hk =>
    simp only at w
    cases e5 : st[n]? with
    | none => simp only [e5] at w; exact w.elim
    | some cl =>
      cases cl with
      | lst _ => simp only [e5] at w; exact w.elim
      | oth _ => simp only [e5] at w; exact w.elim
      | dct lk kvs =>
        cases lk with
        | true => simp only [e5] at w; exact w.elim
        | false =>
          simp only [e5] at w
          obtain ⟨us, g1, g2⟩ := S.cell n _ q e5 h1
          exact ⟨q, us, rfl, g1, by rw [g2.length]; exact w ad H _ Ext.refl (.int _) S⟩
  | _ => exact w.elim
theorem isDict_ok {d : D} {x : V} {s s' : Store} {u : Unit} (S : RS K Tb ad H s) (r : RV K ad H x d) (h : isDict d s = .ok u s') : s' = s ∧ ∃ q, x = .ref q ∧ IsD H q := by
  unfold isDict at h
  cases r with
  | @dr n q h1 hk =>
    simp only at h
    cases e : cellDict s n with
    | none => simp only [e] at h; cases h
    | some kvs =>
      simp only [e] at h
      injection h with _ h2
      obtain ⟨us, g1, _⟩ := S.dict e h1
      exact ⟨h2.symm, q, rfl, .inl ⟨us, g1⟩⟩
  | _ => cases h
theorem d_get2D {m : Str} (hm : m = "get") (hu : X.A.units + 1 < cLine) (ho : PE X o (TD X.K Tb go)) (he : PE X e (TD X.K Tb ge)) (hf : PE X f (TD X.K Tb g)) (hM : M2 X o "get" apos e f cpos := by exact ⟨rfl, rfl, rfl, rfl⟩) :
    PE X (.Call (.Attribute o m apos) [e, f] [] cpos) (TD X.K Tb (gGet2 go ge g)) := by
  subst hm
  refine PE.of (pe_dget2 hu ho he hf hM) fun σ H Q ⟨ad, ρ, st, R, S, w⟩ => ?_
  obtain ⟨d, s1, e1, w1⟩ := w.bind
  refine ⟨ad, ρ, st, R, S, ?_⟩
  rw [e1]
  intro ad1 H1 x x1 r1 S1
  obtain ⟨un, s1', e2, w2⟩ := w1.bind
  obtain ⟨rfl, q, rfl, hd⟩ := isDict_ok S1 r1 e2
  refine ⟨q, rfl, hd, ad1, ρ, s1', R.mono x1, S1, ?_⟩
  obtain ⟨k, s2, e3, w3⟩ := w2.bind
  rw [e3]
  refine fun ad2 H2 y x2 r2 S2 => ⟨ad2, ρ, s2, R.mono (x1.trans x2), S2, ?_⟩
  obtain ⟨z, s3, e4, w4⟩ := w3.bind
  rw [e4]
  intro ad3 H3 zv x3 r3 S3
  cases e5 : dLook d k s3 with
  | none => simp only [e5] at w4; exact w4.elim
  | some ro =>
    simp only [e5] at w4
    obtain ⟨q', ov, hq, g1, g2, g3⟩ := dLook_of S3 ((r1.mono x2).mono x3) (r2.mono x3) e5
    cases hq
    refine ⟨ov, g1, ?_⟩
    have hx := (x1.trans x2).trans x3
    cases ro with
    | none => rw [g3 rfl]; exact w4 ad3 H3 zv hx r3 S3
    | some dd => obtain ⟨v, rfl, g4⟩ := g2 dd rfl; exact w4 ad3 H3 v hx g4 S3
theorem d_popD {m : Str} (hm : m = "pop") (ho : PE X o (TD X.K Tb go)) (he : PE X e (TD X.K Tb ge)) (hM : M1 X o "pop" apos e cpos := by exact ⟨rfl, rfl, rfl, rfl⟩) :
    PE X (.Call (.Attribute o m apos) [e] [] cpos) (TD X.K Tb (gPopD go ge)) := by
  subst hm
  refine PE.of (pe_dpop1 ho he hM) fun σ H Q ⟨ad, ρ, st, R, S, w⟩ => ?_
  obtain ⟨d, s1, e1, w1⟩ := w.bind
  refine ⟨ad, ρ, st, R, S, ?_⟩
  rw [e1]
  intro ad1 H1 x x1 r1 S1
  obtain ⟨un, s1', e2, w2⟩ := w1.bind
  obtain ⟨rfl, q, rfl, hd⟩ := isDict_ok S1 r1 e2
  refine ⟨q, rfl, hd, ad1, ρ, s1', R.mono x1, S1, ?_⟩
  obtain ⟨k, s2, e3, w3⟩ := w2.bind
  rw [e3]
  intro ad2 H2 y x2 r2 S2
  have r1' := r1.mono x2
  unfold vPopD at w3
  cases r1' with
  | @dr n q h1 hk =>
    simp only at w3
    cases e5 : s2[n]? with
    | none => simp only [e5] at w3; exact w3.elim
    | some cl =>
      cases cl with
      | lst _ => simp only [e5] at w3; exact w3.elim
      | oth _ => simp only [e5] at w3; exact w3.elim
      | dct lk kvs =>
        cases lk with
        | true => simp only [e5] at w3; exact w3.elim
        | false =>
          cases e6 : kD k with
          | none => simp only [e5, e6] at w3; exact w3.elim
          | some kk =>
            simp only [e5, e6] at w3
            cases e7 : getD' kvs kk with
            | none => simp only [e7] at w3; exact w3.elim
            | some dv =>
              simp only [e7] at w3
              obtain ⟨us, g1, g2⟩ := S2.cell n _ q e5 h1
              have g1 : H2 q = some (.dK us) := g1
              obtain ⟨v, g3, g4⟩ := (g2.get kk).1 dv e7
              obtain ⟨S4, x4⟩ := S2.setC (c1 := .dct false (dropD' kvs kk)) (o := .dK (dropK us kk)) e5 h1 (by rw [g1]; rfl) (fun _ _ z => by rw [g1] at z; cases z) fun ex => ⟨_, by show upd _ _ _ _ = _; rw [upd_same], (g2.drop kk).mono ex⟩
              exact ⟨us, kk, v, g1, kV_of r2 e6, g3, w3 ad2 _ v ((x1.trans x2).trans x4) (g4.mono x4) S4⟩
  | _ => exact w3.elim
theorem keys_rv {us : List (Key × V)} {kvs : Ents} (h : RKs K ad H us kvs) : RVs K ad H (us.map fun kv => kV kv.1) (keysOf kvs) := by
  induction h with
  | nil => exact .nil
  | @cons k v d us kvs h t ih =>
    refine .cons ?_ ih
    cases k with
    | inl i => exact .int i
    | inr x => exact .str x
/-- list(d) -/
theorem dl_keys {x : Str} (hx : x = "list") (hm : X.mg x = none) (ha : PE X a (TD X.K Tb ga)) (hc : X.calm = true := by rfl) (hg : Gl X x := by rfl) (he : starEach [a] X.env = (false, eval a X.env) :: starEach [] X.env := by rfl) (hdb : (x == ("__debug__" : Str)) = false := by decide) :
    PE X (.Call (.Name x p) [a] [] pos) (TL X.K Tb (gKeys ga)) := by
  subst hx
  refine PE.of (pe_callTy (T := "list") (call_list_dK hc) hg hm (by decide +kernel) (da_cons ha da_nil he) (by decide) hdb he) fun σ H Q ⟨ad, ρ, st, R, S, w⟩ => ?_
  obtain ⟨d, s1, e1, w1⟩ := w.bind
  refine ⟨ad, ρ, st, R, S, ?_⟩
  have e : gCons ga gNil ρ st = .ok [d] s1 := by unfold gCons gNil andThen; rw [e1]; rfl
  rw [e]
  intro ad1 H1 xs x1 r1 S1
  cases r1 with
  | cons r2 r3 =>
    cases r3
    unfold vKeys at w1
    cases r2 with
    | @dr n q h1 hk =>
      simp only at w1
      cases e5 : s1[n]? with
      | none => simp only [e5] at w1; exact w1.elim
      | some cl =>
        cases cl with
        | lst _ => simp only [e5] at w1; exact w1.elim
        | oth _ => simp only [e5] at w1; exact w1.elim
        | dct lk kvs =>
          cases lk with
          | true => simp only [e5] at w1; exact w1.elim
          | false =>
            simp only [e5] at w1
            obtain ⟨us, g1, g2⟩ := S1.cell n _ q e5 h1
            refine ⟨q, us, rfl, g1, fun l hl => ?_⟩
            have x2 : Ext X.K ad1 H1 ad1 (upd H1 l (.lst (us.map fun kv => kV kv.1))) := ext_new hl
            exact w1 ad1 _ l _ (x1.trans x2) (x1.none_of S1 hl) (S1.not_mem hl) upd_same ((keys_rv g2).mono x2) (S1.upd_new hl)
    | _ => exact w1.elim
/-! ### list(range(a, b)) -/
theorem rgOk_ok {i j : Int} (h : rgOk i j = true) : RgOk i j := by
  unfold rgOk at h
  simp only [Bool.and_eq_true, decide_eq_true_eq] at h
  obtain ⟨h1, h2⟩ := smallI_ok h.1.1
  obtain ⟨h3, h4⟩ := smallI_ok h.1.2
  exact ⟨h1, h2, h3, h4, h.2⟩
theorem rg_rv (i j : Int) : RVs K ad H (rgV i j) (fromTo i (j - i).toNat) := by
  have := fromTo_rv (K := K) (ad := ad) (H := H) i (j - i).toNat
  have e : rgV i j = (List.range (j - i).toNat).map fun k => V.int (i + (k : Nat)) := rfl
  rw [e]; exact this
theorem run_rg {σ : L2.St} {ga gb : GE} {QR : Int → Int → Hp → Prop} (w : ∃ ad ρ st, RE K ad H σ ρ ∧ RS K Tb ad H st ∧ ∃ (d : D) (s1 : Store) (d2 : D) (s2 : Store), ga ρ st = .ok d s1 ∧ gb ρ s1 = .ok d2 s2 ∧ ∃ i j, d = .int i ∧ d2 = .int j ∧ ∀ ad' H', Ext K ad H ad' H' → RS K Tb ad' H' s2 → QR i j H') : tRg2 (TD K Tb ga) (TD K Tb gb) σ H QR := by
  obtain ⟨ad, ρ, st, R, S, d, s1, d2, s2, e1, e2, i, j, rfl, rfl, w⟩ := w
  refine ⟨ad, ρ, st, R, S, ?_⟩
  rw [e1]
  refine fun ad1 H1 x x1 r1 S1 => ⟨ad1, ρ, s1, R.mono x1, S1, ?_⟩
  rw [e2]
  intro ad2 H2 y x2 r2 S2
  cases r1
  cases r2
  exact ⟨i, j, rfl, rfl, w ad2 H2 (x1.trans x2) S2⟩
theorem listRg_ok {ga gb : GE} {ρ : Env} {st s : Store} {ds : List D} (h : gListRg ga gb ρ st = .ok ds s) : ∃ d s1 d2, ga ρ st = .ok d s1 ∧ gb ρ s1 = .ok d2 s ∧ ∃ i j, d = .int i ∧ d2 = .int j ∧ rgOk i j = true ∧ ds = fromTo i (j - i).toNat := by
  obtain ⟨d, s1, e1, h⟩ := andThen_ok h
  obtain ⟨d2, s2, e2, h⟩ := andThen_ok h
  obtain ⟨n, s3, e3, h⟩ := andThen_ok h
  obtain ⟨m, s4, e4, h⟩ := andThen_ok h
  obtain ⟨h1, h2⟩ := asInt_ok e3
  obtain ⟨h3, h4⟩ := asInt_ok e4
  by_cases c : rgOk n m = true
  · rw [if_pos c] at h
    have z : Res.ok (fromTo n (m - n).toNat) s4 = .ok ds s := h
    injection z with z1 z2
    exact ⟨d, s1, d2, e1, by rw [e2, ← z2, h4, h2], n, m, h1, h3, c, z1.symm⟩
  · rw [if_neg c] at h; cases h
theorem ok_postL {Q : VK} {r : Res (List D)} (h : PostL K Tb ad H Q r) : ∃ ds s, r = .ok ds s := PostL.ok h
theorem dl_listRg2 {x y : Str} {p2 pos2 : Pos} (hx : x = "list") (hy : y = "range") (hm : X.mg x = none) (hmy : X.mg y = none) (ha : PE X a (TD X.K Tb ga)) (hb : PE X b (TD X.K Tb gb)) (hc : X.calm = true := by rfl) (hg : Gl X x := by rfl) (hgy : Gl X y := by rfl) (hs : starEach [a, b] X.env = (false, eval a X.env) :: starEach [b] X.env := by rfl) (hs2 : starEach [b] X.env = (false, eval b X.env) :: starEach [] X.env := by rfl)
    (na : starEach [.Call (.Name y p2) [a, b] [] pos2] X.env = (false, eval (.Call (.Name y p2) [a, b] [] pos2) X.env) :: starEach [] X.env := by rfl) :
    PE X (.Call (.Name x p) [.Call (.Name y p2) [a, b] [] pos2] [] pos) (TL X.K Tb (gListRg ga gb)) := by
  subst hx hy
  refine PE.of (pe_listRg hc hg hm (prg_2 hgy hmy ha hb hs hs2 (by rw [hs2]; rfl)) na) fun σ H Q ⟨ad, ρ, st, R, S, w⟩ => ?_
  obtain ⟨ds, s, e⟩ := ok_postL w
  rw [e] at w
  obtain ⟨d, s1, d2, e1, e2, i, j, rfl, rfl, hk, rfl⟩ := listRg_ok e
  refine run_rg ⟨ad, ρ, st, R, S, _, s1, _, s, e1, e2, i, j, rfl, rfl, fun ad' H' x1 S1 => ⟨rgOk_ok hk, fun q hq => ?_⟩⟩
  have x2 : Ext X.K ad' H' ad' (upd H' q (.lst (rgV i j))) := ext_new hq
  exact w ad' _ q _ (x1.trans x2) (x1.none_of S1 hq) (S1.not_mem hq) upd_same (rg_rv i j) (S1.upd_new hq)
theorem run_rg1 {σ : L2.St} {ga : GE} {QR : Int → Int → Hp → Prop} (w : tRg2 (TD K Tb (gC (.int 0))) (TD K Tb ga) σ H QR) : tRg1 (TD K Tb ga) σ H QR := by
  obtain ⟨ad, ρ, st, R, S, w⟩ := w
  obtain ⟨ad', ρ', st', R', S', w⟩ := w ad H (.int 0) Ext.refl (.int 0) S
  refine ⟨ad', ρ', st', R', S', ?_⟩
  cases e : ga ρ' st' with
  | ok d s =>
    rw [e] at w
    intro ad2 H2 y x2 r2 S2
    obtain ⟨i, j, h1, h2, w⟩ := w ad2 H2 y x2 r2 S2
    cases h1
    exact ⟨j, h2, w⟩
  | stuck => rw [e] at w; exact w
  | exc _ _ _ => rw [e] at w; exact w
theorem dl_listRg1 {x y : Str} {p2 pos2 : Pos} (hx : x = "list") (hy : y = "range") (hm : X.mg x = none) (hmy : X.mg y = none) (ha : PE X a (TD X.K Tb ga)) (hc : X.calm = true := by rfl) (hg : Gl X x := by rfl) (hgy : Gl X y := by rfl) (hs : starEach [a] X.env = (false, eval a X.env) :: starEach [] X.env := by rfl)
    (na : starEach [.Call (.Name y p2) [a] [] pos2] X.env = (false, eval (.Call (.Name y p2) [a] [] pos2) X.env) :: starEach [] X.env := by rfl) :
    PE X (.Call (.Name x p) [.Call (.Name y p2) [a] [] pos2] [] pos) (TL X.K Tb (gListRg (gC (.int 0)) ga)) := by
  subst hx hy
  refine PE.of (pe_listRg hc hg hm (prg_1 hgy hmy ha hs) na) fun σ H Q ⟨ad, ρ, st, R, S, w⟩ => ?_
  obtain ⟨ds, s, e⟩ := ok_postL w
  rw [e] at w
  obtain ⟨d, s1, d2, e1, e2, i, j, rfl, rfl, hk, rfl⟩ := listRg_ok e
  refine run_rg1 (run_rg ⟨ad, ρ, st, R, S, _, s1, _, s, e1, e2, i, j, rfl, rfl, fun ad' H' x1 S1 => ⟨rgOk_ok hk, fun q hq => ?_⟩⟩)
  have x2 : Ext X.K ad' H' ad' (upd H' q (.lst (rgV i j))) := ext_new hq
  exact w ad' _ q _ (x1.trans x2) (x1.none_of S1 hq) (S1.not_mem hq) upd_same (rg_rv i j) (S1.upd_new hq)
theorem d_tupRg2 {x y : Str} {p2 pos2 : Pos} (hx : x = "tuple") (hy : y = "range") (hm : X.mg x = none) (hmy : X.mg y = none) (ha : PE X a (TD X.K Tb ga)) (hb : PE X b (TD X.K Tb gb)) (hc : X.calm = true := by rfl) (hg : Gl X x := by rfl) (hgy : Gl X y := by rfl) (hs : starEach [a, b] X.env = (false, eval a X.env) :: starEach [b] X.env := by rfl) (hs2 : starEach [b] X.env = (false, eval b X.env) :: starEach [] X.env := by rfl)
    (na : starEach [.Call (.Name y p2) [a, b] [] pos2] X.env = (false, eval (.Call (.Name y p2) [a, b] [] pos2) X.env) :: starEach [] X.env := by rfl) :
    PE X (.Call (.Name x p) [.Call (.Name y p2) [a, b] [] pos2] [] pos) (TD X.K Tb (gTupRg2 ga gb)) := by
  subst hx hy
  refine PE.of (pe_tupRg hc hg hm (prg_2 hgy hmy ha hb hs hs2 (by rw [hs2]; rfl)) na) fun σ H Q ⟨ad, ρ, st, R, S, w⟩ => ?_
  obtain ⟨ds, s, e, w⟩ := w.bind
  obtain ⟨d, s1, d2, e1, e2, i, j, rfl, rfl, hk, rfl⟩ := listRg_ok e
  refine run_rg ⟨ad, ρ, st, R, S, _, s1, _, s, e1, e2, i, j, rfl, rfl, fun ad' H' x1 S1 => ⟨rgOk_ok hk, fun q hq => ?_⟩⟩
  exact PostD.newTup S1 (rg_rv i j) (w.shift x1) q hq
end
end DL
/-! A dict walked by a comprehension; while; methods of lists. -/
namespace DL
open PySem L2
section
variable {X : Cx} {K : PySem.W.Frag} {Tb : List (Addr × Str)} {ad ad' : List Addr} {H H' : Hp} {st : Store} {tg a b c e o f elt : Expr} {ga gb gc g go gi ge : GE} {gs : GA} {gg : GG} {gt : GT} {pos p apos cpos : Pos}
theorem RC.tupm (k : (∀ a xs, SqT K H a xs → SqT K H' a xs) ∧ (∀ a xs, SqC K H a xs → SqC K H' a xs) ∧ ∀ a j, j ≠ 2 → kindH (H a) = j → kindH (H' a) = j) (kx : ∀ a us, H a = some (.xd us) → H' a = some (.xd us)) {q : Addr} (hq : H' q = H q) {c : Cell} (h : RC K ad H q c) : RC K ad H' q c := by
  cases c with
  | lst ds => obtain ⟨xs, h1, h2⟩ := h; exact ⟨xs, by rw [hq]; exact h1, h2.tupm k⟩
  | dct lk kvs =>
    obtain ⟨us, h1, h2⟩ := h
    refine ⟨us, ?_, h2.tupm k⟩
    cases lk with
    | false => show H' q = _; rw [hq]; exact h1
    | true => obtain ⟨o, h1⟩ := h1; exact ⟨o, by rw [hq]; exact h1⟩
  | oth u => exact OthOk.tupm k kx hq h
/-- a thing of the store is put in the place of what stood there -/
theorem RS.putC {n : Nat} {c0 c1 : Cell} {a : Addr} {o : HO} (S : RS K Tb ad H st) (h : st[n]? = some c0) (ha : ad[n]? = some a)
    (k : (∀ b xs, SqT K H b xs → SqT K (upd H a o) b xs) ∧ (∀ b xs, SqC K H b xs → SqC K (upd H a o) b xs) ∧ ∀ b j, j ≠ 2 → kindH (H b) = j → kindH (upd H a o b) = j) (r : RC K ad (upd H a o) a c1) (hw : Wri c0 := by trivial) : RS K Tb ad (upd H a o) (st.set n c1) := by
  have hk := (S.cell n _ a h ha).kind hw
  refine ⟨by rw [S.len]; simp, S.nd, fun m c b h2 h3 => ?_, tabs_keep S.tabs fun b u q nl => by rw [upd_ne (fun z : b = a => hk (by rw [← z, q]; exact nl))]; exact q⟩
  by_cases hmn : m = n
  · subst hmn
    rw [ha] at h3; cases h3
    have hl := (List.getElem?_eq_some_iff.mp h).1
    rw [List.getElem?_set_self hl] at h2
    cases h2
    exact r
  · rw [List.getElem?_set_ne (Ne.symm hmn)] at h2
    have nb : b ≠ a := fun z => hmn (nodup_ixA S.nd h3 (by rw [z]; exact ha))
    exact (S.cell m c b h2 h3).tupm k (fun b us z => by rw [upd_ne (fun w : b = a => hk (by rw [← w, z]; rfl))]; exact z) (upd_ne nb)
theorem keep_kind {p : Addr} {o : HO} (hk : kindH (H p) ≠ 2) (ho : kindH (some o) = kindH (H p)) : (∀ b xs, SqT K H b xs → SqT K (upd H p o) b xs) ∧ (∀ b xs, SqC K H b xs → SqC K (upd H p o) b xs) ∧ ∀ b j, j ≠ 2 → kindH (H b) = j → kindH (upd H p o b) = j :=
  ⟨fun b xs z => sqT_upd (kind_notup hk) z, fun b xs z => sqC_upd (kind_nofrz hk) z, fun b j _ z => by
    by_cases hb : b = p
    · rw [hb] at z ⊢; rw [upd_same, ho]; exact z
    · rw [upd_ne hb]; exact z⟩
theorem RKs.inj {us us' : List (Key × V)} : us = us' → True := fun _ => trivial
theorem di_keysLk {i : Nat} {x : Str} (hN : X.N[i]? = some x := by rfl) (hv : Vis X.env.scope x := by first | exact Or.inl rfl | exact Or.inr (Or.inl rfl) | exact Or.inr (Or.inr rfl)) (hd : (x == ("__debug__" : Str)) = false := by decide)
    (hcd : (x == ("__classdict__" : Str)) = false := by decide) : PI X tg (.Name x pos) (TIt X.K Tb (wKeysLk i)) := by
  refine PI.of (pi_keys (pe_var (i := i) hN hv hd hcd)) fun σ H R' ⟨ad, ρ, st, R, S, w⟩ => ?_
  unfold wKeysLk at w
  cases e : ρ[i]? with
  | none => rw [e] at w; exact w.elim
  | some od =>
    cases od with
    | none => rw [e] at w; exact w.elim
    | some d =>
      obtain ⟨v, h1, h2⟩ := R.2 i d e
      cases h2 with
      | @dr n q ha hk =>
        simp only [e] at w
        cases e5 : st[n]? with
        | none => simp only [e5] at w; exact w.elim
        | some cl =>
          cases cl with
          | lst _ => simp only [e5] at w; exact w.elim
          | oth _ => simp only [e5] at w; exact w.elim
          | dct lk kvs =>
            cases lk with
            | false => simp only [e5] at w; exact w.elim
            | true =>
              simp only [e5] at w
              obtain ⟨us, ⟨o, g1⟩, g2⟩ := S.cell n _ q e5 ha
              refine ⟨_, h1, q, o, rfl, .inl ⟨us, g1, w ad H _ Ext.refl S ?_⟩⟩
              intro ad1 H1 st1 x1 S1 hgd i
              have g3 := x1.frz _ _ _ g1
              have hkr := keys_rv g2
              refine ⟨fun d hd => ?_, fun hi => ⟨g3, ?_⟩⟩
              · obtain ⟨v, hv1, hv2⟩ := hkr.get hd
                have hlt : i < us.length := by
                  have := (List.getElem?_eq_some_iff.mp hv1).1
                  simpa using this
                refine ⟨⟨g3, hlt⟩, fun y H2 hy => ?_⟩
                obtain ⟨rfl, kk, vv, hkv, rfl⟩ := hy
                rw [List.getElem?_map, hkv] at hv1
                cases hv1
                exact ⟨ad1, .refl, hv2.mono x1, S1⟩
              · have := hkr.length
                rw [List.length_map] at this
                have hi : (keysOf kvs).length ≤ i := hi
                omega
      | _ => simp only [e] at w; exact w.elim
variable {scope : Scope} {own : List (Str × Nat)} {ifs : List Expr} {is : List Nat}
theorem run_lcK {i : Nat} {vs : List Nat} (hsub : ∀ j, j ∈ is → j ∈ vs) {σ : L2.St} {Q : VK} (ww : TL K Tb (gLcK i gg gt ge vs) σ H Q) : tLockE (tLc (TIt K Tb (wKeysLk i)) (TGt K Tb is gg) (TB K Tb gt) (TD K Tb ge) vs) σ H Q := by
    obtain ⟨ad, ρ, st, R, S, w⟩ := ww
    unfold gLcK at w
    cases e : ρ[i]? with
    | none => rw [e] at w; exact w.elim
    | some od =>
      cases od with
      | none => rw [e] at w; exact w.elim
      | some d =>
        obtain ⟨v, h1, h2⟩ := R.2 i d e
        simp only [e] at w
        cases h2 with
        | @dr n q ha hk =>
          unfold lockC at w
          simp only at w
          cases e5 : st[n]? with
          | none => simp only [e5] at w; exact w.elim
          | some cl =>
            cases cl with
            | lst _ => simp only [e5] at w; exact w.elim
            | oth _ => simp only [e5] at w; exact w.elim
            | dct lk kvs =>
              cases lk with
              | true => simp only [e5] at w; exact w.elim
              | false =>
                simp only [e5] at w
                obtain ⟨us, g1, g2⟩ := S.cell n _ q e5 ha
                have g1 : H q = some (.dK us) := g1
                refine ⟨q, .dK us, g1, ?_, fun od => ?_⟩
                · trivial
                have kk := keep_kind (K := K) (H := H) (p := q) (o := .frz od (.dK us)) (by rw [g1]; show (1 : Nat) ≠ 2; decide) (by rw [g1]; rfl)
                have x1 : Ext K ad H ad (upd H q (.frz od (.dK us))) := ⟨⟨[], by simp⟩, kk.1, kk.2.1, fun b o' hb _ nb => by rw [upd_ne (fun z : b = q => nb (by rw [z]; exact List.mem_of_getElem? ha))]; exact hb,
                  fun b hb => (kk.2.2 b _ hb rfl), fun b o' u hb => by rw [upd_ne (fun z : b = q => by rw [z, g1] at hb; cases hb)]; exact hb, fun b us' hb => by rw [upd_ne (fun z : b = q => by rw [z, g1] at hb; cases hb)]; exact hb⟩
                have S1 : RS K Tb ad (upd H q (.frz od (.dK us))) (st.set n (.dct true kvs)) := S.putC e5 ha kk ⟨us, ⟨od, upd_same⟩, g2.mono x1⟩
                refine run_lc hsub ⟨ad, ρ, st.set n (.dct true kvs), R.mono x1, S1, ?_⟩
                have hlt := (List.getElem?_eq_some_iff.mp e5).1
                have hgi : wKeysLk i ρ (st.set n (.dct true kvs)) = .ok ⟨keysOf kvs, fun st' => st'[n]? = some (.dct true kvs)⟩ (st.set n (.dct true kvs)) := by
                  unfold wKeysLk
                  rw [e]
                  simp only [List.getElem?_set_self hlt]
                have hlc : gLc (wKeysLk i) gg gt ge vs ρ (st.set n (.dct true kvs)) = andThen (gComp (fun st' => st'[n]? = some (.dct true kvs)) gg gt ge (wipeE ρ vs) (keysOf kvs)) small (st.set n (.dct true kvs)) := by
                  unfold gLc
                  conv => lhs; unfold andThen
                  rw [hgi]
                  rfl
                rw [hlc]
                cases e7 : andThen (gComp (fun st' => st'[n]? = some (.dct true kvs)) gg gt ge (wipeE ρ vs) (keysOf kvs)) small (st.set n (.dct true kvs)) with
                | stuck => rw [e7] at w; exact w.elim
                | exc _ _ _ => rw [e7] at w; exact w.elim
                | ok ds st2 =>
                  rw [e7] at w
                  simp only at w
                  cases e8 : st2[n]? with
                  | none => simp only [e8] at w; exact w.elim
                  | some cl2 =>
                    cases cl2 with
                    | lst _ => simp only [e8] at w; exact w.elim
                    | oth _ => simp only [e8] at w; exact w.elim
                    | dct lk2 kvs2 =>
                      cases lk2 with
                      | false => simp only [e8] at w; exact w.elim
                      | true =>
                        simp only [e8] at w
                        intro ad2 H2 p xs x2 hp np hl r2 S2
                        have g5 : H2 q = some (.frz od (.dK us)) := x2.frz _ _ _ upd_same
                        refine ⟨g5, ?_⟩
                        have ha2 := x2.at ha
                        have k2 := keep_kind (K := K) (H := H2) (p := q) (o := .dK us) (by rw [g5]; show (1 : Nat) ≠ 2; decide) (by rw [g5]; rfl)
                        obtain ⟨us2, ⟨o2, g6⟩, g7⟩ := S2.cell n _ q e8 ha2
                        rw [g5] at g6
                        cases g6
                        have hpq : p ≠ q := fun z => by
                          obtain ⟨ps, z2⟩ := hp _ (by rw [z]; exact upd_same)
                          cases z2
                        refine w ad2 _ p xs ⟨?_, ?_, ?_, ?_, ?_, ?_, ?_⟩ (fun o' hz => hp o' (by rw [upd_ne hpq]; exact hz)) np (by rw [upd_ne hpq]; exact hl) (r2.tupm k2) (S2.putC e8 ha2 k2 ⟨us, by show upd _ _ _ _ = _; rw [upd_same], g7.tupm k2⟩)
                        · obtain ⟨m, hm, fm⟩ := x2.more
                          refine ⟨m, hm, fun b hb => ⟨fun o' hz => ?_, (fm b hb).2⟩⟩
                          have nb : b ≠ q := fun z => (fm b hb).2 (by rw [z]; exact List.mem_of_getElem? ha)
                          exact (fm b hb).1 o' (by rw [upd_ne nb]; exact hz)
                        · exact fun b ys hz => k2.1 b ys (x2.tup b ys (x1.tup b ys hz))
                        · exact fun b ys hz => k2.2.1 b ys (x2.cls b ys (x1.cls b ys hz))
                        · intro b o' hz nt nb
                          have nbq : b ≠ q := fun z => nb (by rw [z]; exact List.mem_of_getElem? ha)
                          rw [upd_ne nbq]
                          exact x2.oth b o' (by rw [upd_ne nbq]; exact hz) nt nb
                        · intro b hb
                          refine k2.2.2 b _ hb ?_
                          have h3 := x1.knd b hb
                          rw [x2.knd b (by rw [h3]; exact hb), h3]
                        · intro b o' u hz
                          have nbq : b ≠ q := fun z => by rw [z, g1] at hz; cases hz
                          rw [upd_ne nbq]
                          exact x2.frz b o' u (by rw [upd_ne nbq]; exact hz)
                        · intro b us' hz
                          have nbq : b ≠ q := fun z => by rw [z, g1] at hz; cases hz
                          rw [upd_ne nbq]
                          exact x2.xds b us' (by rw [upd_ne nbq]; exact hz)
        | _ => exact w.elim
/-- [.. for x in d ..], d a dict in a name -/
theorem dl_compK {i : Nat} {x : Str} {np : Pos} (hN : X.N.Nodup) (ok : BlkOk X.N X.env.scope scope own)
    (hg : ∀ (s : Shared) (H : Hp) (C : Addr) (cl : List (Str × Addr)) (fp : List Addr), PG (X.blk s H scope (compEnvC scope cl C X.env) fp) tg (TGt X.K Tb is gg))
    (ht : ∀ (s : Shared) (H : Hp) (C : Addr) (cl : List (Str × Addr)) (fp : List Addr), PTs (X.blk s H scope (compEnvC scope cl C X.env) fp) ifs (TB X.K Tb gt))
    (he : ∀ (s : Shared) (H : Hp) (C : Addr) (cl : List (Str × Addr)) (fp : List Addr), PE (X.blk s H scope (compEnvC scope cl C X.env) fp) elt (TD X.K Tb ge))
    (hsub : ∀ j, j ∈ is → j ∈ own.map (·.2)) (hNx : X.N[i]? = some x := by rfl) (hv : Vis X.env.scope x := by first | exact Or.inl rfl | exact Or.inr (Or.inl rfl) | exact Or.inr (Or.inr rfl)) (hd : (x == ("__debug__" : Str)) = false := by decide)
    (hcd : (x == ("__classdict__" : Str)) = false := by decide) (hc : X.calm = true := by rfl) (hs : ∀ y, foldedSetIterable (.Name x np) X.env y = pure y := by intro _; rfl) :
    PE X (.ListComp elt [⟨tg, .Name x np, ifs, 0⟩] scope pos) (TL X.K Tb (gLcK i gg gt ge (own.map (·.2)))) :=
  PE.of (pe_lock (pe_lc hc hN (di_keysLk (i := i) hNx hv hd hcd) ok hg ht he hs)) fun σ H Q w => run_lcK hsub w
/-- y = [.. for x in d ..] -/
theorem s_setLcK {i iy : Nat} {x y : Str} {np py spos : Pos} (hN : X.N.Nodup) (ok : BlkOk X.N X.env.scope scope own)
    (hg : ∀ (s : Shared) (H : Hp) (C : Addr) (cl : List (Str × Addr)) (fp : List Addr), PG (X.blk s H scope (compEnvC scope cl C X.env) fp) tg (TGt X.K Tb is gg))
    (ht : ∀ (s : Shared) (H : Hp) (C : Addr) (cl : List (Str × Addr)) (fp : List Addr), PTs (X.blk s H scope (compEnvC scope cl C X.env) fp) ifs (TB X.K Tb gt))
    (he : ∀ (s : Shared) (H : Hp) (C : Addr) (cl : List (Str × Addr)) (fp : List Addr), PE (X.blk s H scope (compEnvC scope cl C X.env) fp) elt (TD X.K Tb ge))
    (hsub : ∀ j, j ∈ is → j ∈ own.map (·.2)) (hsw : swapsWith (.ListComp elt [⟨tg, .Name x np, ifs, 0⟩] scope pos) (some (.Name y py)) spos.line X.env = pure true) (hyl : X.env.scope.names.lookup y = some .local := by rfl) (hy : X.N[iy]? = some y := by rfl)
    (hNx : X.N[i]? = some x := by rfl) (hv : Vis X.env.scope x := by first | exact Or.inl rfl | exact Or.inr (Or.inl rfl) | exact Or.inr (Or.inr rfl)) (hd : (x == ("__debug__" : Str)) = false := by decide)
    (hcd : (x == ("__classdict__" : Str)) = false := by decide) (hc : X.calm = true := by rfl) (hs : ∀ y, foldedSetIterable (.Name x np) X.env y = pure y := by intro _; rfl) :
    PS X (.Assign [.Name y py] (.ListComp elt [⟨tg, .Name x np, ifs, 0⟩] scope pos) spos) (TS' X.K Tb (gAsg (gNew (gLcK i gg gt ge (own.map (·.2)))) (gName iy))) :=
  PS.of (ps_lock (ps_setLc hc hN hy hyl hsw (di_keysLk (i := i) hNx hv hd hcd) ok hg ht he hs)) fun D σ H ⟨ad, ρ, st, R, S, w⟩ => by
    obtain ⟨d, s1, e1, w1⟩ := w.bind
    obtain ⟨ds, s0, e0, e2⟩ := andThen_ok e1
    unfold newList at e2
    injection e2 with e3 e4
    subst e3 e4
    have h := run_lcK (K := X.K) (Tb := Tb) (i := i) hsub (Q := fun v H' => D.nx (σ.set iy (some v)) H') (σ := σ) (H := H) (gg := gg) (gt := gt) (ge := ge) ⟨ad, ρ, st, R, S, by
      rw [e0]
      intro ad1 H1 q xs x1 hq np hl r1 S1
      refine w1 (ad1 ++ [q]) H1 _ (x1.push hq S) ((R.mono (x1.push hq S)).set iy (.rf ?_ (by rw [hl]; rfl))) (S1.push hl np r1)
      rw [← S1.len]
      simp⟩
    obtain ⟨d, u, h1, h2, h3⟩ := h
    exact ⟨d, u, h1, h2, fun od => h3 od⟩
end
end DL
/-! while; methods of lists. -/
namespace DL
open PySem L2
section
variable {X : Cx} {K : PySem.W.Frag} {Tb : List (Addr × Str)} {ad ad' : List Addr} {H H' : Hp} {st : Store} {tg a b c e o f elt : Expr} {ga gb gc g go gi ge : GE} {gs : GA} {gt : GT} {gb' : GS} {body : List Stmt} {pos p apos cpos : Pos}
theorem s_while (hc : PT X c (TB X.K Tb gt)) (hb : PSs X body (TS' X.K Tb gb')) (hp : PassesOwn (model X.prog X.w) X.A X.env X.xe := by exact PassesOwn.never) : PS X (.While c body [] pos) (TS' X.K Tb (gWhile gt gb')) :=
  PS.of (ps_while hp hc hb) fun D σ H ⟨ad, ρ, st, R, S, w⟩ => by
    refine ⟨fun m σ' H' => ∃ ad2 ρ2 st2, Ext X.K ad H ad2 H' ∧ RE X.K ad2 H' σ' ρ2 ∧ RS X.K Tb ad2 H' st2 ∧ PostS X.K Tb ad H D (gWhileN gt gb' m ρ2 st2), ⟨100000, ad, ρ, st, .refl, R, S, w⟩, ?_⟩
    rintro m σ1 H1 ⟨ad1, ρ1, st1, x1, R1, S1, w1⟩
    cases m with
    | zero => exact w1.elim
    | succ m =>
      unfold gWhileN at w1
      obtain ⟨k, s2, e2, w2⟩ := PostS.bind w1
      refine ⟨ad1, ρ1, st1, R1, S1, ?_⟩
      rw [e2]
      intro ad2 H2 x2 S2
      cases k with
      | false =>
        rw [if_neg Bool.false_ne_true]
        rw [if_neg Bool.false_ne_true] at w2
        exact w2 ad2 H2 σ1 (x1.trans x2) (R1.mono x2) S2
      | true =>
        rw [if_pos rfl]
        rw [if_pos rfl] at w2
        refine ⟨fun σ' H' => ∃ ad3 ρ3 st3, Ext X.K ad H ad3 H' ∧ RE X.K ad3 H' σ' ρ3 ∧ RS X.K Tb ad3 H' st3 ∧ PostS X.K Tb ad H D (gWhileN gt gb' m ρ3 st3), fun σ' H' h => ⟨m, Nat.lt_succ_self m, h⟩, ?_⟩
        obtain ⟨fl, s3, e3, w3⟩ := PostS.bind w2
        refine ⟨ad2, ρ1, s2, R1.mono x2, S2, ?_⟩
        rw [e3]
        have x12 := x1.trans x2
        cases fl with
        | nx ρ3 => exact fun ad3 H3 σ3 x3 R3 S3 => ⟨ad3, ρ3, s3, x12.trans x3, R3, S3, w3⟩
        | ct ρ3 => exact fun ad3 H3 σ3 x3 R3 S3 => ⟨ad3, ρ3, s3, x12.trans x3, R3, S3, w3⟩
        | bk ρ3 => exact fun ad3 H3 σ3 x3 R3 S3 => w3 ad3 H3 σ3 (x12.trans x3) R3 S3
        | rt d => exact fun ad3 H3 v x3 r3 S3 => w3 ad3 H3 v (x12.trans x3) r3 S3
theorem lst_of {n : Nat} {q : Addr} (S : RS K Tb ad H st) (h : ad[n]? = some q) (hk : kindH (H q) = 0) : ∃ xs, SqL K H q xs := by
  have hl : n < st.length := by rw [← S.len]; exact (List.getElem?_eq_some_iff.mp h).1
  have hc := S.cell n _ q (List.getElem?_eq_getElem hl) h
  cases e5 : st[n] with
  | lst ds => rw [e5] at hc; obtain ⟨xs, g1, _⟩ := hc; exact ⟨xs, SqL.of g1⟩
  | dct lk kvs => rw [e5] at hc; obtain ⟨us, g1, _⟩ := hc; obtain ⟨_, _, _, g2⟩ := DctAt.at_ g1; rw [hk] at g2; cases g2
  | oth u => rw [e5] at hc; obtain ⟨_, g1, _, _, g2, _⟩ := OthOk.at_ hc; rw [g1] at hk; exact absurd hk g2
theorem RVs.erase : ∀ {vs : List V} {ds : List D} (i : Nat), RVs K ad H vs ds → RVs K ad H (vs.eraseIdx i) (ds.eraseIdx i)
  | _, _, _, .nil => .nil
  | _, _, 0, .cons _ t => t
  | _, _, i + 1, .cons h t => .cons h (RVs.erase i t)
theorem RVs.rev {vs : List V} {ds : List D} (h : RVs K ad H vs ds) : RVs K ad H vs.reverse ds.reverse := by
  have : ∀ {vs : List V} {ds : List D}, RVs K ad H vs ds → RVs K ad H vs.reverse ds.reverse := by
    intro vs ds h
    induction vs generalizing ds with
    | nil => cases h; exact .nil
    | cons v vs ih =>
      cases h with
      | cons h t =>
        rw [List.reverse_cons, List.reverse_cons]
        exact (ih t).append (.cons h .nil)
  exact this h
theorem d_popAt {m : Str} (hm : m = "pop") (ho : PE X o (TD X.K Tb go)) (he : PE X e (TD X.K Tb g)) (hbase : attributeBase o m X.env (eval o X.env) = eval o X.env := by rfl)
    (hline : (apos.endLine == cpos.line) = true := by rfl) (hs : starEach [e] X.env = (false, eval e X.env) :: starEach [] X.env := by rfl) : PE X (.Call (.Attribute o m apos) [e] [] cpos) (TD X.K Tb (gOp vPopAt go g)) := by
  subst hm
  refine PE.of (pe_bm PySem.F.plainAttrs_list PySem.F.slot_list_pop PySem.F.type_list_pop mt_popAt ho (da_cons he da_nil hs) hbase (by rw [hs]; rfl) hline hs (by rfl)) fun σ H Q ⟨ad, ρ, st, R, S, w⟩ => ?_
  obtain ⟨d, s1, e1, w1⟩ := w.bind
  refine ⟨ad, ρ, st, R, S, ?_⟩
  rw [e1]
  intro ad1 H1 x x1 r1 S1
  obtain ⟨v, s2, e2, w2⟩ := w1.bind
  have e : gCons g gNil ρ s1 = .ok [v] s2 := by unfold gCons gNil andThen; rw [e2]; rfl
  unfold vPopAt at w2
  cases r1 with
  | @rf n q h1 hk_ =>
    obtain ⟨xs0, tl⟩ := lst_of S1 h1 hk_
    refine ⟨.inl ⟨rfl, xs0, tl⟩, ad1, ρ, s1, R.mono x1, S1, ?_⟩
    rw [e]
    intro ad2 H2 vs x2 r2 S2
    cases r2 with
    | cons r3 r4 =>
      cases r4
      cases r3 with
      | int k =>
        simp only at w2
        cases e5 : s2[n]? with
        | none => simp only [e5] at w2; exact w2.elim
        | some cl =>
          cases cl with
          | dct _ _ => simp only [e5] at w2; exact w2.elim
          | oth _ => simp only [e5] at w2; exact w2.elim
          | lst ds =>
            simp only [e5] at w2
            by_cases cc : 0 ≤ k ∧ k < (ds.length : Int) ∧ smallI k = true
            · rw [if_pos cc] at w2
              have hkn : k.toNat < ds.length := by omega
              simp only [List.getElem?_eq_getElem hkn] at w2
              have h2 := x2.at h1
              obtain ⟨xs, g1, g2⟩ := S2.cell n _ q e5 h2
              obtain ⟨y, hy, ry⟩ := g2.get (List.getElem?_eq_getElem hkn)
              obtain ⟨S4, x4⟩ := S2.set (es := ds.eraseIdx k.toNat) (xs := xs.eraseIdx k.toNat) e5 h2 (g2.erase _)
              have hsm := smallI_ok cc.2.2
              have hxl := g2.length
              refine ⟨q, xs, k, k.toNat, y, rfl, rfl, g1, by omega, ?_, ?_, hy, w2 ad2 _ y ((x1.trans x2).trans x4) (ry.mono x4) S4⟩
              · omega
              · unfold seqIndex?
                rw [hxl]
                simp only
                rw [if_neg (show ¬ k < 0 by omega), if_pos (by rw [Bool.and_eq_true, decide_eq_true_eq, decide_eq_true_eq]; omega)]
            · rw [if_neg cc] at w2; exact w2.elim
      | _ => exact w2.elim
  | _ => exact w2.elim
theorem d_insert {i : Expr} {m : Str} (hm : m = "insert") (ho : PE X o (TD X.K Tb go)) (hi : PE X i (TD X.K Tb gi)) (he : PE X e (TD X.K Tb g)) (hbase : attributeBase o m X.env (eval o X.env) = eval o X.env := by rfl)
    (hline : (apos.endLine == cpos.line) = true := by rfl) (hs : starEach [i, e] X.env = (false, eval i X.env) :: starEach [e] X.env := by rfl) (hs2 : starEach [e] X.env = (false, eval e X.env) :: starEach [] X.env := by rfl) : PE X (.Call (.Attribute o m apos) [i, e] [] cpos) (TD X.K Tb (gIns go gi g)) := by
  subst hm
  refine PE.of (pe_bm PySem.F.plainAttrs_list PySem.F.slot_list_insert PySem.F.type_list_insert mt_insert ho (da_cons hi (da_cons he da_nil hs2) hs) hbase (by rw [hs, hs2]; rfl) hline hs (by rw [hs2]; rfl)) fun σ H Q ⟨ad, ρ, st, R, S, w⟩ => ?_
  obtain ⟨d, s1, e1, w1⟩ := w.bind
  refine ⟨ad, ρ, st, R, S, ?_⟩
  rw [e1]
  intro ad1 H1 x x1 r1 S1
  obtain ⟨kd, s2, e2, w2⟩ := w1.bind
  obtain ⟨v, s3, e3, w3⟩ := w2.bind
  have e : gCons gi (gCons g gNil) ρ s1 = .ok [kd, v] s3 := by unfold gCons gNil andThen; rw [e2]; simp only [e3]; rfl
  unfold vIns at w3
  cases r1 with
  | @rf n q h1 hk_ =>
    obtain ⟨xs0, tl⟩ := lst_of S1 h1 hk_
    refine ⟨.inl ⟨rfl, xs0, tl⟩, ad1, ρ, s1, R.mono x1, S1, ?_⟩
    rw [e]
    intro ad2 H2 vs x2 r2 S2
    cases r2 with
    | cons r3 r4 =>
      cases r4 with
      | cons r5 r6 =>
        cases r6
        cases r3 with
        | int k =>
          simp only at w3
          cases e5 : s3[n]? with
          | none => simp only [e5] at w3; exact w3.elim
          | some cl =>
            cases cl with
            | dct _ _ => simp only [e5] at w3; exact w3.elim
            | oth _ => simp only [e5] at w3; exact w3.elim
            | lst ds =>
              simp only [e5] at w3
              by_cases cc : (decide (0 ≤ k) && decide (k < 2 ^ 63) && decide (ds.length < SZ)) = true
              · rw [if_pos cc] at w3
                simp only [Bool.and_eq_true, decide_eq_true_eq] at cc
                have h2 := x2.at h1
                obtain ⟨xs, g1, g2⟩ := S2.cell n _ q e5 h2
                obtain ⟨S4, x4⟩ := S2.set (es := ds.take k.toNat ++ [v] ++ ds.drop k.toNat) (xs := xs.take k.toNat ++ [_] ++ xs.drop k.toNat) e5 h2 (((g2.take _).append (.cons r5 .nil)).append (g2.drop _))
                exact ⟨q, xs, k, _, rfl, rfl, g1, by rw [g2.length]; exact SZ_lt cc.2, cc.1.1, cc.1.2, w3 ad2 _ .non ((x1.trans x2).trans x4) .non S4⟩
              · rw [if_neg cc] at w3; exact w3.elim
        | _ => exact w3.elim
  | _ => exact w3.elim
theorem d_reverse {m : Str} (hm : m = "reverse") (ho : PE X o (TD X.K Tb go)) (hbase : attributeBase o m X.env (eval o X.env) = eval o X.env := by rfl)
    (hline : (apos.endLine == cpos.line) = true := by rfl) : PE X (.Call (.Attribute o m apos) [] [] cpos) (TD X.K Tb (gUn vReverse go)) := by
  subst hm
  refine PE.of (pe_bm0 PySem.F.plainAttrs_list PySem.F.slot_list_reverse PySem.F.type_list_reverse mt_reverse ho hbase hline) fun σ H Q ⟨ad, ρ, st, R, S, w⟩ => ?_
  obtain ⟨d, s1, e1, w1⟩ := w.bind
  refine ⟨ad, ρ, st, R, S, ?_⟩
  rw [e1]
  intro ad1 H1 x x1 r1 S1
  unfold vReverse at w1
  cases r1 with
  | @rf n q h1 hk_ =>
    simp only at w1
    cases e5 : s1[n]? with
    | none => simp only [e5] at w1; exact w1.elim
    | some cl =>
      cases cl with
      | dct _ _ => simp only [e5] at w1; exact w1.elim
      | oth _ => simp only [e5] at w1; exact w1.elim
      | lst ds =>
        simp only [e5] at w1
        obtain ⟨xs, g1, g2⟩ := S1.cell n _ q e5 h1
        obtain ⟨S4, x4⟩ := S1.set (es := ds.reverse) (xs := xs.reverse) e5 h1 g2.rev
        exact ⟨.inl ⟨rfl, xs, SqL.of g1⟩, q, xs, rfl, rfl, g1, w1 ad1 _ .non (x1.trans x4) .non S4⟩
  | _ => exact w1.elim
end
end DL
/-! min of three; isinstance with two kinds; the least of a list. -/
namespace DL
open PySem L2 PyProof.Rows
section
variable {X : Cx} {K : PySem.W.Frag} {Tb : List (Addr × Str)} {ad ad' : List Addr} {H H' : Hp} {st : Store} {tg a b c e o f elt : Expr} {ga gb gc g go gi ge : GE} {gs : GA} {gt : GT} {pos p apos cpos : Pos}
theorem u1 {n : Nat} {A : Around} (hr : Room n A) : A.units + 1 < cLine := by have := hr.un; omega
theorem vals3 {x y z : V} {us : List Value} (r : Vals [x, y, z] us) : ∃ u w' t, us = [u, w', t] ∧ RelV x u ∧ RelV y w' ∧ RelV z t := by
  cases r with
  | cons r1 r2 => obtain ⟨u, w, rfl, r3, r4⟩ := L2.vals2 r2; exact ⟨_, _, _, rfl, r1, r3, r4⟩
theorem call_min3 (hc : X.calm = true) : CallR X (.builtin "min") (fun xs H Q => ∃ i j k, xs = [.int i, .int j, .int k] ∧ Q (.int (min3 i j k)) H) := by
  intro pins s σ H xs us Q I r h
  obtain ⟨i, j, k, rfl, q⟩ := h
  obtain ⟨u, w', z, rfl, ⟨t, rfl⟩, ⟨t', rfl⟩, ⟨t2, rfl⟩⟩ := vals3 r
  refine PySem.min_three_ints (I.ok.hd hc) fun h' tk kk => ⟨_, H, I.kept kk, ?_, q⟩
  unfold min3
  by_cases h1 : j < i
  · rw [if_pos h1, if_pos h1]
    by_cases h2 : k < j
    · rw [if_pos h2, if_pos h2]; exact ⟨_, rfl⟩
    · rw [if_neg h2, if_neg h2]; exact ⟨_, rfl⟩
  · rw [if_neg h1, if_neg h1]
    by_cases h2 : k < i
    · rw [if_pos h2, if_pos h2]; exact ⟨_, rfl⟩
    · rw [if_neg h2, if_neg h2]; exact ⟨_, rfl⟩
theorem d_min3 {x : Str} (hx : x = "min") (hm : X.mg x = none) (ha : PE X a (TD X.K Tb ga)) (hb : PE X b (TD X.K Tb gb)) (hcc : PE X c (TD X.K Tb gc)) (hc : X.calm = true := by rfl) (hg : Gl X x := by rfl)
    (he : starEach [a, b, c] X.env = (false, eval a X.env) :: starEach [b, c] X.env := by rfl) (he2 : starEach [b, c] X.env = (false, eval b X.env) :: starEach [c] X.env := by rfl) (he3 : starEach [c] X.env = (false, eval c X.env) :: starEach [] X.env := by rfl) :
    PE X (.Call (.Name x p) [a, b, c] [] pos) (TD X.K Tb (gOp3 vMin3 ga gb gc)) := by
  subst hx
  refine PE.of (pe_callB (id := "min") (call_min3 hc) hg hm (by decide +kernel) (da_cons ha (da_cons hb (da_cons hcc da_nil he3) he2) he) (by decide) (by decide) he (by rw [he2, he3]; rfl)) fun σ H Q ⟨ad, ρ, st, R, S, w⟩ => ?_
  obtain ⟨d, s1, e1, w1⟩ := w.bind
  obtain ⟨d2, s2, e2, w2⟩ := w1.bind
  obtain ⟨d3, s3, e3, w3⟩ := w2.bind
  refine ⟨ad, ρ, st, R, S, ?_⟩
  have e : gCons ga (gCons gb (gCons gc gNil)) ρ st = .ok [d, d2, d3] s3 := by unfold gCons gNil andThen; rw [e1]; simp only [e2, e3]; rfl
  rw [e]
  intro ad1 H1 xs x1 r1 S1
  cases r1 with
  | cons r2 r3 =>
    cases r3 with
    | cons r4 r5 =>
      cases r5 with
      | cons r6 r7 =>
        cases r7
        cases r2 with
        | int i =>
          cases r4 with
          | int j =>
            cases r6 with
            | int k => exact ⟨i, j, k, rfl, w3 ad1 H1 _ x1 (.int _) S1⟩
            | _ => exact w3.elim
          | _ => exact w3.elim
        | _ => exact w3.elim
theorem kit_any2 (t u : Ty) (d : D) (nc : Plain d) : PySem.W.kitAny K (.type (clsName d)) [.type (tyName t), .type (tyName u)] = some (isTy t d || isTy u d) := by
  have h1 := kit_ty (K := K) (kit_is t d nc)
  have h2 := kit_ty (K := K) (kit_is u d nc)
  unfold PySem.W.kitAny
  rw [h1]
  cases e : isTy t d with
  | true => rfl
  | false =>
    simp only
    unfold PySem.W.kitAny
    rw [h2]
    cases e2 : isTy u d <;> rfl
theorem d_isi2 (t1 t2 : Ty) {x y z : Str} {p3 p4 tpos : Pos} {k : Nat} (hx : x = "isinstance") (hy : y = Str.ofString (tyName t1)) (hz : z = Str.ofString (tyName t2)) (hm : X.mg x = none) (hmy : X.mg y = none) (hmz : X.mg z = none) (ha : PE X a (TD X.K Tb ga)) (hg : Gl X x := by rfl) (hgy : Gl X y := by rfl) (hgz : Gl X z := by rfl)
    (he : starEach [a, .Tuple [.Name y p3, .Name z p4] k tpos] X.env = (false, eval a X.env) :: starEach [.Tuple [.Name y p3, .Name z p4] k tpos] X.env := by rfl) (he2 : starEach [.Tuple [.Name y p3, .Name z p4] k tpos] X.env = (false, eval (.Tuple [.Name y p3, .Name z p4] k tpos) X.env) :: starEach [] X.env := by rfl)
    (he3 : starEach [.Name y p3, .Name z p4] X.env = (false, eval (.Name y p3) X.env) :: starEach [.Name z p4] X.env := by rfl) (he4 : starEach [.Name z p4] X.env = (false, eval (.Name z p4) X.env) :: starEach [] X.env := by rfl) :
    PE X (.Call (.Name x p) [a, .Tuple [.Name y p3, .Name z p4] k tpos] [] pos) (TD X.K Tb (gUn (vIsi2 t1 t2) ga)) := by
  subst hx hy hz
  have h1 : PE X (.Name (Str.ofString (tyName t1)) p3) (tC (.ty (tyName t1))) := pe_bltn (v := .ty (tyName t1)) hgy hmy (u := .type (tyName t1)) (by cases t1 <;> decide +kernel) rfl (by cases t1 <;> decide) (by cases t1 <;> decide)
  have h2 : PE X (.Name (Str.ofString (tyName t2)) p4) (tC (.ty (tyName t2))) := pe_bltn (v := .ty (tyName t2)) hgz hmz (u := .type (tyName t2)) (by cases t2 <;> decide +kernel) rfl (by cases t2 <;> decide) (by cases t2 <;> decide)
  have ht : PE X (.Tuple [.Name (Str.ofString (tyName t1)) p3, .Name (Str.ofString (tyName t2)) p4] k tpos) (tTup (tCons (tC (.ty (tyName t1))) (tCons (tC (.ty (tyName t2))) tNil))) := pe_tup (pa_cons h1 (pa_cons h2 pa_nil he4) he3)
  refine PE.of (pe_callB (id := "isinstance") call_isiT hg hm (by decide +kernel) (pa_cons ha (pa_cons ht pa_nil he2) he) (by decide) (by decide) he (by rw [he2]; rfl)) fun σ H Q ⟨ad, ρ, st, R, S, w⟩ => ?_
  obtain ⟨d, s1, e1, w1⟩ := w.bind
  refine ⟨ad, ρ, st, R, S, ?_⟩
  rw [e1]
  intro ad1 H1 v x1 r1 S1
  have nc : Plain d := ⟨fun ds z => by subst z; exact w1.elim, fun ds z => by subst z; exact w1.elim, fun ds z => by subst z; exact w1.elim⟩
  have fin : (∃ s2, vIsi2 t1 t2 d s1 = .ok (.bl (isTy t1 d || isTy t2 d)) s2 ∧ s2 = s1) ∧ ∀ n q, d = .rf n → ad1[n]? = some q → ∃ xs, SqL X.K H1 q xs := by
    cases d with
    | rf n =>
      unfold vIsi2 at w1 ⊢
      simp only at w1 ⊢
      cases e : cellItems s1 n with
      | none => simp only [e] at w1; exact w1.elim
      | some ds =>
        refine ⟨⟨s1, rfl, rfl⟩, fun m q hm hq => ?_⟩
        cases hm
        obtain ⟨xs, g1, _⟩ := S1.items e hq
        exact ⟨xs, g1⟩
    | cl ds => exact absurd rfl (nc.1 ds)
    | dr ds => exact absurd rfl (nc.2.1 ds)
    | ob ds => exact absurd rfl (nc.2.2 ds)
    | _ => exact ⟨⟨s1, rfl, rfl⟩, fun _ _ z => nomatch z⟩
  obtain ⟨⟨s2, e2, rfl⟩, hl⟩ := fin
  rw [e2] at w1
  refine ⟨by show 2 ≤ sizeLine; rw [sizeLine_eq]; omega, fun T hT => ?_⟩
  have x2 : Ext X.K ad1 H1 ad1 (upd H1 T (.tup [.ty (tyName t1), .ty (tyName t2)])) := ext_new hT
  refine ⟨v, T, [.ty (tyName t1), .ty (tyName t2)], .type (clsName d), [.type (tyName t1), .type (tyName t2)], (isTy t1 d || isTy t2 d), rfl, upd_same, .cons (.ty _) (.cons (.ty _) .nil), ?_, kit_any2 t1 t2 d nc, w1 ad1 _ _ (x1.trans x2) (.bl _) (S1.upd_new hT)⟩
  refine tyX_of (r1.mono x2) nc fun n q hn hq => ?_
  obtain ⟨xs, g⟩ := hl n q hn hq
  refine ⟨xs, ?_⟩
  rcases g with (g | ⟨o, g⟩) | g
  · exact .inl (.inl (by rw [upd_ne (ne_of_none g hT)]; exact g))
  · exact .inl (.inr ⟨o, by rw [upd_ne (ne_of_none g hT)]; exact g⟩)
  · exact .inr g
end
end DL
/-! defs with a star parameter; index; the least of a list. -/
namespace DL
open PySem L2 PySem.W PySem.Calls PyProof.Rows
section
variable {M : Model} {A : Around} {E : Value → Shared → Prop} {s : Shared} {K : Frag} {env : PySem.Env} {pos p : Pos} {f : Value} {first : List Value} {Q : Value → Shared → Prop} {h₀ : Heap} {e e2 : Expr} {rest : List Expr}
theorem evalArgs_two {f : Value} {x : Sem Value} {y : Bool × Sem Value} {rest : List (Bool × Sem Value)} {Q : Args → Shared → Prop}
    (h : wpAny M A (spliced ((true, x) :: y :: rest)) (fun vs s' => Q ⟨vs, []⟩ s') E s) : wpAny M A (evalArgs f true ((true, x) :: y :: rest) []) Q E s := by
  unfold evalArgs
  show wpAny M A (spliced ((true, x) :: y :: rest) >>= _) Q E s
  refine wpAny_bind (wpAny_mono h (fun vs s' h' => ?_) fun _ _ x => x)
  refine wpAny_holding ?_
  exact wpAny_bind (wpAny_pure (wpAny_bind (wpAny_pure (wpAny_pure h'))))
end
section
variable {X : Cx} {CX : CXT} {k : Nat} {f : Addr} {sp : Sp} {E : XK} {x : Str} {e e1 e2 : Expr} {es : List Expr} {t : TA} {p sp_ pos : Pos}
/-- x(e, ..), x a def of the module, by what is handed on in their order -/
theorem pe_callR (F : FnR X.prog X.w X.K X.mg X.base CX k f sp) (hr : Room k X.A) (hk : PySem.W.keepIn X.K (.ref f) = true) (hg : Gl X x) (hm : X.mg x = some (.ref f)) (hx : Passes CX X E) (ha : PA X (e :: es) t) (hd : (x == ("__debug__" : Str)) = false := by decide)
    (he : starEach (e :: es) X.env = (false, eval e X.env) :: starEach es X.env := by rfl) (hpl : (backTo pos (starEach es X.env)).any (·.1) = false := by rfl) :
    PE X (.Call (.Name x p) (e :: es) [] pos) (fun σ H Q => t σ H fun vs H1 => sp vs H1 Q E) := by
  refine ⟨fun pins s σ H Q I h => ?_⟩
  refine wpAny_Call_Name_kw (ld_glob I hg hm ?_ hd)
  refine PySem.W.callWith_K (h₀ := X.base) I.ok.mod.kin hk (thn (ha.run pos pins s σ H _ I h) fun us s1 ⟨vs, H1, I1, r, q⟩ => ⟨I1.kIn, ?_⟩) he hpl
  exact wpAny_call (run_fnR F hr hx I1 r q)
/-- x( *y, e, ..) -/
theorem pe_callS3 (F : FnR X.prog X.w X.K X.mg X.base CX k f sp) (hr : Room k X.A) (hk : PySem.W.keepIn X.K (.ref f) = true) (hg : Gl X x) (hm : X.mg x = some (.ref f)) (hx : Passes CX X E) (ha : PA X (.Starred e1 sp_ :: e2 :: es) t) (hd : (x == ("__debug__" : Str)) = false := by decide)
    (he : starEach (.Starred e1 sp_ :: e2 :: es) X.env = (true, eval e1 X.env) :: starEach (e2 :: es) X.env := by rfl) (he2 : starEach (e2 :: es) X.env = (false, eval e2 X.env) :: starEach es X.env := by rfl) :
    PE X (.Call (.Name x p) (.Starred e1 sp_ :: e2 :: es) [] pos) (fun σ H Q => t σ H fun vs H1 => sp vs H1 Q E) := by
  refine ⟨fun pins s σ H Q I h => ?_⟩
  refine wpAny_Call_Name_kw (ld_glob I hg hm ?_ hd)
  have ha' := thn (ha.run pos pins s σ H _ I h) (fun us s1 ⟨vs, H1, I1, r, q⟩ => (⟨I1.kIn, wpAny_call (run_fnR F hr hx I1 r q)⟩ : X.K.In s1.heap ∧ wpAny (model X.prog X.w) X.A (call (.ref f) ([] ++ us)) (EP X pins σ Q) X.xe s1))
  rw [he, he2] at ha' ⊢
  exact ks_call rfl (keeps_K hk) (evalArgs_two ha')
end
/-! ### star defs in the language of values -/
def spS (K : PySem.W.Frag) (Tb : List (Addr × Str)) (g : GF) : Sp := fun vs H Q _ => ∃ ad ds st, RVs K ad H vs ds ∧ RS K Tb ad H st ∧ PostD K Tb ad H Q (g ds st)
structure CalS (P : Program) (w : World) (K : PySem.W.Frag) (Tb : List (Addr × Str)) (mg : Str → Option Value) (base : Heap) (k : Nat) (x : Str) (g : GF) : Prop where
  ex : ∃ f : Addr, FnR P w K mg base CX0 k f (spS K Tb g) ∧ mg x = some (.ref f) ∧ PySem.W.keepIn K (.ref f) = true
section
variable {X : Cx} {Tb : List (Addr × Str)} {e e1 e2 : Expr} {es : List Expr} {gs : GA} {p sp_ pos : Pos} {ga ge : GE}
theorem td_calls {g : GF} {σ : L2.St} {H : Hp} {Q : VK} {E : XK} (w : TD X.K Tb (gCall g gs) σ H Q) : TAs X.K Tb gs σ H fun vs H1 => spS X.K Tb g vs H1 Q E := by
  obtain ⟨ad, ρ, st, R, S, w⟩ := w
  obtain ⟨ds, s1, e1, w1⟩ := w.bind
  refine ⟨ad, ρ, st, R, S, ?_⟩
  rw [e1]
  intro ad1 H1 vs x1 r1 S1
  exact ⟨ad1, ds, s1, r1, S1, w1.shift x1⟩
theorem d_callS {k : Nat} {x : Str} {g : GF} (C : CalS X.prog X.w X.K Tb X.mg X.base k x g) (hr : Room k X.A) (ha : PA X (e :: es) (TAs X.K Tb gs)) (hg : Gl X x := by rfl) (hdb : (x == ("__debug__" : Str)) = false := by decide)
    (he : starEach (e :: es) X.env = (false, eval e X.env) :: starEach es X.env := by rfl) (hpl : (backTo pos (starEach es X.env)).any (·.1) = false := by rfl) : PE X (.Call (.Name x p) (e :: es) [] pos) (TD X.K Tb (gCall g gs)) := by
  obtain ⟨f, F, hm, hk⟩ := C.ex
  exact PE.of (pe_callR F hr hk hg hm pass0 ha hdb he hpl) fun σ H Q w => td_calls w
theorem d_callS3 {k : Nat} {x : Str} {g : GF} (C : CalS X.prog X.w X.K Tb X.mg X.base k x g) (hr : Room k X.A) (ha : PA X (.Starred e1 sp_ :: e2 :: es) (TAs X.K Tb gs)) (hg : Gl X x := by rfl) (hdb : (x == ("__debug__" : Str)) = false := by decide)
    (he : starEach (.Starred e1 sp_ :: e2 :: es) X.env = (true, eval e1 X.env) :: starEach (e2 :: es) X.env := by rfl) (he2 : starEach (e2 :: es) X.env = (false, eval e2 X.env) :: starEach es X.env := by rfl) : PE X (.Call (.Name x p) (.Starred e1 sp_ :: e2 :: es) [] pos) (TD X.K Tb (gCall g gs)) := by
  obtain ⟨f, F, hm, hk⟩ := C.ex
  exact PE.of (pe_callS3 F hr hk hg hm pass0 ha hdb he he2) fun σ H Q w => td_calls w
end
section
variable {P : Program} {w : World} {K : PySem.W.Frag} {Tb : List (Addr × Str)} {mg : Str → Option Value} {base : Heap}
theorem fn_mkS {x qual pv : Str} {sd : Stmt} {f : Addr} {fd : FuncData} {N : List Str} {k : Nat} {b : GS} (F : L2.Fun K x qual sd f fd) (S : FnScope N [pv] (defScope sd))
    (hb : ∀ rest : List Value, bindArgs fd ⟨rest, []⟩ = (newTuple rest >>= fun t => pure [(pv, t)]))
    (body : ∀ (cdv : Value) (A : Around) (outer : List PySem.Env) (s : Shared) (H : Hp) (E : XK), Room k (A.deeper (PyProof.Rows.envOfC qual (defScope sd) s.heap.objs.size f cdv)) → PSs (cxOf CX0 P w K mg base N qual (defScope sd) f cdv A outer s H E).nox (defBody sd) (TS' K Tb b)) :
    FnR P w K mg base CX0 (k + 1) f (spS K Tb (gFnS N.length b)) := by
  obtain ⟨oc, od, kV, doc, pm, an, cdv, ct, osl, rfl, lk, hcd⟩ := F.ex
  have R : FnR P w K mg base CX0 (k + 1) f (fun vs H Q E => ∃ ws rest, vs = ws ++ rest ∧ ws.length = ([] : List Str).length ∧ rest.length ≤ sizeLine ∧ ∀ p, H p = Option.none → spD K Tb 1 (gFn 1 N.length b) (ws ++ [V.ref p]) (upd H p (.tup rest)) Q E) := by
    refine StX.fn_star (ps := []) lk hcd S StX.cxUp_none (fun us rest hl => ?_) fun A outer s H vs Q E hr h => ?_
    · cases us with
      | nil => exact hb rest
      | cons _ _ => cases hl
    · refine ⟨TS' K Tb b, (body cdv A outer s H E hr).nox, ?_⟩
      obtain ⟨hl, ad, ds, st, r, Sx, q⟩ := h
      refine ⟨ad, startE N.length ds, st, RE.start N.length N rfl r, Sx, ?_⟩
      unfold gFn at q
      rw [if_pos (by rw [← r.length]; exact hl)] at q
      obtain ⟨fl, s1, e1, q1⟩ := q.bind
      rw [e1]
      cases fl with
      | nx ρ => exact fun ad' H' σ' x _ S' => q1 ad' H' .non x .non S'
      | rt d => exact fun ad' H' v x r' S' => q1 ad' H' v x r' S'
      | bk ρ => exact q1.elim
      | ct ρ => exact q1.elim
  refine R.imp fun vs H Q E ⟨ad, ds, st, r, Sx, q⟩ => ?_
  unfold gFnS at q
  by_cases c : ds.length ≤ SZ
  · rw [if_pos c] at q
    refine ⟨[], vs, rfl, rfl, by rw [r.length]; exact Nat.le_trans c (by decide), fun p hp => ?_⟩
    exact ⟨rfl, ad, [.tup ds], st, .cons (.tup (.inl (.inl upd_same)) (r.mono (ext_new hp))) .nil, Sx.upd_new hp, q.shift (ext_new hp)⟩
  · rw [if_neg c] at q; exact q.elim
end
end DL
namespace DL
open PySem L2
theorem strsD_cons {d : D} {ds : List D} {ss : List Str} (h : strsD (d :: ds) = some ss) : ∃ s ss', d = .str s ∧ ss = s :: ss' ∧ strsD ds = some ss' := by
  cases d with
  | str s =>
    have e' : (strsD ds).map (s :: ·) = some ss := h
    cases q : strsD ds with
    | none => rw [q] at e'; cases e'
    | some ss' => rw [q] at e'; obtain rfl : s :: ss' = ss := Option.some.inj e'; exact ⟨s, ss', rfl, rfl, rfl⟩
  | _ => cases h
theorem rvs_strs {K : PySem.W.Frag} {ad : List Addr} {H : Hp} : ∀ {ds : List D} {ss : List Str} {vs : List V}, strsD ds = some ss → RVs K ad H vs ds → vs = ss.map V.str
  | [], ss, vs, h, r => by cases r; cases h; rfl
  | d :: ds, ss, vs, h, r => by
    obtain ⟨s, ss', rfl, rfl, h'⟩ := strsD_cons h
    cases r with
    | cons r1 r2 => cases r1; rw [rvs_strs h' r2]; rfl
theorem idxS_some (s : Str) : ∀ (ss : List Str) (k i : Nat), idxS s ss k = some i → ∃ j, i = k + j ∧ ss[j]? = some s ∧ ∀ m, m < j → ss[m]? ≠ some s
  | [], _, _, h => by cases h
  | x :: r, k, i, h => by
    unfold idxS at h
    by_cases c : x = s
    · rw [if_pos c] at h; cases h
      exact ⟨0, rfl, by rw [c]; rfl, fun m hm => absurd hm (by omega)⟩
    · rw [if_neg c] at h
      obtain ⟨j, rfl, h1, h2⟩ := idxS_some s r (k + 1) i h
      refine ⟨j + 1, by omega, h1, fun m hm => ?_⟩
      cases m with
      | zero => intro z; exact c (Option.some.inj z)
      | succ m => exact h2 m (by omega)
section
variable {X : Cx} {K : PySem.W.Frag} {Tb : List (Addr × Str)} {ad ad' : List Addr} {H H' : Hp} {st : Store} {a e o : Expr} {ga g go : GE} {pos p apos cpos : Pos}
theorem d_indexL {m : Str} (hm : m = "index") (ho : PE X o (TD X.K Tb go)) (he : PE X e (TD X.K Tb g)) (hbase : attributeBase o m X.env (eval o X.env) = eval o X.env := by rfl)
    (hline : (apos.endLine == cpos.line) = true := by rfl) (hs : starEach [e] X.env = (false, eval e X.env) :: starEach [] X.env := by rfl) : PE X (.Call (.Attribute o m apos) [e] [] cpos) (TD X.K Tb (gOp vIndexL go g)) := by
  subst hm
  refine PE.of (pe_bm PySem.F.plainAttrs_list PySem.F.slot_list_index PySem.F.type_list_index mt_index ho (da_cons he da_nil hs) hbase (by rw [hs]; rfl) hline hs (by rfl)) fun σ H Q ⟨ad, ρ, st, R, S, w⟩ => ?_
  obtain ⟨d, s1, e1, w1⟩ := w.bind
  refine ⟨ad, ρ, st, R, S, ?_⟩
  rw [e1]
  intro ad1 H1 x x1 r1 S1
  obtain ⟨v, s2, e2, w2⟩ := w1.bind
  have e : gCons g gNil ρ s1 = .ok [v] s2 := by unfold gCons gNil andThen; rw [e2]; rfl
  unfold vIndexL at w2
  cases r1 with
  | @rf n q h1 hk_ =>
    obtain ⟨xs0, tl⟩ := lst_of S1 h1 hk_
    refine ⟨.inl ⟨rfl, xs0, tl⟩, ad1, ρ, s1, R.mono x1, S1, ?_⟩
    rw [e]
    intro ad2 H2 vs x2 r2 S2
    cases r2 with
    | cons r3 r4 =>
      cases r4
      cases r3 with
      | str s =>
        simp only at w2
        cases e5 : cellItems s2 n with
        | none => simp only [e5] at w2; exact w2.elim
        | some ds =>
          simp only [e5] at w2
          cases e6 : strsD ds with
          | none => simp only [e6] at w2; exact w2.elim
          | some ss =>
            simp only [e6] at w2
            cases e7 : idxS s ss 0 with
            | none => simp only [e7] at w2; exact w2.elim
            | some i =>
              simp only [e7] at w2
              have h2 := x2.at h1
              obtain ⟨xs, g1, g2⟩ := S2.items e5 h2
              have hv := rvs_strs e6 g2
              subst hv
              obtain ⟨j, hj, h3, h4⟩ := idxS_some s ss 0 i e7
              obtain rfl : i = j := by omega
              refine ⟨q, ss.map V.str, .str s, i, .str s, rfl, rfl, g1, rfl, flat_strs ss, by rw [List.getElem?_map, h3]; rfl, by simp [eqV], ?_, w2 ad2 _ _ (x1.trans x2) (.int _) S2⟩
              intro m z' hm hz
              rw [List.getElem?_map] at hz
              cases e8 : ss[m]? with
              | none => rw [e8] at hz; cases hz
              | some y =>
                rw [e8] at hz; cases hz
                have : y ≠ s := fun z => h4 m hm (by rw [e8, z])
                simp [eqV, this]
      | _ => exact w2.elim
  | _ => exact w2.elim
theorem d_indexT {y m : Str} {q0 : Addr} {vs0 : List V} {ds : List D} {yp : Pos} (hy : X.mg y = some (.ref q0)) (hq : ∀ H, SqT X.K H q0 vs0) (hz : ∃ o, List.lookup q0 X.K = some o ∧ o.cls = Value.type "tuple" ∧ o.dict = Option.none) (rd : ∀ ad H, RVs X.K ad H vs0 ds) (hm : m = "index") (he : PE X e (TD X.K Tb g)) (hg : Gl X y := by rfl) (hd : (y == ("__debug__" : Str)) = false := by decide) (hbase : attributeBase (.Name y yp) m X.env (eval (.Name y yp) X.env) = eval (.Name y yp) X.env := by rfl)
    (hline : (apos.endLine == cpos.line) = true := by rfl) (hs : starEach [e] X.env = (false, eval e X.env) :: starEach [] X.env := by rfl) : PE X (.Call (.Attribute (.Name y yp) m apos) [e] [] cpos) (TD X.K Tb (gOp vIndexT (gC (.tup ds)) g)) := by
  subst hm
  refine PE.of (pe_bm PySem.F.plainAttrs_tuple PySem.F.slot_tuple_index PySem.F.type_tuple_index mt_tup_index (pe_glob (v := .ref q0) hg hy rfl hd) (da_cons he da_nil hs) hbase (by rw [hs]; rfl) hline hs (by rfl)) fun σ H Q ⟨ad, ρ, st, R, S, w⟩ => ?_
  refine ⟨.inr (.inl ⟨rfl, hz⟩), ad, ρ, st, R, S, ?_⟩
  have w1 : PostD X.K Tb ad H Q (andThen (g ρ) (fun y => vIndexT (.tup ds) y) st) := w
  obtain ⟨v, s2, e2, w2⟩ := w1.bind
  have e : gCons g gNil ρ st = .ok [v] s2 := by unfold gCons gNil andThen; rw [e2]; rfl
  unfold vIndexT at w2
  rw [e]
  intro ad2 H2 vs x2 r2 S2
  cases r2 with
  | cons r3 r4 =>
    cases r4
    cases r3 with
    | str s =>
      simp only at w2
      cases e6 : strsD ds with
      | none => simp only [e6] at w2; exact w2.elim
      | some ss =>
        simp only [e6] at w2
        cases e7 : idxS s ss 0 with
        | none => simp only [e7] at w2; exact w2.elim
        | some i =>
          simp only [e7] at w2
          have hv := rvs_strs e6 (rd ad2 H2)
          subst hv
          obtain ⟨j, hj, h3, h4⟩ := idxS_some s ss 0 i e7
          obtain rfl : i = j := by omega
          exact ⟨q0, ss, s, i, rfl, rfl, hq H2, h3, h4, w2 ad2 _ _ x2 (.int _) S2⟩
    | _ => exact w2.elim
theorem intsD_rv {ds : List D} {ns : List Int} {vs : List V} (h : intsD ds = some ns) (r : RVs K ad H vs ds) : vs = ns.map V.int := (ints_rv r h).1
theorem d_minL {x : Str} (hx : x = "min") (hm : X.mg x = none) (ha : PE X a (TD X.K Tb ga)) (hc : X.calm = true := by rfl) (hg : Gl X x := by rfl)
    (he : starEach [a] X.env = (false, eval a X.env) :: starEach [] X.env := by rfl) :
    PE X (.Call (.Name x p) [a] [] pos) (TD X.K Tb (gUn vMinL ga)) := by
  subst hx
  refine PE.of (pe_callB (id := "min") (cr_min hc) hg hm (by decide +kernel) (da_cons ha da_nil he) (by decide) (by decide) he (by rfl)) fun σ H Q ⟨ad, ρ, st, R, S, w⟩ => ?_
  obtain ⟨d, s1, e1, w1⟩ := w.bind
  refine ⟨ad, ρ, st, R, S, ?_⟩
  have e : gCons ga gNil ρ st = .ok [d] s1 := by unfold gCons gNil andThen; rw [e1]; rfl
  rw [e]
  intro ad1 H1 xs x1 r1 S1
  cases r1 with
  | cons r2 r3 =>
    cases r3
    unfold vMinL at w1
    cases r2 with
    | @rf n q h1 hk_ =>
      simp only at w1
      cases e5 : cellItems s1 n with
      | none => simp only [e5] at w1; exact w1.elim
      | some ds =>
        simp only [e5] at w1
        cases e6 : intsD ds with
        | none => simp only [e6] at w1; exact w1.elim
        | some ns =>
          simp only [e6] at w1
          by_cases c : ns = []
          · rw [if_pos c] at w1; exact w1.elim
          · rw [if_neg c] at w1
            obtain ⟨vs, g1, g2⟩ := S1.items e5 h1
            have hv := intsD_rv e6 g2
            subst hv
            refine ⟨q, ns, rfl, g1, List.length_pos_iff.mpr c, fun m h2 h3 => ?_⟩
            rw [← leastZ_eq h2 h3]
            exact w1 ad1 _ _ x1 (.int _) S1
    | _ => exact w1.elim
end
end DL
namespace DL
open PySem L2
section
variable {X : Cx} {Tb : List (Addr × Str)} {a b : Expr} {ga gb : GE}
theorem s_par (i j : Nat) {x y : Str} {px py pt pos pt2 : Pos} {kt k2 : Nat} (ha : PE X a (TD X.K Tb ga)) (hb : PE X b (TD X.K Tb gb)) (hN : X.N.Nodup) (hw : swappedStores [.Tuple [.Name x px, .Name y py] kt pt] (.Tuple [a, b] k2 pt2) X.env = pure (some [x, y]))
    (hij : i ≠ j) (hc : X.calm = true := by rfl) (hi : X.N[i]? = some x := by rfl) (hj : X.N[j]? = some y := by rfl) (hx : X.env.scope.names.lookup x = some .local := by rfl) (hy : X.env.scope.names.lookup y = some .local := by rfl)
    (he : starEach [a, b] X.env = (false, eval a X.env) :: starEach [b] X.env := by rfl) (he2 : starEach [b] X.env = (false, eval b X.env) :: starEach [] X.env := by rfl)
    (hs : swapsWithSole [.Tuple [.Name x px, .Name y py] kt pt] (.Tuple [a, b] k2 pt2) pos.line X.env = pure false := by rfl) :
    PS X (.Assign [.Tuple [.Name x px, .Name y py] kt pt] (.Tuple [a, b] k2 pt2) pos) (TS' X.K Tb (gPar i j ga gb)) :=
  PS.of (ps_par hc hN hi hj hij hx hy (da_cons ha (da_cons hb da_nil he2) he) hw hs) fun D σ H ⟨ad, ρ, st, R, S, w⟩ => by
    obtain ⟨d, s1, e1, w1⟩ := w.bind
    obtain ⟨d2, s2, e2, w2⟩ := w1.bind
    refine ⟨ad, ρ, st, R, S, ?_⟩
    have e : gCons ga (gCons gb gNil) ρ st = .ok [d, d2] s2 := by unfold gCons gNil andThen; rw [e1]; simp only [e2]; rfl
    rw [e]
    intro ad1 H1 vs x1 r1 S1
    cases r1 with
    | cons r2 r3 =>
      cases r3 with
      | cons r4 r5 =>
        cases r5
        exact ⟨_, _, rfl, w2 ad1 H1 _ x1 (((R.mono x1).set i r2).set j r4) S1⟩
end
end DL
namespace DL
open PySem L2 PyProof.Rows
/-- a comprehension within a comprehension -/
def relS (sc outer : Scope) : Scope := relabel sc { (default : PySem.Env) with scope := outer }
theorem blkOk_in {X : Cx} {s : Shared} {H : Hp} {C : Addr} {cl : List (Str × Addr)} {fp : List Addr} {N : List Str} {sc1 scope : Scope} {own : List (Str × Nat)} (sc0 : Scope) (h0 : X.env.scope = sc0) (h : blkC N (relS sc1 sc0) scope own = true) : BlkOk N (X.blk s H sc1 (compEnvC sc1 cl C X.env) fp).env.scope scope own := by
  subst h0
  exact blkOk_by h
end DL
namespace DL
open PySem PySem.Spec PyProof.Rows L2
section
variable {X : Cx} {Tb : List (Addr × Str)} {es : List Expr} {is : List Nat} {r : GGs} {pos : Pos}
theorem dg_any {k n : Nat} (h : PGs X es (TGts X.K Tb is r)) (hc : X.calm = true := by rfl) (hn : (assignEach es X.env).length = n := by rfl) (hst : (assignEach es X.env).findIdx? (·.1) = none := by rfl) : PG X (.Tuple es k pos) (TGt X.K Tb is (gUnpackA n r)) := by
  have both : PG X (.Tuple es k pos) (fun v σ H Q => L2.gTup X.K n (TGts X.K Tb is r) v σ H Q ∨ gUnl X.K n (TGts X.K Tb is r) v σ H Q) :=
    ⟨fun pins s σ H v u Q I r hw => hw.elim (fun z => (pg_tup hc h hn hst).run pins s σ H v u Q I r z) (fun z => (pg_unl hc h hn hst).run pins s σ H v u Q I r z)⟩
  refine PG.of both fun v σ H Q ⟨ad, d, ρ, st, rv, R, S, w⟩ => ?_
  cases rv with
  | @tup q xs ds h1 rs =>
    unfold gUnpackA at w
    simp only at w
    by_cases c : ds.length = n
    · rw [if_pos c] at w
      exact .inl ⟨q, xs, rfl, h1, by rw [rs.length]; exact c, ad, ds, ρ, st, rs, R, S, w⟩
    · rw [if_neg c] at w; exact w.elim
  | @rf m q hq hk =>
    unfold gUnpackA at w
    simp only at w
    cases e : cellItems st m with
    | none => rw [e] at w; exact w.elim
    | some ds =>
      rw [e] at w
      simp only at w
      by_cases c : ds.length = n
      · rw [if_pos c] at w
        have hcell : st[m]? = some (.lst ds) := by
          unfold cellItems at e
          cases e2 : st[m]? with
          | none => rw [e2] at e; cases e
          | some cl => cases cl with
            | lst xs => rw [e2] at e; cases e; rfl
            | dct _ _ => rw [e2] at e; cases e
            | oth _ => rw [e2] at e; cases e
        obtain ⟨xs, h1, h2⟩ := S.cell m _ q hcell hq
        exact .inr ⟨q, xs, rfl, .inl (.inl h1), by rw [h2.length]; exact c, ad, ds, ρ, st, h2, R, S, w⟩
      · rw [if_neg c] at w; exact w.elim
  | _ => exact w.elim
end
end DL
namespace DL
open PySem PySem.Spec PyProof.Rows L2 PySem.Calls
section
variable {prog : Program} {w : World} {A : Around} {E : Value → Shared → Prop} {s : Shared}
theorem gather_tup {l : Addr} {vs : List Value} {Q : List Value → Shared → Prop} (hl : IsTup s.heap l vs.toArray) (fits : vs.length ≤ sizeLine)
    (q : Q vs { s with heap := (s.heap.push (seqObj "list" #[] 0)).update s.heap.objs.size (Obj.mapSeq (· ++ vs.toArray)) }) :
    wpAny (model prog w) A (collect (.ref l)) Q E s := by
  rcases hl with ⟨ob, hob, hcls, n, hdat⟩
  have e1 : (s.heap.push (seqObj "list" #[] 0)).get? l = some ob := Heap.get?_push_of_some _ hob
  have e2 : (s.heap.push (seqObj "list" #[] 0)).get? s.heap.objs.size = some (seqObj "list" #[] 0) := Heap.get?_push_size _ rfl
  have e3 : (Value.type "tuple" == Value.type "tuple") = true := by rfl
  unfold collect
  apply wpAny_bind
  apply wpAny_runValue
  apply codeAny_builtin entry_proto_collect'
  show wpAny _ _ (do again (.builtin "list.__iadd__" ⟨[← PySem.newList [], .ref l], []⟩)) _ _ s
  apply wpAny_bind
  refine wpAny_newList ?_ (Nat.zero_le _)
  apply wpAny_pure
  refine ⟨Code.quiet_builtin _ (by decide +kernel), ?_⟩
  apply codeAny_builtin entry_list_iadd'
  show wpAny _ _ (Builtin.List.listExtendWith (.ref s.heap.objs.size) (.ref l) (.ref s.heap.objs.size)) _ _ { s with heap := s.heap.push (seqObj "list" #[] 0) }
  unfold Builtin.List.listExtendWith
  refine wpAny_bind (wpAny_typeOf (T := "tuple") (s := { s with heap := s.heap.push (seqObj "list" #[] 0) }) ⟨ob, e1, hcls⟩ ?_)
  rw [if_pos (show _ = true by rw [e3]; simp)]
  refine wpAny_bind (listItems_at e1 hdat (wpAny_bind (listItems_at (xs := #[]) (n := 0) e2 rfl ?_)))
  rw [if_neg (show ¬ _ by simp)]
  have room : (#[] ++ vs.toArray).size ≤ sizeLine + 1 := by rw [Array.size_append, List.size_toArray]; show 0 + vs.length ≤ _; omega
  refine wpAny_bind (listUpdate_at (xs := #[]) (n := 0) e2 rfl (wpAny_pure ?_) (Nat.zero_le _) room)
  have tail : ((#[] : Array Value) ++ vs.toArray).toList = vs := by simp
  show wpAny (model prog w) A (load s.heap.objs.size >>= fun o => match o.data with | .seq xs _ => pure xs.toList | _ => unsupported "internal:collect") Q E { s with heap := (s.heap.push (seqObj "list" #[] 0)).update s.heap.objs.size (Obj.mapSeq (· ++ vs.toArray)) }
  refine wpAny_bind (wpAny_load (get?_update_seq e2 _) ?_)
  show wpAny (model prog w) A (pure ((#[] : Array Value) ++ vs.toArray).toList) Q E _
  rw [tail]
  exact wpAny_pure q
/-- what list.sort does with what was gathered -/
theorem sorted_any {v : Value} {vs : List Value} {ltv : Value → Value → Bool} {Q : Value → Shared → Prop} (O : SrtO.Swo ltv) (fits : vs.length ≤ sizeLine)
    (got : ∀ Q : List Value → Shared → Prop, Q vs { s with heap := (s.heap.push (seqObj "list" #[] 0)).update s.heap.objs.size (Obj.mapSeq (· ++ vs.toArray)) } → wpAny (model prog w) A.in1 (collect v) Q E s)
    (able : 2 ≤ vs.length → ∀ (h1 : Heap) (a : Addr), h1.get? a = some (seqObj "list" vs.toArray 0) → (∀ b o, s.heap.get? b = some o → b ≠ a ∧ h1.get? b = some o) → SrtO.SortableO prog w A.in1.in1 { s with heap := h1 } a vs ltv)
    (h : ∀ out : List Value, SrtO.Srtd ltv out → SrtO.Stb ltv out vs → Q (.ref (s.heap.objs.size + 1)) { s with heap := sortedAll s.heap vs out.toArray }) :
    wpAny (model prog w) A (call (.builtin "sorted") [v]) Q E s := by
  apply Calls.call_function_entry kind_sorted plain_sorted entry_sorted (args_sorted1 _)
  unfold Builtin.«sorted»
  apply wpAny_bind (m := checkCount "sorted" 1 1 _)
  apply wpAny_pure
  apply wpAny_bind
  apply got
  apply wpAny_bind
  refine wpAny_newList ?_ fits
  let hA := (s.heap.push (seqObj "list" #[] 0)).update s.heap.objs.size (Obj.mapSeq (· ++ vs.toArray))
  have sA : hA.objs.size = s.heap.objs.size + 1 := by show ((s.heap.push _).update _ _).objs.size = _; rw [Heap.size_update, size_push']
  have oL : (hA.push (seqObj "list" vs.toArray 0)).get? (s.heap.objs.size + 1) = some (seqObj "list" vs.toArray 0) := by rw [← sA]; exact Heap.get?_push_size _ rfl
  have stay : ∀ b o, s.heap.get? b = some o → b ≠ s.heap.objs.size + 1 ∧ (hA.push (seqObj "list" vs.toArray 0)).get? b = some o := by
    intro b o hb
    have lt : b < s.heap.objs.size := Heap.lt_size hb
    have ne : b ≠ s.heap.objs.size := Nat.ne_of_lt lt
    refine ⟨Nat.ne_of_lt (Nat.lt_succ_of_lt lt), Heap.get?_push_of_some _ ?_⟩
    show ((s.heap.push _).update _ _).get? b = _
    rw [Heap.get?_update_ne _ _ _ _ ne]
    exact Heap.get?_push_of_some _ hb
  show wpAny _ _ _ _ _ { s with heap := hA.push (seqObj "list" vs.toArray 0) }
  rw [show ((s.heap.push (seqObj "list" #[] 0)).update s.heap.objs.size (Obj.mapSeq (· ++ vs.toArray))).objs.size = s.heap.objs.size + 1 from sA]
  apply wpAny_bind
  apply wpAny_holding
  refine wpAny_call_entry slot_list_sort ⟨_, oL, rfl⟩ entry_list_sort ?_ (args_list_sort _)
  refine SrtO.list_sort_ord O oL fits (fun h2 => able h2 _ _ oL stay) fun out hs hb => ?_
  exact ⟨_, rfl, wpAny_pure ⟨_, rfl, h out hs hb⟩⟩
end
/-- sorted(t), t a tuple of ints -/
def rSortTI (K : PySem.W.Frag) : List V → Hp → VK → Prop := fun vs H Q => ∃ (a : Addr) (ns : List Int), vs = [V.ref a] ∧ SqT K H a (ns.map V.int) ∧ ∀ (ms : List Int) (p : Addr), ms.Perm ns → ms.Pairwise (· ≤ ·) → H p = none → Q (.ref p) (upd H p (.lst (ms.map V.int)))
theorem cr_sortTI {X : Cx} : CallR X (.builtin "sorted") (rSortTI X.K) := by
  intro pins s σ H vs us Q I r ⟨a, ns, e, hs, q⟩
  subst e
  obtain ⟨its, rv, tup, hz⟩ := I.tuple hs
  rw [Vals.ref1 r]
  have hi := rv.ints
  have hz2 : its.length ≤ sizeLine := by rw [← rv.length]; exact hz
  refine sorted_any SrtO.swo_int hz2 (fun Q' q' => gather_tup tup hz2 q') (fun h2 _ _ _ _ => SrtO.ints_sortable hi h2) fun out o1 o2 => ?_
  obtain ⟨i1, i2, i3⟩ := SrtO.ints_out hi o1 o2
  obtain ⟨ep, at_⟩ := PyProof.Rows.sortedAll_at s.heap its out.toArray
  have room : ((out.map SrtO.iv).map V.int).length ≤ sizeLine := by rw [List.length_map, i2.length_eq, ← List.length_map (f := V.int)]; exact hz
  have J := I.laid (t' := s.toks) (fun _ _ => PyProof.Rows.sortedAll_old) (Nat.le_succ _) (o := .lst ((out.map SrtO.iv).map V.int)) ⟨room, out, ep, vals_of_ints i1, at_⟩
  exact ⟨.ref _, upd H (s.heap.objs.size + 1) (.lst ((out.map SrtO.iv).map V.int)), J, rfl, q _ _ i2 i3 (I.hok.fresh (Nat.le_succ _))⟩
section
variable {X : Cx} {Tb : List (Addr × Str)} {a : Expr} {g : GE} {pos p : Pos}
theorem dl_sortTI {x : Str} (hx : x = "sorted") (hm : X.mg x = none) (ha : PE X a (TD X.K Tb g)) (hg : Gl X x := by rfl) (he : starEach [a] X.env = (false, eval a X.env) :: starEach [] X.env := by rfl) (hdb : (x == ("__debug__" : Str)) = false := by decide) :
    PE X (.Call (.Name x p) [a] [] pos) (TL X.K Tb (gSortTI g)) := by
  subst hx
  refine PE.of (pe_callB (id := "sorted") cr_sortTI hg hm (by decide +kernel) (pa_cons ha pa_nil he) (by decide) hdb he) fun σ H Q ⟨ad, ρ, st, R, S, w⟩ => ?_
  obtain ⟨d, s1, e1, w1⟩ := w.bind
  refine ⟨ad, ρ, st, R, S, ?_⟩
  rw [e1]
  intro ad1 H1 v x1 rv1 S1
  unfold sortTI at w1
  cases rv1 with
  | @tup t xs ds h1 rs =>
    simp only at w1
    cases e2 : intsD ds with
    | none => rw [e2] at w1; exact w1.elim
    | some ns =>
      rw [e2] at w1
      obtain ⟨rfl, rfl⟩ := ints_rv rs e2
      refine ⟨t, ns, rfl, h1, fun ms q hp hs hq => ?_⟩
      obtain rfl := sortI_uniq hp hs
      exact w1 ad1 _ q _ (x1.trans (ext_new hq)) (x1.none_of S1 hq) (S1.not_mem hq) upd_same (rv_ints _) (S1.upd_new hq)
  | _ => exact w1.elim
end
end DL
namespace DL
open PySem PySem.Spec PyProof.Rows L2
section
variable {X : Cx} {Tb : List (Addr × Str)}
def tLenSetTI (K : PySem.W.Frag) (ta : TE) : TE := fun σ H Q => ta σ H fun x H1 => ∃ (l : Addr) (ns : List Int), x = V.ref l ∧ SqT K H1 l (ns.map V.int) ∧ ns.length < 64 ∧ ns.Nodup ∧ Q (.int ns.length) H1
theorem len_set_tup {a : Expr} {ta : TE} {p p2 q pos : Pos} (calm : X.calm = true) (gl : Gl X "len") (ml : X.mg "len" = none) (gs : Gl X "set") (ms : X.mg "set" = none) (ha : PE X a ta)
    (na : starEach [a] X.env = (false, eval a X.env) :: starEach [] X.env := by rfl) : PE X (.Call (.Name "len" p) [.Call (.Name "set" p2) [a] [] q] [] pos) (tLenSetTI X.K ta) := by
  constructor
  intro pins s σ H Q I h
  refine Call_ (ld_blt I gl ml PySem.boot_len ?_)
  refine callWith_builtin1 (args_cons ?_ rfl) rfl rfl
  refine Call_ (ld_blt I gs ms boot_set ?_)
  refine callWith_type1 (args_cons (thn (ha.run pins s σ H _ I h) fun v s1 ⟨x, H1, I1, r1, q1⟩ => args_nil ?_) na) na rfl
  obtain ⟨l, ns, e1, hq, hlen, hnd, q1⟩ := q1
  subst e1
  cases r1
  obtain ⟨its, rv, pt, hz⟩ := I1.tuple hq
  have hi : IntsAre its.toArray.toList ns := by have := ints_of_vals rv; simpa using this
  have nb : ns.length + 1 < scanBound := by unfold scanBound; omega
  refine call_set_tupI ns (I1.ok.hd calm) (show s1.heap.IsTuple l its.toArray from pt) hi nb fun h' tk c R1 hcn k => ?_
  apply args_nil
  obtain ⟨o, es, ep, t, ho, hex, hdt, g, nd, hm, hb, hf, hn, hr, hled⟩ := R1
  have hp : (es.toList.map keyOf).Perm ns := (List.perm_ext_iff_of_nodup nd hnd).mpr fun j => by
    rw [← hm j]
    simp
  have hsz : es.size = ns.length := by
    have := hp.length_eq
    rw [List.length_map, Array.length_toList] at this
    exact this
  have I2 : Inv X pins σ H1 { s1 with heap := h', toks := tk } := I1.kept k
  have fits : (es.size : Int) < 2 ^ 63 := by rw [hsz]; omega
  exact call_len_set ho hex hdt hf fits ⟨.int ns.length, H1, I2.tok _, ⟨_, by rw [hsz]⟩, q1⟩
theorem d_lenSet {a : Expr} {g : GE} {p p2 q pos : Pos} {x y : Str} (hx : x = "len") (hy : y = "set") (ml : X.mg x = none) (ms : X.mg y = none) (ha : PE X a (TD X.K Tb g)) (gl : Gl X x := by rfl) (gs : Gl X y := by rfl) (calm : X.calm = true := by rfl)
    (na : starEach [a] X.env = (false, eval a X.env) :: starEach [] X.env := by rfl) : PE X (.Call (.Name x p) [.Call (.Name y p2) [a] [] q] [] pos) (TD X.K Tb (gUn vLenSet g)) := by
  subst hx hy
  refine PE.of (len_set_tup calm gl ml gs ms ha na) fun σ H Q ⟨ad, ρ, st, R, S, w⟩ => ?_
  obtain ⟨d, s1, e1, w1⟩ := w.bind
  refine ⟨ad, ρ, st, R, S, ?_⟩
  rw [e1]
  intro ad1 H1 v x1 rv1 S1
  unfold vLenSet at w1
  cases rv1 with
  | @tup t xs ds h1 rs =>
    simp only at w1
    cases e2 : intsD ds with
    | none => rw [e2] at w1; exact w1.elim
    | some ns =>
      rw [e2] at w1
      simp only at w1
      by_cases c : ns.Nodup ∧ ns.length < 64
      · rw [if_pos c] at w1
        obtain ⟨rfl, rfl⟩ := ints_rv rs e2
        exact ⟨t, ns, rfl, h1, c.2, c.1, w1 ad1 H1 _ x1 (.int _) S1⟩
      · rw [if_neg c] at w1; exact w1.elim
  | _ => exact w1.elim
end
end DL
namespace DL
open PySem L2 RZ
theorem enumFD_get {k : Int} {ds : List D} {i : Nat} {d : D} (h : (enumFD k ds)[i]? = some d) : ∃ e, ds[i]? = some e ∧ d = .tup [.int (k + (i : Nat)), e] := by
  unfold enumFD at h
  rw [List.getElem?_mapIdx] at h
  cases q : ds[i]? with
  | none => rw [q] at h; cases h
  | some e => rw [q] at h; exact ⟨e, rfl, (Option.some.inj h).symm⟩
theorem enumFD_length (k : Int) (ds : List D) : (enumFD k ds).length = ds.length := by unfold enumFD; simp
/-- the enumeration of a list that is over -/
theorem draws_over {prog : Program} {w : World} {A : Around} (hh : A.handled = none) {it l : Addr} {i : Nat} {items : Array Value} (hx : items[i]? = none) :
    Draws prog w A it [it, l] i (fun _ _ => True) (fun j h => j = i ∧ h.IsListIter it l i ∧ h.IsList l items) where
  live := fun _ _ st => let ⟨o, ho, _⟩ := st.2.1; ⟨o, ho⟩
  frame := fun _ _ _ st hk => ⟨st.1, st.2.1.at fun o e => hk it (by simp) o e, st.2.2.at fun o e => hk l (by simp) o e⟩
  item := fun j s Q E hi st hQ => absurd hi (by rw [st.1]; exact Nat.lt_irrefl _)
  done := fun s Q E st hE => wpAny_nextOf_list_end hh st.2.1 st.2.2 hx hE
/-- the list at a as it stands at each turn, counted from k -/
def Itf (K : PySem.W.Frag) (k : Int) (a : Addr) : It :=
  ⟨fun i H => ∃ (xs : List V) (x : V), SqL K H a xs ∧ xs[i]? = some x, fun i H v H' => ∃ T x, v = .ref T ∧ H T = none ∧ H' = upd H T (.tup [.int (k + (i : Nat)), x]) ∧ ∀ xs, SqL K H a xs → xs[i]? = some x, fun i H => ∃ xs : List V, SqL K H a xs ∧ xs.length ≤ i⟩
theorem turn_enumF {P : Program} {w : World} {K : PySem.W.Frag} {elts : List Expr} {kk : Nat} {tpos : Pos} (k : Int) (a e it : Addr) :
    Turn P w K (.Tuple elts kk tpos) (Itf K k a) [e, it] e (fun i h => (∃ old, IsEnum h e it (k + ((i : Nat) : Int)) old) ∧ h.IsListIter it a i ∧ e ≠ it ∧ a ≠ it ∧ a ≠ e) where
  mem := by simp
  obj := fun i h st b hb => by
    obtain ⟨⟨old, he⟩, ⟨o, ho, hc, hd⟩, _⟩ := st
    have e' : b = e ∨ b = it := by simpa using hb
    rcases e' with z | z
    · rw [z]; exact ⟨_, he, fun v q => nomatch q⟩
    · rw [z]; exact ⟨o, ho, fun v q => by rw [hd] at q; cases q⟩
  keep := fun i h h' st k => let ⟨⟨old, he⟩, hi, hne⟩ := st; ⟨⟨old, k e (by simp) _ he⟩, hi.at fun o q => k it (by simp) o q, hne⟩
  item := by
    intro X hP hw hK hc i pins s σ H E I hf st hg
    subst hP hw hK
    obtain ⟨⟨old, he⟩, hit, hne, hai, hae⟩ := st
    obtain ⟨xs, x, hq, hx⟩ := hg
    obtain ⟨its, rv, p, hz⟩ := I.list hq
    obtain ⟨u, hu, ru⟩ := rv.get hx
    have hel : e < s.heap.objs.size := Heap.lt_size he
    have hil : it < s.heap.objs.size := by obtain ⟨_, q, _⟩ := hit; exact Heap.lt_size q
    refine wpAny_pyNext_enum_itemC (Draws.list (A := X.A.in1) (show X.A.in1.handled = none from I.ok.hd hc) it a hai its.toArray) he (i := i) ⟨hit, p.isList⟩ (by
      have := (List.getElem?_eq_some_iff.mp hu).1
      simpa using this) hne (by
        intro hm
        rcases List.mem_cons.mp hm with z | z
        · exact hne z
        · exact hae (List.mem_singleton.mp z).symm) fun x' h' tk hP ho hst' hT hsz hk => ?_
    have hx' : its.toArray[i]? = some x' := hP
    obtain rfl : x' = u := by
      have : its[i]? = some x' := by simpa using hx'
      rw [hu] at this
      exact (Option.some.inj this).symm
    refine ⟨_, rfl, wpAny_letOwnedTupleGo_enum (s := { s with heap := h', toks := tk + 1 }) ho fun h'' he' sb => ?_⟩
    have hT2 : h''.get? s.heap.objs.size = some { cls := .type "tuple", data := .seq #[.int (k + (i : Nat)) tk, x'] } := (sb.2 _ (Nat.ne_of_gt hel)).trans hT
    have new : ObjOk X.prog X.w (upd H s.heap.objs.size (.tup [.int (k + (i : Nat)), x])) h'' s.heap.objs.size (.tup [.int (k + (i : Nat)), x]) :=
      ⟨by show 2 ≤ sizeLine; decide, [.int (k + (i : Nat)) tk, x'], .cons ⟨_, rfl⟩ (.cons ru .nil), ⟨_, hT2, rfl, _, rfl⟩⟩
    have I1 : Inv X pins σ (upd H s.heap.objs.size (.tup [.int (k + (i : Nat)), x])) { s with heap := h'', toks := tk + 1 } :=
      I.turnedNew (ch := [e, it]) (fun b ob hb q => (sb.2 b (fun z => hb (by simp [z]))).trans (hk b ob (fun z => hb (by simp [z])) (fun z => hb (by simp [z])) q)) hf (Nat.le_refl _) new
    refine ⟨.ref s.heap.objs.size, _, I1, rfl, ⟨_, x, rfl, I.hok.fresh (Nat.le_refl _), rfl, fun ys hy => by rw [I.list_inj hy hq]; exact hx⟩, ⟨⟨x', ?_⟩, hst'.1.at fun o q => (sb.2 it (Ne.symm hne)).trans q, hne, hai, hae⟩, fun b hb => ?_⟩
    · have e1 : k + ((i + 1 : Nat) : Int) = k + (i : Int) + 1 := by omega
      rw [e1]; exact he'
    · have hb' : b < s.heap.objs.size := by
        have e' : b = e ∨ b = it := by simpa using hb
        rcases e' with z | z
        · rw [z]; exact hel
        · rw [z]; exact hil
      rw [upd_ne (Nat.ne_of_lt hb')]
      exact (hf b hb).1
  done := by
    intro X hP hw hK hc i pins s σ H E I hf st hg
    subst hP hw hK
    obtain ⟨⟨old, he⟩, hit, hne, hai, hae⟩ := st
    obtain ⟨xs, hq, hx⟩ := hg
    obtain ⟨its, rv, p, hz⟩ := I.list hq
    obtain ⟨f0, f1, f2, f3, f4, f5⟩ := hf it (by simp)
    have hl := rv.length
    exact wpAny_pyNext_enum_endD (draws_over (A := X.A.in1) (l := a) (i := i) (items := its.toArray) (show X.A.in1.handled = none from I.ok.hd hc) (by simp; omega)) he ⟨rfl, hit, p.isList⟩ fun h' eb => ⟨rfl, I.turned (t' := s.toks) (fun b o hb q => eb b o hb q) f0 f1 f3 f4 f5⟩
  self := fun A i s Q E st h => let ⟨⟨_, he⟩, _⟩ := st; wpAny_pyIter_enum he h
end DL
namespace DL
open PySem L2 RZ PyProof.Rows
section
variable {M : Model} {A : Around} {E : Value → Shared → Prop} {s : Shared} {env : PySem.Env}
theorem callWith_typeKw {pos : Pos} {T : String} {e : Expr} {kws : List Keyword} {Q : Value → Shared → Prop}
    (h : wpAny M A (spliced (backTo pos (starEach [e] env))) (fun vs s₁ => wpAny M A (evalAll ((backToKw pos (keywordEach kws env)).map (·.2)))
      (fun kvs s₂ => wpAny M A (call (.type T) vs (((backToKw pos (keywordEach kws env)).filterMap (·.1)).zip kvs)) Q E s₂) E s₁) E s)
    (he : backTo pos (starEach [e] env) = (false, eval e env) :: backTo pos (starEach [] env))
    (hplain : (backTo pos (starEach [e] env)).any (·.1) = false)
    (hall : (backToKw pos (keywordEach kws env)).all (·.1.isSome) = true)
    (hkw : (backToKw pos (keywordEach kws env)).any (·.1.isNone) = false) :
    wpAny M A (callWith pos (.type T) [] (backTo pos (starEach [e] env)) (backToKw pos (keywordEach kws env))) Q E s := by
  have h2 : wpAny M A (evalArgs (.type T) true (backTo pos (starEach [e] env)) (backToKw pos (keywordEach kws env))) (fun a s₁ => wpAny M A (call (.type T) ([] ++ a.pos) a.kw) Q E s₁) E s := by
    rw [he] at h ⊢
    exact evalArgs_kwB hall h
  unfold callWith
  refine wpAny_bind (wpAny_holding (wpAny_mono h2 (fun a s₁ h₁ => wpAny_bind (wpAny_standAt ?_)) fun _ _ x => x))
  simp only [hplain, hkw, Bool.or_false]
  refine wpAny_bind (wpAny_pure ?_)
  exact wpAny_bind (wpAny_mono h₁ (fun r s₂ hr => wpAny_bind (wpAny_holding (wpAny_point (wpAny_pure hr)))) fun _ _ x => x)
end
section
variable {X : Cx} {K : PySem.W.Frag} {Tb : List (Addr × Str)} {ad : List Addr} {H : Hp} {st : Store} {tg a b c e : Expr} {ga gb gc g : GE} {gs : GA} {t u : GT} {pos p tpos : Pos} {elts : List Expr} {kk : Nat}
theorem gives_enumF {k : Int} {n : Nat} {q : Addr} {ds : List D} (h : ad[n]? = some q) : Gives K Tb ad H (Itf K k q) ⟨enumFD k ds, fun st' => cellItems st' n = some ds⟩ := by
  intro ad1 H1 st1 x1 S1 hg i
  obtain ⟨xs, g1, g2⟩ := S1.items hg (x1.at h)
  refine ⟨fun d hd => ?_, fun hi => ⟨xs, g1, by rw [g2.length]; exact (enumFD_length k ds) ▸ hi⟩⟩
  obtain ⟨e, he, rfl⟩ := enumFD_get hd
  obtain ⟨v, g3, g4⟩ := g2.get he
  refine ⟨⟨xs, v, g1, g3⟩, fun x H2 hy => ?_⟩
  obtain ⟨T, y, rfl, hT, rfl, hy⟩ := hy
  have := hy xs g1
  rw [g3] at this
  cases this
  exact new_pair S1 hT (.int _) g4
theorem di_enumF {x : Str} {k : Int} {j : Nat} {p2 kpos : Pos} (hx : x = "enumerate") (hm : X.mg x = none) (ha : PE X a (TD X.K Tb ga)) (hk : (decide (-(2 ^ 63) ≤ k) && decide (k < 2 ^ 63)) = true := by decide) (hg : Gl X x := by rfl) (hs : starEach [a] X.env = (false, eval a X.env) :: starEach [] X.env := by rfl) (hdb : (x == ("__debug__" : Str)) = false := by decide) :
    PI X (.Tuple elts kk tpos) (.Call (.Name x p) [a] [⟨some (Str.ofString "start"), .Constant (.int k) j p2, kpos⟩] pos) (TIt X.K Tb (wEnumF k ga)) := by
  subst hx
  simp only [Bool.and_eq_true, decide_eq_true_eq] at hk
  refine ⟨fun pins s σ H R I ⟨ad, ρ, st, Rr, S, w⟩ => ?_⟩
  obtain ⟨d, s1, e1, w1⟩ := w.bind
  have harg : PA X [a] (tCons (TD X.K Tb ga) tNil) := pa_cons ha pa_nil hs
  refine wpAny_Call_Name_kw (ld_blt I hg hm boot_enumerate ?_ (by decide) hdb)
  refine callWith_typeKw (thn (harg.run pos pins s σ H (fun vs H1 => ∃ ad1 n q ds, vs = [.ref q] ∧ d = .rf n ∧ cellItems s1 n = some ds ∧ Ext X.K ad H ad1 H1 ∧ ad1[n]? = some q ∧ RS X.K Tb ad1 H1 s1) I ?_) fun us s3 ⟨vs, H1, I1, r1, q1⟩ => ?_) (by rw [hs]; rfl) (by rw [hs]; rfl) rfl rfl
  · refine ⟨ad, ρ, st, Rr, S, ?_⟩
    rw [e1]
    cases d with
    | rf n =>
      cases e2 : cellItems s1 n with
      | none => simp only [e2] at w1; exact w1.elim
      | some ds =>
        intro ad1 H1 x x1 r1 S1
        cases r1 with
        | @rf _ q h1 _ => exact ⟨ad1, n, q, ds, rfl, rfl, e2, x1, h1, S1⟩
    | _ => exact w1.elim
  · obtain ⟨ad1, n, q, ds, rfl, rfl, e2, x1, h1, S1⟩ := q1
    obtain rfl := Vals.ref1 r1
    simp only [e2] at w1
    refine kws_cons (thn ((pe_int (X := X)).run pins s3 σ H1 (fun v H2 => v = .int k ∧ H2 = H1) I1 ⟨rfl, rfl⟩) fun kv s4 ⟨v, H2, I2, r2, e3, e4⟩ => kws_nil ?_)
    subst e3 e4
    obtain ⟨tk, rfl⟩ := r2
    obtain ⟨xs, g1, g2⟩ := S1.items e2 h1
    obtain ⟨its, rv, p', hz⟩ := I2.list g1
    have hql : q < s4.heap.objs.size := by obtain ⟨o, ho, _⟩ := p'.isList; exact Heap.lt_size ho
    show wpAny _ _ (call (.type "enumerate") [.ref q] [(Str.ofString "start", .int k tk)]) _ _ _
    refine enum_begins_start (begins_list q its.toArray) p'.isList hk.1 hk.2 fun h' he hit hsz hkp => wpAny_pyIter_enum he ?_
    have I3 : Inv X pins σ H2 { s4 with heap := h' } := I2.kept (t' := s4.toks) hkp
    refine ⟨s4.heap.objs.size + 1, [s4.heap.objs.size + 1, s4.heap.objs.size], _, _, H2, rfl, I3, turn_enumF k q (s4.heap.objs.size + 1) s4.heap.objs.size, ⟨⟨.none, ?_⟩, ⟨_, hit, rfl, rfl⟩, Nat.succ_ne_self _, Nat.ne_of_lt hql, Nat.ne_of_lt (Nat.lt_succ_of_lt hql)⟩, fun b hb => ?_, ?_⟩
    · have e1 : k + ((0 : Nat) : Int) = k := by omega
      rw [e1]; exact he
    · have e' : b = s4.heap.objs.size + 1 ∨ b = s4.heap.objs.size := by simpa using hb
      have hle : s4.heap.objs.size ≤ b := by
        rcases e' with z | z
        · rw [z]; exact Nat.le_add_right _ _
        · rw [z]; exact Nat.le_refl _
      exact I2.fpOk hle (I2.hok.fresh hle)
    · exact w1 ad1 H2 _ x1 S1 (gives_enumF h1)
end
end DL
/-! Texts: join, split, str of an int, int of a text, f-strings, a char in a text, a walk over a text. -/
namespace DL
open PySem
def txtsD : List D → Option (List Str)
  | [] => some []
  | .str x :: r => (txtsD r).map (x :: ·)
  | _ :: _ => none
def joinOk (a : Str) (ys : List Str) : Bool := decide ((ys.map (·.length)).sum + ys.length * a.length ≤ 16777216)
def vJoin : O2
  | .str a, .rf n => fun st => match (cellItems st n).bind txtsD with
    | some ys => if joinOk a ys = true then .ok (.str (Txt.join a ys)) st else .stuck
    | none => .stuck
  | _, _ => bad
def vSplit : O2
  | .str a, .str b => if ((b.length == 0) = false ∧ a.length + 2 ≤ SZ) then newList ((Txt.split a b).map D.str) else bad
  | _, _ => bad
def vStrI : D → M D
  | .int i => if i.natAbs.log2 < 1920 then ret (.str (Str.ofString (toString i))) else bad
  | _ => bad
def vIntS : D → M D
  | .str a => match intText? a with
    | some n => if a.length ≤ 640 then ret (.int n) else bad
    | none => bad
  | _ => bad
def vInS : O2
  | .str x, .str z => match x.cps.toList with
    | [c] => ret (.bl (decide (c ∈ z.cps.toList)))
    | _ => bad
  | _, _ => bad
/-- x or y, as a value -/
def gOrV (a b : GE) : GE := fun ρ => andThen (a ρ) fun d st => match tru d st with
  | some true => .ok d st
  | some false => b ρ st
  | none => .stuck
def vFmt : D → M D
  | .str y => if y.length ≤ SZ then ret (.str y) else bad
  | .int i => if i.natAbs.log2 < 1920 then ret (.str (Str.ofString (toString i))) else bad
  | _ => bad
/-- the parts of an f-string -/
def gJs : List GE → Str → Env → M D
  | [], acc, _ => ret (.str acc)
  | g :: gs, acc, ρ => andThen (g ρ) fun d => match d with
    | .str y => if (acc ++ y).length ≤ SZ then gJs gs (acc ++ y) ρ else bad
    | _ => bad
def gJoined (gs : List GE) : GE := gJs gs Str.empty
def charsD (x : Str) : List D := x.cps.toList.map fun c => D.str ⟨#[c]⟩
/-- a walk over a text, or over a list or tuple -/
def wSeqS (a : GE) : GI := fun ρ => andThen (a ρ) fun x => match x with
  | .str x => ret ⟨charsD x, fun _ => True⟩
  | .tup ds => ret ⟨ds, fun _ => True⟩
  | .rf n => fun st => match cellItems st n with
    | some ds => .ok ⟨ds, fun st' => cellItems st' n = some ds⟩ st
    | none => .stuck
  | _ => bad
end DL
/-! A dict that is a constant of the module, asked by get. -/
namespace DL
open PySem
def lookC : List (Str × D) → Str → D
  | [], _ => .non
  | p :: r, x => if (p.1 == x) = true then p.2 else lookC r x
def vGetC (kvs : List (Str × D)) : D → M D
  | .str x => ret (lookC kvs x)
  | _ => bad
end DL
/-! sorted(set(xs)), xs a list of ints. -/
namespace DL
open PySem
def onceI : List Int → List Int
  | [] => []
  | n :: ns => if n ∈ ns then onceI ns else n :: onceI ns
def setI (ns : List Int) : List Int := sortI (onceI ns)
def sortSD (ds : List D) : M (List D) := match intsD ds with
  | some ns => if ns.length < 64 then ret ((setI ns).map D.int) else bad
  | none => bad
def gSortS (a : GA) : GA := fun ρ => andThen (a ρ) sortSD
/-- str(x), an int or a text -/
def vStrA : D → M D
  | .int i => if i.natAbs.log2 < 1920 then ret (.str (Str.ofString (toString i))) else bad
  | .str x => ret (.str x)
  | _ => bad
end DL
/-! Exceptions. -/
namespace DL
open PySem
/-- what raises nothing -/
def xP {α : Type} (m : M α) : M α := fun st => match m st with
  | .exc _ _ _ => .stuck
  | r => r
def xE {α : Type} (g : Env → M α) : Env → M α := fun ρ => xP (g ρ)
def xO (h : O2) : O2 := fun a b => xP (h a b)
def xF (g : GF) : GF := fun ds => xP (g ds)
def xG (g : GG) : GG := fun d ρ => xP (g d ρ)
/-- an exception with one field, as a value of the air -/
def fsOf : D → List (Str × D)
  | .tup [.str f, d] => [(f, d)]
  | _ => []
def gRaise (c : Str) : GS := fun _ st => .exc c .non st
def gRaiseF (c f : Str) (e : GE) : GS := fun ρ => andThen (xP (e ρ)) fun v st => .exc c (.tup [.str f, v]) st
/-- behind a suite its name is gone -/
def goneS (i : Nat) : Fl → M Fl
  | .nx ρ => ret (.nx (ρ.set i none))
  | .bk ρ => ret (.bk (ρ.set i none))
  | .ct ρ => ret (.ct (ρ.set i none))
  | .rt d => ret (.rt d)
/-- try: body / except C as n: suite; ts: which classes the clause takes; what body raises, it raises ahead of any store to a name -/
def gTry (ts : List (Str × Bool)) (i : Nat) (body suite : GS) : GS := fun ρ st => match body ρ st with
  | .exc c a s => match ts.lookup c with
    | some true => andThen (xP (suite (ρ.set i (some (.ob s.length))))) (goneS i) (s ++ [.oth (.exn c (fsOf a))])
    | some false => .exc c a s
    | none => .stuck
  | r => r
/-- try: body / except C: suite -/
def gTry0 (ts : List (Str × Bool)) (body suite : GS) : GS := fun ρ st => match body ρ st with
  | .exc c a s => match ts.lookup c with
    | some true => xP (suite ρ) s
    | some false => .exc c a s
    | none => .stuck
  | r => r
/-- isinstance(e, C), e an exception that was caught -/
def vIsX (l : List (Str × Bool)) : D → M D
  | .ob n => fun st => match st[n]? with
    | some (.oth (.exn c _)) => match l.lookup c with
      | some b => .ok (.bl b) st
      | none => .stuck
    | _ => .stuck
  | _ => bad
/-- e.f, e an exception that was caught, of one of the classes cs -/
def vFldX (cs : List Str) (f : Str) : D → M D
  | .ob n => fun st => match st[n]? with
    | some (.oth (.exn c fs)) => if c ∈ cs then (match fs.lookup f with
      | some d => .ok d st
      | none => .stuck) else .stuck
    | _ => .stuck
  | _ => bad
end DL
/-! xs.extend of a list made on the spot, **, xs[::-1], count of a truth value. -/
namespace DL
open PySem
def vExt (o : D) (es : List D) : M D := fun st => match o with
  | .rf n => match st[n]? with
    | some (.lst ds) => if ds.length + es.length ≤ SZ then .ok .non (st.set n (.lst (ds ++ es))) else .stuck
    | _ => .stuck
  | _ => .stuck
def gExt (o : GE) (a : GA) : GE := fun ρ => andThen (o ρ) fun x => andThen (a ρ) fun es => vExt x es
def vPow : O2
  | .int a, .int b => if 0 ≤ b ∧ b ≤ 1000000 ∧ a.natAbs < 2 ^ 64 then ret (.int (a ^ b.toNat)) else bad
  | _, _ => bad
def vRev : D → M D
  | .rf n => fun st => match cellItems st n with
    | some ds => newList ds.reverse st
    | none => .stuck
  | _ => bad
def vCntB (o y : D) : M D := fun st => match o, y with
  | .rf n, .bl b => match (cellItems st n).bind bools with
    | some bs => .ok (.int (bs.count b : Nat)) st
    | none => .stuck
  | _, _ => .stuck
end DL
namespace DL
open PySem
/-- sum(..) of a list made on the spot; xs.pop() -/
def gSum (a : GA) : GE := fun ρ => andThen (a ρ) fun ds => match intsD ds with
  | some ns => ret (.int ns.sum)
  | none => bad
/-- range(a, b) of any ints -/
def wRange2B (a b : GE) : GI := fun ρ => andThen (a ρ) fun x => andThen (b ρ) fun y => andThen (asInt x) fun i => andThen (asInt y) fun j => ret ⟨fromTo i (j - i).toNat, fun _ => True⟩
/-- xs.index(b), xs of truth values -/
def idxBn (b : Bool) : List Bool → Nat → Option Nat
  | [], _ => none
  | x :: r, i => if x = b then some i else idxBn b r (i + 1)
def vIdxB (o y : D) : M D := fun st => match o, y with
  | .rf n, .bl b => match (cellItems st n).bind bools with
    | some bs => match idxBn b bs 0 with
      | some i => .ok (.int (i : Nat)) st
      | none => .stuck
    | none => .stuck
  | _, _ => .stuck
end DL
/-! raise C(e), C's own __init__ storing a whole number. -/
namespace DL
open PySem
def gRaiseI (c f : Str) (e : GE) : GS := fun ρ => andThen (xP (e ρ)) fun v st => match v with
  | .int i => if 0 ≤ i ∧ i.natAbs < 10 ^ 45 then .exc c (.tup [.str f, .int i]) st else .stuck
  | _ => .stuck
end DL
namespace DL
open PySem
/-- isinstance(e, C), e an exception that was caught, or None -/
def vIsXN (l : List (Str × Bool)) : D → M D
  | .non => ret (.bl false)
  | d => vIsX l d
end DL
namespace DL
open PySem
/-- a pair of small numbers -/
def pairI : D → Option (Int × Int)
  | .tup [.int a, .int b] => if 0 ≤ a ∧ a < 1000 ∧ 0 ≤ b ∧ b < 1000 then some (a, b) else none
  | _ => none
def pairsI : List D → Option (List (Int × Int))
  | [] => some []
  | d :: ds => match pairI d, pairsI ds with
    | some p, some ps => some (p :: ps)
    | _, _ => none
def pairD (p : Int × Int) : D := .tup [.int p.1, .int p.2]
def codeP (p : Int × Int) : Int := p.1 * 1000 + p.2
def insP (p : Int × Int) : List (Int × Int) → List (Int × Int)
  | [] => [p]
  | q :: qs => if codeP p < codeP q then p :: q :: qs else if p = q then q :: qs else q :: insP p qs
def setP : List (Int × Int) → List (Int × Int)
  | [] => []
  | p :: ps => insP p (setP ps)
/-- sorted(set(x)), x a tuple of pairs of small numbers -/
def sortSP : D → M (List D)
  | .tup ds => match pairsI ds with
    | some ps => if ps.length < 64 then ret ((setP ps).map pairD) else bad
    | none => bad
  | _ => bad
def gSortSP (a : GE) : GA := fun ρ => andThen (a ρ) sortSP
end DL
namespace DL
open PySem
/-- the length of the script; a number of the script -/
def vLenC : D → M D
  | .cl ds => ret (.int ds.length)
  | _ => bad
def vIxC : O2
  | .cl ds, .int i => match atD ds i with
    | some d => ret d
    | none => bad
  | _, _ => bad
end DL
/-! Texts are kept by the machine. -/
namespace DL
open PySem L2
section
variable {X : Cx} {Tb : List (Addr × Str)} {a b o e : Expr} {ga gb g : GE} {p pos apos cpos : Pos} {K : PySem.W.Frag} {ad : List Addr} {H : Hp} {st : Store}
theorem strs_rv : ∀ {ds : List D} {ys : List Str} {vs : List V}, txtsD ds = some ys → RVs K ad H vs ds → vs = ys.map V.str
  | [], ys, vs, h, r => by cases h; cases r; rfl
  | d :: ds, ys, vs, h, r => by
    cases r with
    | cons r1 r2 =>
      cases d with
      | str x =>
        unfold txtsD at h
        cases e : txtsD ds with
        | none => rw [e] at h; cases h
        | some zs =>
          rw [e] at h
          cases h
          cases r1
          rw [strs_rv e r2]
          rfl
      | _ => cases h
theorem strs_rvs : ∀ ys : List Str, RVs K ad H (ys.map V.str) (ys.map D.str)
  | [] => .nil
  | y :: ys => .cons (.str y) (strs_rvs ys)
theorem d_join {m : Str} (hm : m = "join") (ho : PE X o (TD X.K Tb ga)) (he : PE X e (TD X.K Tb gb)) (hst : starEach [e] X.env = [(false, eval e X.env)] := by rfl) (hbase : attributeBase o m X.env (eval o X.env) = eval o X.env := by rfl) (hline : (apos.endLine == cpos.line) = true := by rfl) :
    PE X (.Call (.Attribute o m apos) [e] [] cpos) (TD X.K Tb (gOp vJoin ga gb)) := by
  subst hm
  refine PE.of (pe_join ho he hst hbase hline) fun σ H Q ⟨ad, ρ, st, R, S, w⟩ => ?_
  obtain ⟨d, s1, e1, w1⟩ := w.bind
  refine ⟨ad, ρ, st, R, S, ?_⟩
  rw [e1]
  intro ad1 H1 x x1 r1 S1
  obtain ⟨d2, s2, e2, w2⟩ := w1.bind
  cases r1 with
  | str z =>
    refine ⟨⟨z, rfl⟩, ad1, ρ, s1, R.mono x1, S1, ?_⟩
    rw [e2]
    intro ad2 H2 y x2 r2 S2
    cases r2 with
    | @rf n q h1 hk_ =>
      unfold vJoin at w2
      simp only at w2
      cases e3 : cellItems s2 n with
      | none => simp only [e3, Option.bind] at w2; exact w2.elim
      | some ds =>
        cases e4 : txtsD ds with
        | none => simp only [e3, e4, Option.bind] at w2; exact w2.elim
        | some ys =>
          simp only [e3, e4, Option.bind] at w2
          by_cases c : joinOk z ys = true
          · rw [if_pos c] at w2
            obtain ⟨xs, g1, g2⟩ := S2.items e3 h1
            have := strs_rv e4 g2
            subst this
            exact ⟨z, q, ys, rfl, rfl, .inl g1, of_decide_eq_true c, w2 ad2 H2 _ (x1.trans x2) (.str _) S2⟩
          · rw [if_neg c] at w2; exact w2.elim
    | _ => exact w2.elim
  | _ => exact w2.elim
theorem d_split {m : Str} (hm : m = "split") (ho : PE X o (TD X.K Tb ga)) (he : PE X e (TD X.K Tb gb)) (hst : starEach [e] X.env = [(false, eval e X.env)] := by rfl) (hbase : attributeBase o m X.env (eval o X.env) = eval o X.env := by rfl) (hline : (apos.endLine == cpos.line) = true := by rfl) :
    PE X (.Call (.Attribute o m apos) [e] [] cpos) (TD X.K Tb (gOp vSplit ga gb)) := by
  subst hm
  refine PE.of (pe_split ho he hst hbase hline) fun σ H Q ⟨ad, ρ, st, R, S, w⟩ => ?_
  obtain ⟨d, s1, e1, w1⟩ := w.bind
  refine ⟨ad, ρ, st, R, S, ?_⟩
  rw [e1]
  intro ad1 H1 x x1 r1 S1
  obtain ⟨d2, s2, e2, w2⟩ := w1.bind
  cases r1 with
  | str z =>
    refine ⟨⟨z, rfl⟩, ad1, ρ, s1, R.mono x1, S1, ?_⟩
    rw [e2]
    intro ad2 H2 y x2 r2 S2
    cases r2 with
    | str t =>
      have w' : PostD X.K Tb ad H Q ((if ((t.length == 0) = false ∧ z.length + 2 ≤ SZ) then newList ((Txt.split z t).map D.str) else bad : M D) s2) := w2
      by_cases c : ((t.length == 0) = false ∧ z.length + 2 ≤ SZ)
      · rw [if_pos c] at w'
        exact ⟨z, t, rfl, rfl, c.1, SZ_line c.2, PostD.newLst S2 (strs_rvs _) (PostD.shift (x1.trans x2) w')⟩
      · rw [if_neg c] at w'; exact w'.elim
    | _ => exact w2.elim
  | _ => exact w2.elim
theorem s_strI : Snd1 K Tb (fun x H Q => (fun (xs : List V) (H : Hp) (Q : VK) => ∃ i, xs = [.int i] ∧ i.natAbs.log2 < 1920 ∧ Q (.str (Str.ofString (toString i))) H) [x] H Q) vStrI := by
  intro ad H st x d Q r S w
  cases r with
  | int i =>
    have w' : PostD K Tb ad H Q ((if i.natAbs.log2 < 1920 then ret (.str (Str.ofString (toString i))) else bad : M D) st) := w
    by_cases c : i.natAbs.log2 < 1920
    · rw [if_pos c] at w'; exact ⟨i, rfl, c, w' ad H _ Ext.refl (.str _) S⟩
    · rw [if_neg c] at w'; exact w'.elim
  | _ => exact w.elim
theorem s_intS : Snd1 K Tb (fun x H Q => (fun (xs : List V) (H : Hp) (Q : VK) => ∃ a n, xs = [.str a] ∧ intText? a = some n ∧ a.length ≤ 640 ∧ Q (.int n) H) [x] H Q) vIntS := by
  intro ad H st x d Q r S w
  cases r with
  | str z =>
    unfold vIntS at w
    simp only at w
    cases e : intText? z with
    | none => simp only [e] at w; exact w.elim
    | some n =>
      simp only [e] at w
      by_cases c : z.length ≤ 640
      · rw [if_pos c] at w; exact ⟨z, n, rfl, e, c, w ad H _ Ext.refl (.int _) S⟩
      · rw [if_neg c] at w; exact w.elim
  | _ => exact w.elim
theorem s_inS : Snd2 K Tb rInS vInS := by
  intro ad H st x y d e Q r1 r2 S w
  cases r1 with
  | str x =>
    cases r2 with
    | str z =>
      obtain ⟨⟨l⟩⟩ := x
      match l, w with
      | [], w => exact w.elim
      | [c], w => exact ⟨c, z, rfl, rfl, w ad H _ Ext.refl (.bl _) S⟩
      | _ :: _ :: _, w => exact w.elim
    | _ => exact w.elim
  | _ => exact w.elim
theorem tru_v {d : D} {x : V} {k : Bool} (e2 : tru d st = some k) (r1 : RV K ad H x d) (S1 : RS K Tb ad H st) : TruV K x H k := by
  cases r1 with
  | non => exact (Option.some.inj e2).symm
  | bl b => exact (Option.some.inj e2).symm
  | int i => exact (Option.some.inj e2).symm
  | str z =>
    have e3 : (if z.length ≤ SZ then some ((z.length : Int) != 0) else none) = some k := e2
    by_cases c : z.length ≤ SZ
    · rw [if_pos c] at e3
      exact ⟨SZ_line c, (Option.some.inj e3).symm⟩
    · rw [if_neg c] at e3; cases e3
  | tup h1 rs =>
    rename_i q xs ds
    refine .inr (.inl ⟨xs, h1, ?_⟩)
    have e3 : (!ds.isEmpty) = k := Option.some.inj e2
    rw [← e3]
    cases rs <;> rfl
  | cl h1 rs => cases e2
  | dr h1 hk_ => cases e2
  | ob h1 => cases e2
  | rf h1 hk_ =>
    rename_i n q
    have e5 : ((cellItems st n).map fun ds => !ds.isEmpty) = some k := e2
    cases e4 : cellItems st n with
    | none => rw [e4] at e5; cases e5
    | some ds =>
      rw [e4] at e5
      obtain ⟨xs, g1, g2⟩ := S1.items e4 h1
      refine .inl ⟨xs, g1, ?_⟩
      have e3 : (!ds.isEmpty) = k := Option.some.inj e5
      rw [← e3]
      cases g2 <;> rfl
theorem d_orV (ha : PE X a (TD X.K Tb ga)) (hb : PE X (.BoolOp .Or [b] pos) (TD X.K Tb gb)) : PE X (.BoolOp .Or [a, b] pos) (TD X.K Tb (gOrV ga gb)) :=
  PE.of (pe_orT ha hb) fun σ H Q ⟨ad, ρ, st, R, S, w⟩ => by
    obtain ⟨d, s1, e1, w1⟩ := w.bind
    refine ⟨ad, ρ, st, R, S, ?_⟩
    rw [e1]
    intro ad1 H1 x x1 r1 S1
    cases e2 : tru d s1 with
    | none => simp only [e2] at w1; exact w1.elim
    | some k =>
      refine ⟨k, tru_v e2 r1 S1, ?_⟩
      cases k with
      | true =>
        simp only [e2] at w1
        rw [if_pos rfl]
        exact w1 ad1 H1 x x1 r1 S1
      | false =>
        simp only [e2] at w1
        rw [if_neg (by decide)]
        exact ⟨ad1, ρ, s1, R.mono x1, S1, w1.shift x1⟩
theorem d_fmt (ha : PE X a (TD X.K Tb ga)) : PE X (.FormattedValue a (-1) none pos) (TD X.K Tb (gUn vFmt ga)) :=
  PE.of (pe_fmt ha) fun σ H Q ⟨ad, ρ, st, R, S, w⟩ => by
    obtain ⟨d, s1, e1, w1⟩ := w.bind
    refine ⟨ad, ρ, st, R, S, ?_⟩
    rw [e1]
    intro ad1 H1 x x1 r1 S1
    cases r1 with
    | str z =>
      have w' : PostD X.K Tb ad H Q ((if z.length ≤ SZ then ret (.str z) else bad : M D) s1) := w1
      by_cases c : z.length ≤ SZ
      · rw [if_pos c] at w'; exact .inl ⟨z, rfl, SZ_line c, w' ad1 H1 _ x1 (.str _) S1⟩
      · rw [if_neg c] at w'; exact w'.elim
    | int i =>
      have w' : PostD X.K Tb ad H Q ((if i.natAbs.log2 < 1920 then ret (.str (Str.ofString (toString i))) else bad : M D) s1) := w1
      by_cases c : i.natAbs.log2 < 1920
      · rw [if_pos c] at w'; exact .inr ⟨i, rfl, c, w' ad1 H1 _ x1 (.str _) S1⟩
      · rw [if_neg c] at w'; exact w'.elim
    | _ => exact w1.elim
theorem js_run : ∀ (gs : List GE) (acc : Str) (σ : L2.St) (H : Hp) (Q : VK), TD K Tb (gJs gs acc) σ H Q → tJs (gs.map (TD K Tb)) acc σ H fun out H1 => Q (.str out) H1
  | [], acc, σ, H, Q, ⟨ad, ρ, st, R, S, w⟩ => w ad H _ Ext.refl (.str _) S
  | g :: gs, acc, σ, H, Q, ⟨ad, ρ, st, R, S, w⟩ => by
    obtain ⟨d, s1, e1, w1⟩ := w.bind
    refine ⟨ad, ρ, st, R, S, ?_⟩
    rw [e1]
    intro ad1 H1 x x1 r1 S1
    cases r1 with
    | str y =>
      have w' : PostD K Tb ad H Q ((if (acc ++ y).length ≤ SZ then gJs gs (acc ++ y) ρ else bad : M D) s1) := w1
      by_cases c : (acc ++ y).length ≤ SZ
      · rw [if_pos c] at w'
        exact ⟨y, rfl, SZ_line c, js_run gs (acc ++ y) σ H1 Q ⟨ad1, ρ, s1, R.mono x1, S1, PostD.shift x1 w'⟩⟩
      · rw [if_neg c] at w'; exact w'.elim
    | _ => exact w1.elim
theorem d_joined {v1 v2 : Expr} {rest : List Expr} {gs : List GE} (h : PJ X (v1 :: v2 :: rest) (gs.map (TD X.K Tb))) : PE X (.JoinedStr (v1 :: v2 :: rest) pos) (TD X.K Tb (gJoined gs)) :=
  PE.of (pe_joined h) fun σ H Q w => js_run gs Str.empty σ H Q w
theorem dj_nil : PJ X [] (([] : List GE).map (TD X.K Tb)) := .nil
theorem dj_cons {es : List Expr} {gs : List GE} (h : PE X a (TD X.K Tb g)) (t : PJ X es (gs.map (TD X.K Tb))) : PJ X (a :: es) ((g :: gs).map (TD X.K Tb)) := .cons h t
theorem gives_str (x : Str) (gd : Store → Prop) : Gives K Tb ad H (Its x) ⟨charsD x, gd⟩ := by
  intro ad1 H1 st1 x1 S1 _ i
  unfold charsD
  refine ⟨fun d hd => ?_, fun hi => by show x.cps.size ≤ i; simpa using hi⟩
  simp only at hd
  rw [List.getElem?_map] at hd
  cases e : x.cps.toList[i]? with
  | none => rw [e] at hd; cases hd
  | some c =>
    rw [e] at hd
    cases hd
    have hl := (List.getElem?_eq_some_iff.mp e).1
    refine ⟨by show i < x.cps.size; simpa using hl, fun y H2 hy => ?_⟩
    obtain ⟨rfl, c', hc', rfl⟩ := hy
    have : c' = c := by
      have h2 : x.cps.toList[i]? = some c' := by simpa using hc'
      rw [e] at h2
      exact (Option.some.inj h2).symm
    subst this
    exact ⟨ad1, .refl, .str _, S1⟩
theorem di_seqS {tg : Expr} (ha : PE X a (TD X.K Tb ga)) : PI X tg a (TIt X.K Tb (wSeqS ga)) :=
  PI.of (PI.or (PI.or (pi_tup ha) (pi_list ha)) (pi_str ha)) fun σ H R' ⟨ad, ρ, st, R, S, w⟩ => by
    obtain ⟨d, s1, e1, w1⟩ := w.bind
    cases d with
    | tup ds =>
      refine .inl (.inl ⟨ad, ρ, st, R, S, ?_⟩)
      rw [e1]
      intro ad1 H1 x x1 r1 S1
      cases r1 with
      | @tup q xs _ h1 rs => exact ⟨q, rfl, ⟨xs, h1⟩, w1 ad1 H1 _ x1 S1 (gives_tup h1 rs _)⟩
    | rf n =>
      refine .inl (.inr ⟨ad, ρ, st, R, S, ?_⟩)
      rw [e1]
      intro ad1 H1 x x1 r1 S1
      cases r1 with
      | @rf _ q h1 _ =>
        simp only at w1
        cases e2 : cellItems s1 n with
        | none => simp only [e2] at w1; exact w1.elim
        | some ds =>
          simp only [e2] at w1
          obtain ⟨xs, g1, g2⟩ := S1.items e2 h1
          exact ⟨q, rfl, ⟨xs, g1⟩, w1 ad1 H1 _ x1 S1 (gives_list h1)⟩
    | str z =>
      refine .inr ⟨ad, ρ, st, R, S, ?_⟩
      rw [e1]
      intro ad1 H1 x x1 r1 S1
      cases r1 with
      | str _ => exact ⟨z, rfl, w1 ad1 H1 _ x1 S1 (gives_str z _)⟩
    | _ => exact w1.elim
end
end DL
/-! A dict that is a constant of the module. -/
namespace DL
open PySem L2
section
variable {X : Cx} {Tb : List (Addr × Str)} {a b o e : Expr} {ga gb g : GE} {p pos apos cpos : Pos} {K : PySem.W.Frag} {ad : List Addr} {H : Hp} {st : Store}
/-- the dict at d holds just these, by flat values -/
def DctC (prog : Program) (w : World) (es : Array DictEntry) (kvs : List (Str × D)) : Prop :=
  ∀ x : Str, ∃ v : V, RelV v ((findBy (strKind prog w).is es x).getD Value.none) ∧ ∀ K ad H, RV K ad H v (lookC kvs x)
theorem d_getC {y m : Str} {q0 : Addr} {es : Array DictEntry} {n : Nat} {kvs : List (Str × D)} {yp : Pos} (hy : X.mg y = some (.ref q0)) (hk : KDict X.K X.w q0 es n) (hf : DctC X.prog X.w es kvs) (hm : m = "get") (he : PE X e (TD X.K Tb g)) (hg : Gl X y := by rfl) (hd : (y == ("__debug__" : Str)) = false := by decide)
    (hbase : attributeBase (.Name y yp) m X.env (eval (.Name y yp) X.env) = eval (.Name y yp) X.env := by rfl) (hline : (apos.endLine == cpos.line) = true := by rfl) (ht : backTo cpos (starEach [e] X.env) = [(false, eval e X.env)] := by rfl) :
    PE X (.Call (.Attribute (.Name y yp) m apos) [e] [] cpos) (TD X.K Tb (gUn (vGetC kvs) g)) := by
  subst hm
  refine ⟨fun pins s σ H Q I hw => ?_⟩
  obtain ⟨ad, ρ, st, R, S, w⟩ := hw
  obtain ⟨d, s1, e1, w1⟩ := w.bind
  refine wpAny_Call_method1_late hbase hline ht ?_
  refine wpAny_mono ((pe_glob (v := .ref q0) hg hy rfl hd).run pins s σ H (fun v H' => v = .ref q0 ∧ H' = H) I ⟨rfl, rfl⟩) ?_ (fun _ _ h => h)
  rintro ov s1' ⟨v, H', I', rv, rfl, rfl⟩
  have hov : ov = Value.ref q0 := rv
  subst hov
  have hat := I'.kIn _ _ hk.at_
  refine ⟨"dict", "dict.get", F.plainAttrs_dict, F.slot_dict_get, F.type_dict_get, ⟨_, hat, rfl⟩, fun a ha => ?_, ?_⟩
  · cases ha
    exact ⟨_, hat, rfl⟩
  refine wpAny_dict_get1 (knd := strKind X.prog X.w) hk.low ?_
  have key : TD X.K Tb g σ H' fun v H2 => ∃ z, v = .str z ∧ ∀ u, (∀ K ad H, RV K ad H u (lookC kvs z)) → Q u H2 := by
    refine ⟨ad, ρ, st, R, S, ?_⟩
    rw [e1]
    intro ad1 H1 x x1 r1 S1
    cases r1 with
    | str z => exact ⟨z, rfl, fun u hu => w1 ad1 H1 u x1 (hu _ _ _) S1⟩
    | _ => exact w1.elim
  refine wpAny_mono (he.run pins s1' σ H' _ I' key) ?_ (fun _ _ h => h)
  rintro kv s2 ⟨v2, H2, I2, rv2, z, rfl, hq⟩
  obtain ⟨t, rfl⟩ : ∃ t, kv = Value.str z t := rv2
  have hat2 := I2.kIn _ _ hk.at_
  refine ⟨z, findBy (strKind X.prog X.w).is es, strKind_is _ _ _ _, ⟨_, es, n, hat2, ⟨rfl, rfl, rfl⟩, rfl, fun en hen => ?_, fun _ => rfl⟩, ?_⟩
  · obtain ⟨x, t', h1, h2⟩ := hk.lit.all en (by simpa using hen)
    refine ⟨x, by rw [h1]; exact strKind_is _ _ _ _, ?_⟩
    rw [h2]
    rfl
  · obtain ⟨u, hu1, hu2⟩ := hf z
    refine ⟨u, H2, ?_, hu1, hq u hu2⟩
    exact I2.turnedL (ch := []) (fun _ _ _ h => h) (fun b hb => by cases hb)
theorem dctC_of (prog : Program) (w : World) : ∀ l : List (Int × Str × Tok × Bool), DctC prog w (l.map fun q => (⟨q.1, .str q.2.1 q.2.2.1, .bool q.2.2.2⟩ : DictEntry)).toArray (l.map fun q => (q.2.1, D.bl q.2.2.2)) := by
  intro l x
  unfold findBy
  rw [List.find?_toArray]
  induction l with
  | nil => exact ⟨.non, rfl, fun _ _ _ => .non⟩
  | cons q r ih =>
    rw [List.map_cons, List.map_cons, List.find?_cons]
    have e : (strKind prog w).is x (Value.str q.2.1 q.2.2.1) = (q.2.1 == x) := rfl
    simp only [e]
    unfold lookC
    cases c : (q.2.1 == x) with
    | true => exact ⟨.bl q.2.2.2, rfl, fun _ _ _ => .bl _⟩
    | false => simp only [c]; exact ih
end
end DL
namespace DL
open PySem PySem.Spec PyProof.Rows L2

/-! ### set(xs) of a list of ints, with all that sorted asks of the set -/
section
variable {P : Program} {w : World} {A : Around} {E : Value → Shared → Prop} {s : Shared}
/-- what set.__init__ leaves of the fresh set -/
def SetMade (w : World) (s : Shared) (ns : List Int) (s2 : Shared) : Prop :=
  ∃ (h' : Heap) (tk c : Nat), s2 = { s with heap := h', toks := tk } ∧ SetR w h' s.heap.objs.size (fun j => decide (j ∈ ns)) c ∧ c ≤ ns.length ∧ ∀ b o, s.heap.get? b = some o → h'.get? b = some o
theorem set_filled {l : Addr} {items : Array Value} (ns : List Int) {Q : PySem.Fin → Shared → Prop} {B : Around} (hh : B.handled = none) (hl : s.heap.IsList l items) (hit : IntsAre items.toList ns) (hb : ns.length + 1 < scanBound)
    (q : ∀ s2, SetMade w s ns s2 → wpAny (model P w) B (PySem.ret Value.none) Q E s2) :
    wpAny (model P w) B (Builtin.«set.__init__» ⟨[.ref s.heap.objs.size, .ref l], []⟩) Q E { s with heap := s.heap.push { cls := .type "set", dict := none, data := .set #[] 0 (.fresh 0 0 (!w.params.followText "set-order")) } } := by
  have hn : items.size = ns.length := by rw [← Array.length_toList]; exact IntsAre.length hit
  obtain ⟨⟨cls, dict, data, slots⟩, ho, hc, nl, hd⟩ := hl
  simp only at hc hd
  subst hc hd
  have lt : l < s.heap.objs.size := Heap.lt_size ho
  have hS : (s.heap.push { cls := .type "set", dict := none, data := .set #[] 0 (.fresh 0 0 (!w.params.followText "set-order")) }).get? s.heap.objs.size = some { cls := .type "set", dict := none, data := .set #[] 0 (.fresh 0 0 (!w.params.followText "set-order")) } := Heap.get?_push_size _ rfl
  generalize hH : s.heap.push { cls := .type "set", dict := none, data := .set #[] 0 (.fresh 0 0 (!w.params.followText "set-order")) } = H1 at hS ⊢
  have hz : H1.objs.size = s.heap.objs.size + 1 := by rw [← hH]; exact Heap.size_push ..
  have ho1 : H1.get? l = some { cls := .type "list", dict := dict, data := .seq items nl, slots := slots } := by rw [← hH]; exact Heap.get?_push_of_some _ ho
  have hl1 : H1.IsList l items := ⟨_, ho1, rfl, nl, rfl⟩
  have t1 := F.sub_list_set
  have t2 := F.sub_list_frozenset
  have t3 : (Value.type "list" == Value.type "dict") = false := by decide
  unfold Builtin.«set.__init__» noKeywords Builtin.Frozenset.updateFrom
  generalize hPI : pyIter = PI
  wp_walk
  subst hPI
  refine wpAny_pyIter_list hl1 ?_
  refine wpAny_bind (wpAny_runValue ?_)
  refine set_update_ints ((Walks.list (by simp [hh]) _ l (by show l ≠ H1.objs.size; rw [hz]; exact Nat.ne_of_lt (Nat.lt_succ_of_lt lt)) items).toS) s.heap.objs.size
    (by simp only [List.mem_cons, List.mem_singleton, List.not_mem_nil, or_false, not_or]; constructor <;> (first | (show s.heap.objs.size ≠ H1.objs.size; rw [hz]; exact Nat.ne_of_lt (Nat.lt_succ_self _)) | exact Nat.ne_of_gt lt)) ns hn hb (fun i v hv => ?_) (items.size - 0) 0 _ (by omega) (Nat.zero_le _) ⟨⟨_, Heap.get?_push_size _ rfl, rfl, rfl⟩, hl1.push _⟩ ⟨0, Nat.le_refl 0, setR_new_at (Heap.get?_push_of_some _ hS)⟩ fun s' c m hc hR => ?_
  · have hi : i < ns.length := by rw [← hn]; exact (Array.getElem?_eq_some_iff.mp hv).1
    obtain ⟨t, e⟩ := IntsAre.int_at hit i v (by rw [Array.getElem?_toList]; exact hv)
    refine ⟨ns[i], t, List.getElem?_eq_getElem hi, ?_⟩
    rw [e, List.getD_eq_getElem?_getD, List.getElem?_eq_getElem hi] <;> rfl
  · obtain ⟨h', g2, d', tk', os'⟩ := s'
    have e1 : g2 = s.gens := m.gens
    have e2 : d' = s.drawn := m.drawn
    have e3 : os' = s.os := m.os
    subst e1 e2 e3
    show wpAny _ _ _ _ _ _
    refine wpAny_pure ?_
    show wpAny _ _ (PySem.ret Value.none) _ _ _
    refine q _ ⟨h', tk', c, rfl, hR, by rw [← hn]; exact hc, fun b o e => ?_⟩
    have lb : b < s.heap.objs.size := Heap.lt_size e
    have n1 : b ≠ H1.objs.size := by rw [hz]; exact Nat.ne_of_lt (Nat.lt_succ_of_lt lb)
    refine m.heap b o (by simp only [List.mem_cons, List.mem_singleton, List.not_mem_nil, or_false, not_or]; exact ⟨Nat.ne_of_lt lb, n1⟩) (Heap.get?_push_of_some _ ?_)
    rw [← hH]
    exact Heap.get?_push_of_some _ e
end
end DL
namespace DL
open PySem PySem.Spec PyProof.Rows L2
section
variable {P : Program} {w : World} {A : Around} {E : Value → Shared → Prop} {s : Shared}
theorem set_of_list {l : Addr} {items : Array Value} (ns : List Int) {Q : Value → Shared → Prop} (hh : A.handled = none) (hl : s.heap.IsList l items) (hit : IntsAre items.toList ns) (hb : ns.length + 1 < scanBound)
    (q : ∀ s2, SetMade w s ns s2 → Q (.ref s.heap.objs.size) s2) : wpAny (model P w) A (call (.type "set") [.ref l]) Q E s := by
  obtain ⟨c, tl, mro⟩ := F.called_set.mro
  have made := F.called_set.made
  have sub := F.called_set.sub
  have u1 := F.called_set.notType
  have u2 := F.called_set.canCreate
  have u3 := F.typeCall_set_1 (.ref l)
  refine wpAny_call (codeAny_of_tree ?_)
  show wpAny _ _ (callAny (.type "set") _) _ _ _
  refine wpAny_pure ⟨Code.quiet_builtin _ (by decide +kernel), codeAny_builtin F.entry_type_call ?_⟩
  rw [Around.under_plain (weight_type_call_type "set" [.ref l] []) rfl]
  repeat (any_goals (first | assumption | wp_step))
  refine codeAny_mono (code_set_led1 (.ref l) (E := E) (Q₁ := fun obj s1 => obj = .ref s.heap.objs.size ∧ s1 = { s with heap := s.heap.push { cls := .type "set", dict := none, data := .set #[] 0 (.fresh 0 0 (!w.params.followText "set-order")) } }) ⟨rfl, rfl⟩) fun r s1 hr => ?_
  cases r with
  | error e => exact hr
  | ok fl =>
    cases fl with
    | ret obj =>
      obtain ⟨e1, e2⟩ := hr
      subst e1 e2
      have ty : Shared.TypeIs { s with heap := s.heap.push { cls := .type "set", dict := none, data := .set #[] 0 (.fresh 0 0 (!w.params.followText "set-order")) } } (.ref s.heap.objs.size) "set" := ⟨_, Heap.get?_push_size _ rfl, rfl⟩
      have look := F.called_set.init.lookup
      have bnd := F.called_set.init.bind (.ref s.heap.objs.size)
      repeat (any_goals (first | assumption | wp_step))
      refine codeAny_mono (codeAny_call_builtin (R := wants (fun r s2 => r = .none ∧ SetMade w s ns s2) E) F.called_set.init.plain F.entry_set_init (check_set_init_1 ty ?_)) fun r2 s2 hr2 => ?_
      · exact set_filled ns (by simp [hh]) hl hit hb fun s2 h => wpAny_pure ⟨rfl, h⟩
      · cases r2 with
        | error e => exact hr2
        | ok fl2 =>
          cases fl2 with
          | ret v =>
            obtain ⟨e1, h2⟩ := hr2
            subst e1
            repeat (any_goals (first | assumption | wp_step))
            exact q _ h2
          | _ => exact hr2.elim
    | _ => exact hr.elim
end
end DL
namespace DL
open PySem PySem.Spec PyProof.Rows L2
theorem mem_onceI : ∀ {ns : List Int} {k : Int}, k ∈ onceI ns ↔ k ∈ ns
  | [], k => by simp [onceI]
  | n :: ns, k => by
    unfold onceI
    by_cases c : n ∈ ns
    · rw [if_pos c, mem_onceI, List.mem_cons]
      exact ⟨.inr, fun h => h.elim (fun e => e ▸ c) id⟩
    · rw [if_neg c, List.mem_cons, List.mem_cons, mem_onceI]
theorem nodup_onceI : ∀ ns : List Int, (onceI ns).Nodup
  | [] => List.nodup_nil
  | n :: ns => by
    unfold onceI
    by_cases c : n ∈ ns
    · rw [if_pos c]; exact nodup_onceI ns
    · rw [if_neg c]; exact List.nodup_cons.mpr ⟨fun h => c (mem_onceI.mp h), nodup_onceI ns⟩
theorem setI_uniq {ms ns : List Int} (h1 : ms.Pairwise (· < ·)) (h2 : ∀ k, k ∈ ms ↔ k ∈ ns) : ms = setI ns := by
  refine sortI_uniq ((List.perm_ext_iff_of_nodup (h1.imp fun {a b} z => Int.ne_of_lt z) (nodup_onceI ns)).mpr fun k => by rw [h2 k, mem_onceI]) (h1.imp fun {a b} z => Int.le_of_lt z)
section
variable {X : Cx} {Tb : List (Addr × Str)}
/-- set(a), a list of ints -/
def tSetI (K : PySem.W.Frag) (w : World) (ta : TE) : TE := fun σ H Q => ta σ H fun x H1 => ∃ (l : Addr) (ns : List Int), x = V.ref l ∧ SqL K H1 l (ns.map V.int) ∧ ns.length < 64 ∧
  ∀ (p : Addr) (c : Nat), H1 p = none → c ≤ ns.length → Q (.ref p) (upd H1 p (SetO w p (fun j => decide (j ∈ ns)) c))
theorem pe_setI {a : Expr} {ta : TE} {q pos : Pos} (calm : X.calm = true) (gs : Gl X "set") (ms : X.mg "set" = none) (ha : PE X a ta)
    (na : starEach [a] X.env = (false, eval a X.env) :: starEach [] X.env := by rfl) : PE X (.Call (.Name "set" q) [a] [] pos) (tSetI X.K X.w ta) := by
  constructor
  intro pins s σ H Q I h
  refine Call_ (ld_blt I gs ms boot_set ?_)
  refine callWith_type1 (args_cons (thn (ha.run pins s σ H _ I h) fun v s1 ⟨x, H1, I1, r1, q1⟩ => args_nil ?_) na) na rfl
  obtain ⟨l, ns, e1, hq, hlen, q1⟩ := q1
  subst e1
  cases r1
  obtain ⟨its, rv, pl, hz⟩ := I1.list hq
  refine set_of_list ns (I1.ok.hd calm) pl.isList (by have := ints_of_vals rv; simpa using this) (by unfold scanBound; omega) fun s2 ⟨h', tk, c, e2, R, hc, k⟩ => ?_
  subst e2
  have fresh : H1 s1.heap.objs.size = none := I1.hok.fresh (Nat.le_refl _)
  exact ⟨.ref s1.heap.objs.size, _, I1.laid (t' := tk) k (Nat.le_refl _) (setO_new R), rfl, q1 _ c fresh hc⟩
theorem dl_sortS {a : Expr} {gs : GA} {q p pos : Pos} {x y : Str} (hx : x = "sorted") (hy : y = "set") (hm : X.mg x = none) (ms : X.mg y = none) (ha : PE X a (TR X.K Tb gs)) (hg : Gl X x := by rfl) (gl : Gl X y := by rfl) (calm : X.calm = true := by rfl)
    (na : starEach [a] X.env = (false, eval a X.env) :: starEach [] X.env := by rfl) (he : starEach [.Call (.Name y q) [a] [] p] X.env = (false, eval (.Call (.Name y q) [a] [] p) X.env) :: starEach [] X.env := by rfl) (hdb : (x == ("__debug__" : Str)) = false := by decide) {p2 : Pos} :
    PE X (.Call (.Name x p2) [.Call (.Name y q) [a] [] p] [] pos) (TL X.K Tb (gSortS gs)) := by
  subst hx hy
  refine PE.of (pe_callB (id := "sorted") (cr_sortedSet calm) hg hm (by decide +kernel) (pa_cons (pe_setI calm gl ms ha na) pa_nil he) (by decide) hdb he) fun σ H Q ⟨ad, ρ, st, R, S, w⟩ => ?_
  obtain ⟨ds, s1, e1, w1⟩ := w.bind
  refine ⟨ad, ρ, st, R, S, ?_⟩
  rw [e1]
  intro ad1 H1 l xs x1 h1 r1 S1
  unfold sortSD at w1
  cases e2 : intsD ds with
  | none => rw [e2] at w1; exact w1.elim
  | some ns =>
    rw [e2] at w1
    simp only at w1
    by_cases c : ns.length < 64
    · rw [if_pos c] at w1
      obtain ⟨rfl, rfl⟩ := ints_rv r1 e2
      refine ⟨l, ns, rfl, h1, c, fun p c1 hp hc => ⟨p, _, c1, rfl, upd_same, by omega, fun ms q hs hmem _ hq => ?_⟩⟩
      obtain rfl := setI_uniq (ns := ns) hs (fun k => by rw [hmem k]; exact decide_eq_true_iff)
      have S2 := S1.upd_new (o := SetO X.w p (fun j => decide (j ∈ ns)) c1) hp
      exact w1 ad1 _ q _ ((x1.trans (ext_new hp)).trans (ext_new hq)) ((x1.trans (ext_new hp)).none_of S2 hq) (S2.not_mem hq) upd_same (rv_ints _) (S2.upd_new hq)
    · rw [if_neg c] at w1; exact w1.elim
end
end DL
namespace DL
open PySem L2
section
variable {K : PySem.W.Frag} {Tb : List (Addr × Str)}
theorem s_strA : Snd1 K Tb (fun x H Q => (fun (xs : List V) (H : Hp) (Q : VK) => (∃ i, xs = [.int i] ∧ i.natAbs.log2 < 1920 ∧ Q (.str (Str.ofString (toString i))) H) ∨ ∃ a, xs = [.str a] ∧ Q (.str a) H) [x] H Q) vStrA := by
  intro ad H st x d Q r S w
  cases r with
  | int i =>
    have w' : PostD K Tb ad H Q ((if i.natAbs.log2 < 1920 then ret (.str (Str.ofString (toString i))) else bad : M D) st) := w
    by_cases c : i.natAbs.log2 < 1920
    · rw [if_pos c] at w'; exact .inl ⟨i, rfl, c, w' ad H _ Ext.refl (.str _) S⟩
    · rw [if_neg c] at w'; exact w'.elim
  | str z => exact .inr ⟨z, rfl, w ad H _ Ext.refl (.str _) S⟩
  | _ => exact w.elim
end
end DL
/-! A caught exception is tracked: in its suite, and behind it. -/
namespace DL
open PySem PySem.Spec PyProof.Rows L2
theorem caO_ok {P : Program} {w : World} {H : Hp} {h : Heap} {a : Addr} {cls : Value} {d : Option Addr} {oe : Obj} {vs : Array Value} (e : h.get? a = some oe) (z : Zc cls d oe) (q : oe.data = .fields vs) : ObjOk P w H h a (CaO cls d a) :=
  ⟨⟨oe, vs, e, z, q⟩, ⟨oe, e⟩, fun _ _ ⟨o, v, q, r⟩ k => ⟨o, v, k o q, r⟩⟩
theorem none_ne {H : Hp} {a b : Addr} {o : HO} (e : H b = some o) (h : H a = none) : b ≠ a := fun z => by
  rw [z, h] at e; cases e
/-- an object that nobody tracked, and that wasn't there at the entry, is tracked from here on -/
theorem Inv.track {X : Cx} {pins : List (Addr × Obj)} {σ : L2.St} {H : Hp} {s : Shared} {a : Addr} {o : HO} (I : Inv X pins σ H s) (h0 : X.s_0.heap.get? a = none) (hn : H a = none) (hl : a ≠ X.env.locals) (hp : ∀ p ∈ X.pn ++ pins, p.1 ≠ a)
    (hc : ∀ x c, X.env.cells.lookup x = some c → c ≠ a) (new : ObjOk X.prog X.w (upd H a o) s.heap a o) : Inv X pins σ (upd H a o) s :=
  ⟨I.ok, I.os, I.bare, ⟨I.base.keep, I.base.slot, fun b u e n x => by
      rw [upd_ne (fun z => by rw [z, h0] at e; cases e)]; exact I.base.free b u e n x, I.base.there, fun b xs e => by
      rw [upd_ne (none_ne (I.base.tups b xs e) hn)]; exact I.base.tups b xs e, fun b u xs e => by
      rw [upd_ne (none_ne (I.base.frzs b u xs e) hn)]; exact I.base.frzs b u xs e, fun b ps e => by
      obtain ⟨m, q⟩ := I.base.tbls b ps e
      exact ⟨m, by rw [upd_ne (none_ne q hn)]; exact q⟩⟩, I.loc, I.cell, by rw [upd_ne (Ne.symm hl)]; exact I.free, fun x c e => by rw [upd_ne (hc x c e)]; exact I.freeC x c e, fun p h => by
      obtain ⟨e, n, k⟩ := I.pin p h
      exact ⟨e, by rw [upd_ne (hp p h)]; exact n, k⟩, HOk.laidN I.hok (fun _ _ q => q) hn new, I.len⟩
section
variable {X : Cx} {pins : List (Addr × Obj)} {σ : L2.St} {H : Hp} {s : Shared}
theorem invInSuite (I : Inv X pins σ H s) (a : Addr) : Inv (X.suite a (X.pn ++ pins)) [] σ H s :=
  ⟨I.ok.suite _ _, I.os, I.bare, I.base, I.loc, I.cell, I.free, I.freeC, fun p hp => I.pin p (by rw [List.append_nil] at hp; exact hp), I.hok, I.len⟩
theorem invOutSuite {a : Addr} {pn' : List (Addr × Obj)} (I : Inv (X.suite a (X.pn ++ pins)) pn' σ H s) (ok : X.Ok) : Inv X pins σ H s :=
  ⟨ok, I.os, I.bare, I.base, I.loc, I.cell, I.free, I.freeC, fun p hp => I.pin p (List.mem_append_left _ hp), I.hok, I.len⟩
end
/-- what the clause 'except x as n' wishes of an exception of the body; the exception is tracked -/
def wTrk (K : PySem.W.Frag) (c : Value) (i : Nat) (ts : TS) (Wout : WX) (D : Ends) : WX := fun cls d σ H =>
  ∃ b, PySem.W.exmOne K cls c = some b ∧ (b = true → ∀ a, H a = none → ts { nx := fun σ' H' => D.nx (σ'.set i none) H', rt := D.rt, bk := fun σ' H' => D.bk (σ'.set i none) H', ct := fun σ' H' => D.ct (σ'.set i none) H' } (σ.set i (some (.ref a))) (upd H a (CaO cls d a))) ∧
    (b = false → Wout cls d σ H)
section
variable {X : Cx} {x n : Str} {c : Value} {i : Nat} {body suite : List Stmt} {b0 : Stmt} {np pos pos' : Pos} {tb : WX → TS} {ts : TS} {Wout : WX}
theorem ps_try_trk (hex : X.ex = []) (hs : X.stack = X.env :: X.outer) (hf : X.env.frame = some X.env.locals) (hN : X.N.Nodup) (hi : X.N[i]? = some n) (hln : X.env.kindOf n = some .local) (hc : Names X x c) (tk : Takes X Wout)
    (hb : ∀ (W : WX) (pn : List (Addr × Obj)) (xe : Value → Shared → Prop), Takes (X.tr pn xe) W → PassesOwn (model X.prog X.w) X.A X.env xe → PSs (X.tr pn xe) body (tb W))
    (hsu : ∀ (a : Addr) (pn : List (Addr × Obj)), PSs (X.suite a pn) (b0 :: suite) ts) :
    PS X (.Try body [.ExceptHandler (some (.Name x np)) (some n) (b0 :: suite) pos'] [] [] pos) (fun D σ H => tb (wTrk X.K c i ts Wout D) D σ H) := by
  constructor
  intro pins s σ H D I h
  have ok := I.ok
  have fr : X.A.frames = some (X.env :: X.outer) := by rw [ok.frames, hs]
  refine wpAny_Try_except (wpAny_mono ((hb (wTrk X.K c i ts Wout D) (X.pn ++ pins) (fun e s1 => wpAny (model X.prog X.w) X.A (noteFrame e X.env) (fun _ s2 => wpAny (model X.prog X.w) X.A (setFlight e none) (fun _ s3 =>
    wpAny (model X.prog X.w) X.A (handleBy e X.env [.ExceptHandler (some (.Name x np)) (some n) (b0 :: suite) pos']) (SP X pins D) X.xe s3) X.xe s2) X.xe s1) (fun u s' xx => ?_) PassesOwn.looking).run [] s σ H D (I.toTry _) h) (fun f s1 sp => ?_) (fun e s1 he => he))
  · obtain ⟨a, B, sI, pins', σ', H', cls, d, rfl, J', nb, up, sky, na, os, ag, b, hb1, yes, no⟩ := xx
    have J : Inv X pins σ' H' sI := J'.ofTry ok
    rw [hs] at sky
    show wpAny (model X.prog X.w) X.A (noteFrame (.ref a) X.env) _ _ _
    refine Sky.land Zc.steady fr hf sky fun h3 fl3 up3 => ?_
    have J3 : Inv X pins σ' H' { s' with heap := h3 } := J.landed nb fl3.1 (up.trans up3) os ag
    obtain ⟨oe3, vs3, e3, z3, d3⟩ := fl3.there
    have nfr : a ∉ frs (X.env :: X.outer) := fun hm => by
      obtain ⟨_, o', e', nd⟩ := fl3.2.2.1.mem hm
      rw [e3] at e'; cases e'
      exact nd _ d3
    have nL : a ≠ X.env.locals := fun z => nfr (List.mem_filterMap.mpr ⟨X.env, List.mem_cons_self, by rw [hf, z]⟩)
    have nF : a ∉ X.fs := fun hm => by
      obtain ⟨e, he, q⟩ := List.mem_filterMap.mp hm
      exact nfr (List.mem_filterMap.mpr ⟨e, List.mem_cons_of_mem _ he, q⟩)
    -- it wasn't there at the entry
    have n0 : X.s_0.heap.get? a = none := by
      cases q : X.s_0.heap.get? a with
      | none => rfl
      | some o =>
        obtain ⟨o', q'⟩ := J.base.there a o q (by rw [hex]; simp)
        have q2 := nb a o' q' (by rw [hs]; exact nfr)
        rw [fl3.2.1] at q2
        cases q2
    have S3 := J3.suite e3 d3 na nL nF
    refine wpAny_handleBy_cons (codeAny_handlers_test ?_) (by intro q; cases q)
    have LT : PySem.W.Looks (model X.prog X.w) h3 (typeOf (.ref a)) cls := fun A Q E s k q => wpAny_typeOf_ref (k _ _ e3) (by rw [z3.1]; exact q)
    have LM := PySem.W.exm_one (M := model X.prog X.w) (J3.kIn) LT hb1
    have test : ∀ {Q : Value → Shared → Prop} {E : Value → Shared → Prop}, Q c { s' with heap := h3 } → wpAny (model X.prog X.w) (X.A.mark (some (.ref a))) (eval (.Name x np) X.env) Q E { s' with heap := h3 } := fun {Q E} q => by
      obtain ⟨hg, hdbg, hm | ⟨hm, hv, hnn⟩⟩ := hc
      · exact ld_glob (X := X.suite a ((a, oe3) :: (X.pn ++ pins))) S3 hg hm q hdbg
      · exact ld_blt (X := X.suite a ((a, oe3) :: (X.pn ++ pins))) S3 hg hm hv q hnn hdbg
    refine test (LM.here ?_)
    cases b with
    | true =>
      refine codeAny_handlers_suite_as ?_
      refine HandSPX.lands_againZ fl3 fun h4 fl4 up4 => ?_
      have J4 : Inv X pins σ' H' { s' with heap := h4 } := J.landed nb fl4.1 ((up.trans up3).trans up4) os ag
      obtain ⟨oe4, vs4, e4, z4, d4⟩ := fl4.there
      have T4 : Inv X pins σ' (upd H' a (CaO cls d a)) { s' with heap := h4 } := Inv.track (a := a) (o := CaO cls d a) J4 n0 na nL (fun p hp z => by
          obtain ⟨g1, _, g3, g4, _⟩ := J.pin p hp
          have g2 := nb p.1 p.2 g1 (fun hm => by
            rw [hs] at hm
            obtain ⟨en, hen, qf⟩ := List.mem_filterMap.mp hm
            rcases List.mem_cons.mp hen with rfl | hen
            · rw [hf] at qf; exact g3 (Option.some.inj qf).symm
            · exact g4 (List.mem_filterMap.mpr ⟨en, hen, qf⟩))
          rw [z, fl3.2.1] at g2
          cases g2) (fun y cc e z => by
          obtain ⟨v, oc, q1, q2⟩ := J4.cell y cc e
          rw [z, e4] at q1
          cases q1
          have p5 : ∀ v, oe4.data ≠ .cell v := fun v w => by rw [d4] at w; cases w
          first
            | exact p5 _ q2
            | exact p5 _ q2.2
            | exact p5 _ q2.1
            | exact p5 _ q2.2.1) (caO_ok e4 z4 d4)
      have S4 := invInSuite T4 a
      refine store_ok (X := X.suite a (X.pn ++ pins)) (v := .ref a) S4 hN hi (.inl hln) rfl (fun s5 S5 => ?_) (.inr hln)
      refine wpAny_mono ((hsu a (X.pn ++ pins)).run [] s5 _ _ _ S5 (yes rfl a na)) (fun f s6 sp => ?_) (fun _ _ z => False.elim z)
      have end_ : ∀ {σ6 : L2.St} {H6 : Hp} {Q : Shared → Prop}, Inv (X.suite a (X.pn ++ pins)) [] σ6 H6 s6 → (∀ s7, Inv X pins (σ6.set i none) H6 s7 → Q s7) →
          wpAny (model X.prog X.w) X.A (do bindName X.env n .none; unbindBehindTheSuite X.env n pos') (fun _ s7 => Q s7) X.xe s6 := fun {σ6 H6 Q} S6 hq => gone_ok (invOutSuite S6 ok) hN hi hln hq
      cases f with
      | next =>
        obtain ⟨σ6, H6, S6, q6⟩ := sp
        exact end_ S6 fun s7 J7 => ⟨_, _, J7, q6⟩
      | brk =>
        obtain ⟨σ6, H6, S6, q6⟩ := sp
        exact end_ S6 fun s7 J7 => ⟨_, _, J7, q6⟩
      | cont =>
        obtain ⟨σ6, H6, S6, q6⟩ := sp
        exact end_ S6 fun s7 J7 => ⟨_, _, J7, q6⟩
      | ret u =>
        obtain ⟨v6, σ6, H6, S6, r6, q6⟩ := sp
        exact end_ S6 fun s7 J7 => ⟨_, _, _, J7, r6, q6⟩
    | false =>
      show wpAny _ X.A (handleBy (.ref a) X.env []) _ _ _
      refine wpAny_handleBy_nil ?_
      obtain ⟨k1, k2, k3, oe, vs, T, oT, ts', he, hz, hd, h1, hr⟩ := id fl3
      unfold PySem.passOn
      refine wpAny_bind (wpAny_field he hd h1 ?_)
      rw [if_neg (show ¬ ((Value.ref T == Value.none) = true) from by simp)]
      have fin : wpAny (model X.prog X.w) X.A (setFlight (.ref a) X.env.frame) (fun _ s4 => wpAny (model X.prog X.w) X.A (throw (.ref a) : Sem Flow) (SP X pins D) X.xe s4) X.xe { s' with heap := h3 } := by
        rw [hf]
        refine HandSPX.setFlight_upZ fl3 fun h4 hh4 up4 => wpAny_throw (tk _ _ ?_)
        exact ⟨a, B, sI, pins, σ', H', cls, d, rfl, J, nb, (up.trans up3).trans up4, .inr (.inr (by rw [hs]; exact hh4)), na, os, ag, no rfl⟩
      first
        | exact wpAny_bind (wpAny_pure (wpAny_bind fin))
        | exact wpAny_bind fin
  · cases f with
    | next =>
      obtain ⟨σ', H', J', q⟩ := sp
      exact wpAny_execs_nil ⟨σ', H', J'.ofTry ok, q⟩
    | brk =>
      obtain ⟨σ', H', J', q⟩ := sp
      exact ⟨σ', H', J'.ofTry ok, q⟩
    | cont =>
      obtain ⟨σ', H', J', q⟩ := sp
      exact ⟨σ', H', J'.ofTry ok, q⟩
    | ret u =>
      obtain ⟨v, σ', H', J', r, q⟩ := sp
      exact ⟨v, σ', H', J'.ofTry ok, r, q⟩
end
/-! ### what a class of exceptions must say -/
structure XCls (K : PySem.W.Frag) (D : Addr) : Prop where
  cl : (PySem.W.clsIn K D).isSome = true
  hg : PySem.W.findIn K (.ref D) "__getattribute__" = some (some (.builtin "BaseException.__getattribute__"))
  hk : PySem.W.findIn K (.ref D) "__getattr__" = some none
  hs : PySem.W.subIn K (.ref D) (.type "BaseException") = some true
  ha : PySem.W.findIn K (.ref D) "__class__" = some (some (.builtin "object.__class__"))
  hn : PySem.W.specialIn K (.builtin "object.__class__") "__get__" = some (some (.builtin "getset_descriptor.__get__"))
  ht : PySem.W.takesIn K (.builtin "object.__class__") = some true
  hm : PySem.W.mroIn K D (.type "object") = some true
  hd : PySem.W.hasDictIn K D = true
  kp : PySem.W.keepIn K (.ref D) = true
  ty : PySem.W.typeIn K (.ref D) = some (.type "type")
def xclB (K : PySem.W.Frag) (D : Addr) : Bool :=
  (PySem.W.clsIn K D).isSome && (decide (PySem.W.findIn K (.ref D) "__getattribute__" = some (some (.builtin "BaseException.__getattribute__"))) && (decide (PySem.W.findIn K (.ref D) "__getattr__" = some none) &&
  (decide (PySem.W.subIn K (.ref D) (.type "BaseException") = some true) && (decide (PySem.W.findIn K (.ref D) "__class__" = some (some (.builtin "object.__class__"))) &&
  (decide (PySem.W.specialIn K (.builtin "object.__class__") "__get__" = some (some (.builtin "getset_descriptor.__get__"))) && (decide (PySem.W.takesIn K (.builtin "object.__class__") = some true) &&
  (decide (PySem.W.mroIn K D (.type "object") = some true) && (PySem.W.hasDictIn K D && (PySem.W.keepIn K (.ref D) && decide (PySem.W.typeIn K (.ref D) = some (.type "type")))))))))))
theorem xclB_ok {K : PySem.W.Frag} {D : Addr} (h : xclB K D = true) : XCls K D := by
  unfold xclB at h
  simp only [Bool.and_eq_true, decide_eq_true_eq] at h
  obtain ⟨h1, h2, h3, h4, h5, h6, h7, h8, h9, h10, h11⟩ := h
  exact ⟨h1, h2, h3, h4, h5, h6, h7, h8, h9, h10, h11⟩
/-- isinstance(e, c), one class: by the table l of the answers for each class that e can be of -/
def kitLB (K : PySem.W.Frag) (D : Addr) (ts : List (Value × Bool)) : Bool := ts.all fun p => decide (PySem.W.kitOne K (.ref D) p.1 = some p.2)
theorem kitLB_ok {K : PySem.W.Frag} {D : Addr} {ts : List (Value × Bool)} (h : kitLB K D ts = true) {c : Value} {b : Bool} (m : (c, b) ∈ ts) : PySem.W.kitOne K (.ref D) c = some b :=
  of_decide_eq_true (List.all_eq_true.mp h _ m)
def exmLB (K : PySem.W.Frag) (D : Addr) (ts : List (Value × Bool)) : Bool := ts.all fun p => decide (PySem.W.exmOne K (.ref D) p.1 = some p.2)
theorem exmLB_ok {K : PySem.W.Frag} {D : Addr} {ts : List (Value × Bool)} (h : exmLB K D ts = true) {c : Value} {b : Bool} (m : (c, b) ∈ ts) : PySem.W.exmOne K (.ref D) c = some b :=
  of_decide_eq_true (List.all_eq_true.mp h _ m)
section
variable {X : Cx} {pins : List (Addr × Obj)} {σ : L2.St} {H : Hp} {s : Shared}
/-- the caught exception's object -/
theorem instX (I : Inv X pins σ H s) {a D : Addr} {d : Option Addr} {us : List (Str × V)} (h : H a = some (CaO (.ref D) d a)) (xd : XdOk H d us) :
    ∃ (ox : Obj) (od : Option Obj), PySem.W.InstAt s.heap a ox D od ∧ (∀ f, match od with | some o => ∃ u, PySem.W.lookIn f o = some u ∧ RelO (us.lookup f) u | none => us = []) := by
  have hx : ObjOk X.prog X.w H s.heap a (CaO (.ref D) d a) := I.hok a _ h
  obtain ⟨⟨oe, vs, e, z, q⟩, _⟩ := hx
  cases d with
  | none => exact ⟨oe, none, ⟨e, z.1, by unfold PySem.W.notCls; rw [q] <;> rfl, by rw [z.2]; trivial⟩, fun _ => xd⟩
  | some dx =>
    have hd : ObjOk X.prog X.w H s.heap dx (.xd us) := I.hok dx _ xd
    obtain ⟨mA, hns, hr⟩ := hd
    obtain ⟨od, ho, hl⟩ := lookIn_ns hns
    exact ⟨oe, some od, ⟨e, z.1, by unfold PySem.W.notCls; rw [q] <;> rfl, by rw [z.2]; exact ho⟩, fun f => ⟨_, hl f, hr f⟩⟩
/-- isinstance(e, c) -/
def rIsX (K : PySem.W.Frag) : List V → Hp → VK → Prop := fun xs H Q => ∃ (a D : Addr) (d : Option Addr) (us : List (Str × V)) (c : V) (cv : Value) (b : Bool), xs = [.ref a, c] ∧ ClsV c cv ∧ H a = some (CaO (.ref D) d a) ∧ XdOk H d us ∧ XCls K D ∧ PySem.W.kitOne K (.ref D) cv = some b ∧ Q (.bl b) H
theorem call_isX : CallR X (.builtin "isinstance") (rIsX X.K) := by
  intro pins s σ H xs us Q I r h
  obtain ⟨a, D, d, us', c, cv, b, rfl, hcv, ea, xd, C, e, q⟩ := h
  obtain ⟨u1, u2, rfl, r1, r2⟩ := vals2 r
  have e2 := hcv.eq r2
  subst e2
  cases (show u1 = Value.ref a from r1)
  obtain ⟨ox, od, J, _⟩ := instX I ea xd
  exact PySem.W.kia_one (PySem.W.kitx_exc C.cl C.hg C.hk C.hs C.ha C.hn C.ht C.hm) I.kIn J e (fun z => nomatch z) fun tk => ⟨.bl b, H, I.tok tk, rfl, q⟩
/-- isinstance(e, (c1, c2, ..)) -/
def rIsXT (K : PySem.W.Frag) : List V → Hp → VK → Prop := fun xs H Q => ∃ (a D : Addr) (d : Option Addr) (us : List (Str × V)) (tp : Addr) (cs : List V) (cvs : List Value) (b : Bool), xs = [.ref a, .ref tp] ∧ H tp = some (.tup cs) ∧ Paired ClsV cs cvs ∧ H a = some (CaO (.ref D) d a) ∧ XdOk H d us ∧ XCls K D ∧ PySem.W.kitAny K (.ref D) cvs = some b ∧ Q (.bl b) H
theorem call_isXT : CallR X (.builtin "isinstance") (rIsXT X.K) := by
  intro pins s σ H xs us Q I r h
  obtain ⟨a, D, d, us', tp, cs, cvs, b, rfl, hT, hcv, ea, xd, C, e, q⟩ := h
  obtain ⟨u1, u2, rfl, r1, r2⟩ := vals2 r
  cases (show u1 = Value.ref a from r1)
  cases (show u2 = Value.ref tp from r2)
  obtain ⟨ox, od, J, _⟩ := instX I ea xd
  obtain ⟨_, its, rv, o, h1, h2, n, h3⟩ := (show ObjOk X.prog X.w H s.heap tp (.tup cs) from I.hok tp _ hT)
  have e3 := ClsV.all hcv rv
  subst e3
  obtain ⟨oc, od', dt, sl⟩ := o
  simp only at h2 h3
  subst h2 h3
  exact PySem.W.kia_tup (PySem.W.kitx_exc C.cl C.hg C.hk C.hs C.ha C.hn C.ht C.hm) I.kIn J h1 e (fun z => nomatch z) fun tk => ⟨.bl b, H, I.tok tk, rfl, q⟩
/-- e.f, f a field of the caught exception -/
def tXfT (K : PySem.W.Frag) (f : Str) (te : TE) : TE := fun σ H Q => te σ H fun x H1 => ∃ (a D : Addr) (d : Option Addr) (us : List (Str × V)) (v : V), x = .ref a ∧ H1 a = some (CaO (.ref D) d a) ∧ XdOk H1 d us ∧ XCls K D ∧ PySem.W.findIn K (.ref D) f = some none ∧ us.lookup f = some v ∧ Q v H1
theorem pe_xfT {e : Expr} {te : TE} {pos : Pos} {n : Str} (he : PE X e te) (hb : attributeBase e n X.env (eval e X.env) = eval e X.env := by rfl) : PE X (.Attribute e n pos) (tXfT X.K n te) := by
  refine ⟨fun pins s σ H Q I h => ?_⟩
  refine attr_of hb (thn (he.run pins s σ H _ I h) fun u s1 hh => ?_)
  obtain ⟨x, H1, I1, rx, a, D, d, us, v, ex, ea, xd, C, hno, hl, q⟩ := hh
  subst ex
  obtain rfl : u = Value.ref a := rx
  obtain ⟨ox, od, J, hu⟩ := instX I1 ea xd
  have hu := hu n
  cases od with
  | none => rw [show us = [] from hu] at hl; cases hl
  | some o =>
    obtain ⟨w, hw, ro⟩ := hu
    rw [hl] at ro
    obtain ⟨u, hu', ru⟩ := RelO.some_of ro
    rw [hu'] at hw
    exact HandSPX.exc_get I1.kIn J C.hg C.hk C.hs (PySem.W.findObj_own C.hd hno rfl hw) (handed_of ru) ⟨v, H1, I1.tok _, ru, q⟩
end
end DL
/-! Defs that raise, and what catches. -/
namespace DL
open PySem PySem.Spec L2
section
variable {K : PySem.W.Frag} {Tb : List (Addr × Str)}
def PostX (K : PySem.W.Frag) (Tb : List (Addr × Str)) (ad : List Addr) (H : Hp) (W : XK) (c : Str) (a : D) (st' : Store) : Prop :=
  ∀ ad' H' C d us, Ext K ad H ad' H' → RS K Tb ad' H' st' → ClsAt K c C → XdOk H' d us → RFs K ad' H' us (fsOf a) → W (.ref C) d H'
def PostDX (K : PySem.W.Frag) (Tb : List (Addr × Str)) (ad : List Addr) (H : Hp) (Q : VK) (W : XK) : Res D → Prop
  | .exc c a st' => PostX K Tb ad H W c a st'
  | r => PostD K Tb ad H Q r
def PostBX (K : PySem.W.Frag) (Tb : List (Addr × Str)) (ad : List Addr) (H : Hp) (Q : Bool → Hp → Prop) (W : XK) : Res Bool → Prop
  | .exc c a st' => PostX K Tb ad H W c a st'
  | r => PostB K Tb ad H Q r
def PostAX (K : PySem.W.Frag) (Tb : List (Addr × Str)) (ad : List Addr) (H : Hp) (Q : List V → Hp → Prop) (W : XK) : Res (List D) → Prop
  | .exc c a st' => PostX K Tb ad H W c a st'
  | r => PostA K Tb ad H Q r
def PostSX (K : PySem.W.Frag) (Tb : List (Addr × Str)) (ad : List Addr) (H : Hp) (E : Ends) (W : XK) : Res Fl → Prop
  | .exc c a st' => PostX K Tb ad H W c a st'
  | r => PostS K Tb ad H E r
def PostIX (K : PySem.W.Frag) (Tb : List (Addr × Str)) (ad : List Addr) (H : Hp) (R : It → Hp → Prop) (W : XK) : Res Walk → Prop
  | .exc c a st' => PostX K Tb ad H W c a st'
  | r => PostI K Tb ad H R r
variable {ad ad1 : List Addr} {H H1 : Hp} {W : XK}
theorem PostX.shift {c : Str} {a : D} {st : Store} (x : Ext K ad H ad1 H1) (h : PostX K Tb ad H W c a st) : PostX K Tb ad1 H1 W c a st := fun ad' H' C d us x' => h ad' H' C d us (x.trans x')
theorem PostSX.shift {E : Ends} {r : Res Fl} (x : Ext K ad H ad1 H1) (h : PostSX K Tb ad H E W r) : PostSX K Tb ad1 H1 E W r := by
  cases r with
  | stuck => exact h
  | exc c a st => exact PostX.shift x h
  | ok f st => exact PostS.shift x h
theorem PostDX.shift {Q : VK} {r : Res D} (x : Ext K ad H ad1 H1) (h : PostDX K Tb ad H Q W r) : PostDX K Tb ad1 H1 Q W r := by
  cases r with
  | stuck => exact h
  | exc c a st => exact PostX.shift x h
  | ok f st => exact PostD.shift (Q := Q) x (show PostD K Tb ad H Q (.ok f st) from h)
theorem PostAX.shift {Q : List V → Hp → Prop} {r : Res (List D)} (x : Ext K ad H ad1 H1) (h : PostAX K Tb ad H Q W r) : PostAX K Tb ad1 H1 Q W r := by
  cases r with
  | stuck => exact h
  | exc c a st => exact PostX.shift x h
  | ok f st => exact PostA.shift (Q := Q) x (show PostA K Tb ad H Q (.ok f st) from h)
theorem PostBX.shift {Q : Bool → Hp → Prop} {r : Res Bool} (x : Ext K ad H ad1 H1) (h : PostBX K Tb ad H Q W r) : PostBX K Tb ad1 H1 Q W r := by
  cases r with
  | stuck => exact h
  | exc c a st => exact PostX.shift x h
  | ok f st => exact PostB.shift (Q := Q) x (show PostB K Tb ad H Q (.ok f st) from h)
theorem xP_D {m : M D} {st : Store} {Q : VK} (h : PostDX K Tb ad H Q W (xP m st)) : PostD K Tb ad H Q (m st) := by
  unfold xP at h
  cases e : m st with
  | exc _ _ _ => rw [e] at h; exact h
  | stuck => rw [e] at h; exact h
  | ok a s => rw [e] at h; exact h
theorem xP_B {m : M Bool} {st : Store} {Q : Bool → Hp → Prop} (h : PostBX K Tb ad H Q W (xP m st)) : PostB K Tb ad H Q (m st) := by
  unfold xP at h
  cases e : m st with
  | exc _ _ _ => rw [e] at h; exact h
  | stuck => rw [e] at h; exact h
  | ok a s => rw [e] at h; exact h
theorem xP_A {m : M (List D)} {st : Store} {Q : List V → Hp → Prop} (h : PostAX K Tb ad H Q W (xP m st)) : PostA K Tb ad H Q (m st) := by
  unfold xP at h
  cases e : m st with
  | exc _ _ _ => rw [e] at h; exact h
  | stuck => rw [e] at h; exact h
  | ok a s => rw [e] at h; exact h
theorem xP_S {m : M Fl} {st : Store} {E : Ends} (h : PostSX K Tb ad H E W (xP m st)) : PostS K Tb ad H E (m st) := by
  unfold xP at h
  cases e : m st with
  | exc _ _ _ => rw [e] at h; exact h
  | stuck => rw [e] at h; exact h
  | ok a s => rw [e] at h; exact h
theorem xP_I {m : M Walk} {st : Store} {R : It → Hp → Prop} (h : PostIX K Tb ad H R W (xP m st)) : PostI K Tb ad H R (m st) := by
  unfold xP at h
  cases e : m st with
  | exc _ _ _ => rw [e] at h; exact h
  | stuck => rw [e] at h; exact h
  | ok a s => rw [e] at h; exact h
end
def TDX (K : PySem.W.Frag) (Tb : List (Addr × Str)) (W : WX) (g : GE) : TE := fun σ H Q => ∃ ad ρ st, RE K ad H σ ρ ∧ RS K Tb ad H st ∧ PostDX K Tb ad H Q (fun c d H' => W c d σ H') (g ρ st)
def TBX (K : PySem.W.Frag) (Tb : List (Addr × Str)) (W : WX) (g : GT) : TT := fun σ H Q => ∃ ad ρ st, RE K ad H σ ρ ∧ RS K Tb ad H st ∧ PostBX K Tb ad H Q (fun c d H' => W c d σ H') (g ρ st)
def TAX (K : PySem.W.Frag) (Tb : List (Addr × Str)) (W : WX) (g : GA) : TA := fun σ H Q => ∃ ad ρ st, RE K ad H σ ρ ∧ RS K Tb ad H st ∧ PostAX K Tb ad H Q (fun c d H' => W c d σ H') (g ρ st)
def TSX (K : PySem.W.Frag) (Tb : List (Addr × Str)) (W : WX) (g : GS) : TS := fun E σ H => ∃ ad ρ st, RE K ad H σ ρ ∧ RS K Tb ad H st ∧ PostSX K Tb ad H E (fun c d H' => W c d σ H') (g ρ st)
/-- the promise of a def that may raise -/
def spX (K : PySem.W.Frag) (Tb : List (Addr × Str)) (n : Nat) (g : GF) : Sp := fun vs H Q E => vs.length = n ∧ ∃ ad ds st, RVs K ad H vs ds ∧ RS K Tb ad H st ∧ PostDX K Tb ad H Q E (g ds st)
structure CalX (P : Program) (w : World) (K : PySem.W.Frag) (Tb : List (Addr × Str)) (mg : Str → Option Value) (base : Heap) (k : Nat) (x : Str) (n : Nat) (g : GF) : Prop where
  ex : ∃ (f : Addr) (fd : FuncData) (ps : List Str), FnOk P w K mg base (L2.CX P w) k f fd ps (spX K Tb n g) ∧ mg x = some (.ref f) ∧ PySem.W.keepIn K (.ref f) = true ∧ Binds K fd ps []
  len : ∀ ds st, ds.length ≠ n → g ds st = .stuck
section
variable {X : Cx} {Tb : List (Addr × Str)} {W : WX} {st1 : Stmt} {rest body orelse : List Stmt} {ga gb : GS} {t : GT} {g g1 g2 : GE} {a b c e : Expr} {es : List Expr} {gs gr : GA} {p pos : Pos}
theorem dx_pure (h : PE X e (TD X.K Tb g)) : PE X e (TDX X.K Tb W (xE g)) := PE.of h fun σ H Q ⟨ad, ρ, st, R, S, w⟩ => ⟨ad, ρ, st, R, S, xP_D w⟩
theorem tx_pure (h : PT X e (TB X.K Tb t)) : PT X e (TBX X.K Tb W (xE t)) := PT.of h fun σ H Q ⟨ad, ρ, st, R, S, w⟩ => ⟨ad, ρ, st, R, S, xP_B w⟩
theorem ax_pure (h : PA X es (TAs X.K Tb gs)) : PA X es (TAX X.K Tb W (xE gs)) := PA.of h fun σ H Q ⟨ad, ρ, st, R, S, w⟩ => ⟨ad, ρ, st, R, S, xP_A w⟩
theorem sx_pure (h : PS X st1 (TS' X.K Tb ga)) : PS X st1 (TSX X.K Tb W (xE ga)) := PS.of h fun σ H Q ⟨ad, ρ, st, R, S, w⟩ => ⟨ad, ρ, st, R, S, xP_S w⟩
theorem sx_one (h : PS X st1 (TSX X.K Tb W ga)) : PSs X [st1] (TSX X.K Tb W ga) := pss_one h
theorem sx_nil : PSs X [] (TSX X.K Tb W gNext) := PSs.of pss_nil fun D σ H ⟨ad, ρ, st, R, S, w⟩ => w ad H σ .refl R S
theorem sx_cons {W : XK} (h1 : PS X st1 (TSX X.K Tb (fun c d _ H => W c d H) ga)) (h2 : PSs X rest (TSX X.K Tb (fun c d _ H => W c d H) gb)) : PSs X (st1 :: rest) (TSX X.K Tb (fun c d _ H => W c d H) (gSeq ga gb)) :=
  PSs.of (pss_cons h1 h2) fun D σ H ⟨ad, ρ, st, R, S, w⟩ => by
    refine ⟨ad, ρ, st, R, S, ?_⟩
    unfold gSeq andThen at w
    cases e : ga ρ st with
    | stuck => rw [e] at w; exact w
    | exc c a s => rw [e] at w; exact w
    | ok f s1 =>
      rw [e] at w
      cases f with
      | nx ρ1 => exact fun ad1 H1 σ1 x1 R1 S1 => ⟨ad1, ρ1, s1, R1, S1, PostSX.shift x1 w⟩
      | bk ρ1 => exact w
      | ct ρ1 => exact w
      | rt d => exact w
theorem sx_if {c : Expr} (hc : PT X c (TBX X.K Tb W t)) (ha : PSs X body (TSX X.K Tb W ga)) (hb : PSs X orelse (TSX X.K Tb W gb)) : PS X (.If c body orelse pos) (TSX X.K Tb W (gIfS t ga gb)) :=
  PS.of (ps_if hc ha hb) fun D σ H ⟨ad, ρ, st, R, S, w⟩ => by
    refine ⟨ad, ρ, st, R, S, ?_⟩
    unfold gIfS andThen at w
    cases e : t ρ st with
    | stuck => rw [e] at w; exact w
    | exc c a s => rw [e] at w; exact w
    | ok k s1 =>
      rw [e] at w
      intro ad1 H1 x1 S1
      cases k with
      | true => exact ⟨ad1, ρ, s1, R.mono x1, S1, PostSX.shift x1 w⟩
      | false => exact ⟨ad1, ρ, s1, R.mono x1, S1, PostSX.shift x1 w⟩
theorem sx_raise {C : Addr} {bmB : List Value} {B newId initId : String} {x m : Str} {j : Nat} {p2 pos' : Pos} (tk : Takes X W) (F : ExcBaseFacts B newId initId bmB) (q : PySem.W.excIn X.K C bmB newId = true) (cC : ClsAt X.K x C) (gC : X.mg x = some (.ref C)) (T : XCls X.K C)
    (hg : Gl X x := by rfl) (calm : X.calm = true := by rfl) (hdb : (x == ("__debug__" : Str)) = false := by decide) : PS X (.Raise (some (.Call (.Name x p) [.Constant (.str m) j p2] [] pos)) none pos') (TSX X.K Tb W (gRaise x)) :=
  PS.of (ps_raise calm tk (pmk_own F q gC T.kp (raises_own T.hs T.ty) hg hdb)) fun D σ H ⟨ad, ρ, st, R, S, w⟩ => w ad H C none [] .refl S cC rfl .nil
/-- arguments -/
theorem ax_nil : PA X [] (TAX X.K Tb W gNil) := PA.of pa_nil fun σ H Q ⟨ad, ρ, st, R, S, w⟩ => w ad H [] .refl .nil S
theorem ax_cons (ha : PE X a (TDX X.K Tb W g)) (hr : PA X es (TAX X.K Tb W gs)) (hs : starEach (a :: es) X.env = (false, eval a X.env) :: starEach es X.env := by rfl) : PA X (a :: es) (TAX X.K Tb W (gCons g gs)) := by
  refine PA.of (pa_cons ha hr hs) fun σ H Q ⟨ad, ρ, st, R, S, w⟩ => ?_
  refine ⟨ad, ρ, st, R, S, ?_⟩
  unfold gCons andThen at w
  cases e1 : g ρ st with
  | stuck => rw [e1] at w; exact w
  | exc c a s => rw [e1] at w; exact w
  | ok d s1 =>
    rw [e1] at w
    intro ad1 H1 x x1 r1 S1
    refine ⟨ad1, ρ, s1, R.mono x1, S1, ?_⟩
    simp only at w
    cases e2 : gs ρ s1 with
    | stuck => rw [e2] at w; exact w
    | exc c a s => rw [e2] at w; exact PostX.shift x1 (show PostX X.K Tb ad H (fun c d H' => W c d σ H') c a s from w)
    | ok ds s2 =>
      rw [e2] at w
      exact fun ad2 H2 xs x2 r2 S2 => w ad2 H2 (x :: xs) (x1.trans x2) (.cons (r1.mono x2) r2) S2
/-- f(..) in an expression -/
theorem dx_call {k n : Nat} {x : Str} {g : GF} (C : CalX X.prog X.w X.K Tb X.mg X.base k x n g) (tk : Takes X W) (hr : Room k X.A) (ha : PA X (e :: es) (TAX X.K Tb W gs)) (hg : Gl X x := by rfl) (hdb : (x == ("__debug__" : Str)) = false := by decide)
    (he : starEach (e :: es) X.env = (false, eval e X.env) :: starEach es X.env := by rfl) (hpl : (backTo pos (starEach es X.env)).any (·.1) = false := by rfl) : PE X (.Call (.Name x p) (e :: es) [] pos) (TDX X.K Tb W (gCall g gs)) := by
  obtain ⟨f, fd, ps, F, hm, hk, hb⟩ := C.ex
  refine PE.of (pe_callS (E := WE W) F hr hg hm hk hb (fun σ => passAt tk σ) ha hdb he hpl) fun σ H Q ⟨ad, ρ, st, R, S, w⟩ => ?_
  refine ⟨ad, ρ, st, R, S, ?_⟩
  unfold gCall andThen at w
  cases e1 : gs ρ st with
  | stuck => rw [e1] at w; exact w
  | exc c a s => rw [e1] at w; exact w
  | ok ds s1 =>
    rw [e1] at w
    have w : PostDX X.K Tb ad H Q (fun c d H' => W c d σ H') (g ds s1) := w
    intro ad1 H1 vs x1 r1 S1
    refine ⟨?_, ad1, ds, s1, r1, S1, PostDX.shift x1 w⟩
    rw [r1.length]
    by_cases h : ds.length = n
    · exact h
    · rw [C.len ds s1 h] at w; exact w.elim
/-- f(..), where it raises nothing -/
theorem d_callN {k n : Nat} {x : Str} {g : GF} (C : CalX X.prog X.w X.K Tb X.mg X.base k x n g) (hr : Room k X.A) (ha : PA X (e :: es) (TAs X.K Tb gs)) (hg : Gl X x := by rfl) (hdb : (x == ("__debug__" : Str)) = false := by decide)
    (he : starEach (e :: es) X.env = (false, eval e X.env) :: starEach es X.env := by rfl) (hpl : (backTo pos (starEach es X.env)).any (·.1) = false := by rfl) : PE X (.Call (.Name x p) (e :: es) [] pos) (TD X.K Tb (gCall g gs)) := by
  obtain ⟨f, fd, ps, F, hm, hk, hb⟩ := C.ex
  refine PE.of (pe_call (E := fun _ _ _ => False) F hr hg hm hk hb .nil (fun _ _ _ _ _ _ _ ⟨_, _, _, _, _, _, _, _, _, _, _, _, z⟩ => z.elim) ha hdb he hpl) fun σ H Q ⟨ad, ρ, st, R, S, w⟩ => ?_
  obtain ⟨ds, s1, e1, w1⟩ := w.bind
  refine ⟨ad, ρ, st, R, S, ?_⟩
  rw [e1]
  intro ad1 H1 vs x1 r1 S1
  rw [List.append_nil]
  refine ⟨?_, ad1, ds, s1, r1, S1, ?_⟩
  · rw [r1.length]
    by_cases h : ds.length = n
    · exact h
    · rw [C.len ds s1 h] at w1; exact w1.elim
  · have w2 := w1.shift x1
    cases e2 : g ds s1 with
    | stuck => rw [e2] at w2; exact w2.elim
    | exc c a s => rw [e2] at w2; exact w2.elim
    | ok d s => rw [e2] at w2; exact w2
/-- f(..), f a def that raises nothing, of arguments that may raise -/
theorem dx_callP {k n : Nat} {x : Str} {g : GF} (C : Cal X.prog X.w X.K Tb X.mg X.base k x n g) (hr : Room k X.A) (ha : PA X (e :: es) (TAX X.K Tb W gs)) (hg : Gl X x := by rfl) (hdb : (x == ("__debug__" : Str)) = false := by decide)
    (he : starEach (e :: es) X.env = (false, eval e X.env) :: starEach es X.env := by rfl) (hpl : (backTo pos (starEach es X.env)).any (·.1) = false := by rfl) : PE X (.Call (.Name x p) (e :: es) [] pos) (TDX X.K Tb W (gCall (xF g) gs)) := by
  obtain ⟨f, fd, ps, F, hm, hk, hb⟩ := C.ex
  refine PE.of (pe_call F hr hg hm hk hb .nil pass0 ha hdb he hpl) fun σ H Q ⟨ad, ρ, st, R, S, w⟩ => ?_
  refine ⟨ad, ρ, st, R, S, ?_⟩
  unfold gCall andThen at w
  cases e1 : gs ρ st with
  | stuck => rw [e1] at w; exact w
  | exc c a s => rw [e1] at w; exact w
  | ok ds s1 =>
    rw [e1] at w
    intro ad1 H1 vs x1 r1 S1
    rw [List.append_nil]
    have w2 : PostD X.K Tb ad H Q (g ds s1) := xP_D w
    refine ⟨?_, ad1, ds, s1, r1, S1, w2.shift x1⟩
    rw [r1.length]
    by_cases h : ds.length = n
    · exact h
    · rw [C.len ds s1 h] at w2; exact w2.elim
theorem dx_op2 {r : R2} {h : O2} (s : Snd2 X.K Tb r h) {σ : L2.St} {H : Hp} {Q : VK} (w : TDX X.K Tb W (gOp (xO h) g1 g2) σ H Q) : tOp r (TDX X.K Tb W g1) (TDX X.K Tb W g2) σ H Q := by
  obtain ⟨ad, ρ, st, R, S, w⟩ := w
  refine ⟨ad, ρ, st, R, S, ?_⟩
  unfold gOp andThen at w
  cases e1 : g1 ρ st with
  | stuck => rw [e1] at w; exact w
  | exc c a s => rw [e1] at w; exact w
  | ok d s1 =>
    rw [e1] at w
    refine fun ad1 H1 x x1 r1 S1 => ⟨ad1, ρ, s1, R.mono x1, S1, ?_⟩
    simp only at w
    cases e2 : g2 ρ s1 with
    | stuck => rw [e2] at w; exact w
    | exc c a s => rw [e2] at w; exact PostX.shift x1 (show PostX X.K Tb ad H (fun c d H' => W c d σ H') c a s from w)
    | ok e s2 =>
      rw [e2] at w
      exact fun ad2 H2 y x2 r2 S2 => s ad2 H2 s2 x y d e Q (r1.mono x2) r2 S2 ((xP_D w).shift (x1.trans x2))
theorem dx_ix (ha : PE X a (TDX X.K Tb W g1)) (hb : PE X b (TDX X.K Tb W g2)) (hs : PlainIx b := by exact fun _ _ => rfl) : PE X (.Subscript a b pos) (TDX X.K Tb W (gOp (xO vIx) g1 g2)) :=
  PE.of (pe_ix ix_seq ha hb hs) fun σ H Q w => dx_op2 s_ix w
theorem dx_cmp {op : CmpOp} {r : R2} {h : O2} (ho : OpR X (compareOp op) r) (s : Snd2 X.K Tb r h) (ha : PE X a (TDX X.K Tb W g1)) (hb : PE X b (TDX X.K Tb W g2)) (hm : behindInMarks op b = false := by first | exact nomark _ | rfl) : PE X (.Compare a [op] [b] pos) (TDX X.K Tb W (gOp (xO h) g1 g2)) :=
  PE.of (pe_cmpR ho ha hb hm) fun σ H Q w => dx_op2 s w
/-- a test that is a call that may raise -/
theorem tx_val (h : PE X e (TDX X.K Tb W g)) (he : ∀ whole, isTrue e X.env whole = (do let v ← whole; standAt e.pos; holding [v] (truthy v)) := by intro _; rfl) : PT X e (TBX X.K Tb W (tB g)) :=
  PT.of (pt_val h he) fun σ H Q ⟨ad, ρ, st, R, S, w⟩ => by
    refine ⟨ad, ρ, st, R, S, ?_⟩
    unfold tB andThen at w
    cases e1 : g ρ st with
    | stuck => rw [e1] at w; exact w
    | exc c a s => rw [e1] at w; exact w
    | ok d s1 =>
      rw [e1] at w
      refine fun ad1 H1 x x1 r1 S1 => ?_
      cases d with
      | bl k => cases r1; exact ⟨k, rfl, w ad1 H1 x1 S1⟩
      | _ => exact w.elim
theorem tx_not (ha : PT X a (TBX X.K Tb W t)) : PT X (.UnaryOp .Not a pos) (TBX X.K Tb W (tNot t)) :=
  PT.of (pt_not ha) fun σ H Q ⟨ad, ρ, st, R, S, w⟩ => by
    refine ⟨ad, ρ, st, R, S, ?_⟩
    unfold tNot andThen at w
    cases e1 : t ρ st with
    | stuck => rw [e1] at w; exact w
    | exc c a s => rw [e1] at w; exact w
    | ok d s1 => rw [e1] at w; exact w
theorem tx_and1 (ha : PT X a (TBX X.K Tb W t)) : PW X (.BoolOp .And [a] pos) (TBX X.K Tb W t) := pw_and1 ha
theorem tx_or1 (ha : PT X a (TBX X.K Tb W t)) : PW X (.BoolOp .Or [a] pos) (TBX X.K Tb W t) := pw_or1 ha
theorem tx_or {u : GT} {rest : List Expr} (ha : PT X a (TBX X.K Tb W t)) (hb : PW X (.BoolOp .Or (b :: rest) pos) (TBX X.K Tb W u)) : PW X (.BoolOp .Or (a :: b :: rest) pos) (TBX X.K Tb W (tOr t u)) :=
  PW.of (pw_or ha hb) fun σ H Q ⟨ad, ρ, st, R, S, w⟩ => by
    refine ⟨ad, ρ, st, R, S, ?_⟩
    unfold tOr andThen at w
    cases e1 : t ρ st with
    | stuck => rw [e1] at w; exact w
    | exc c a s => rw [e1] at w; exact w
    | ok k s1 =>
      rw [e1] at w
      intro ad1 H1 x1 S1
      cases k with
      | true => exact w ad1 H1 x1 S1
      | false => exact ⟨ad1, ρ, s1, R.mono x1, S1, PostBX.shift x1 w⟩
theorem tx_and {u : GT} {rest : List Expr} (ha : PT X a (TBX X.K Tb W t)) (hb : PW X (.BoolOp .And (b :: rest) pos) (TBX X.K Tb W u)) : PW X (.BoolOp .And (a :: b :: rest) pos) (TBX X.K Tb W (tAnd t u)) :=
  PW.of (pw_and ha hb) fun σ H Q ⟨ad, ρ, st, R, S, w⟩ => by
    refine ⟨ad, ρ, st, R, S, ?_⟩
    unfold tAnd andThen at w
    cases e1 : t ρ st with
    | stuck => rw [e1] at w; exact w
    | exc c a s => rw [e1] at w; exact w
    | ok k s1 =>
      rw [e1] at w
      intro ad1 H1 x1 S1
      cases k with
      | false => exact w ad1 H1 x1 S1
      | true => exact ⟨ad1, ρ, s1, R.mono x1, S1, PostBX.shift x1 w⟩
theorem tx_w (h : PW X a (TBX X.K Tb W t)) : PT X a (TBX X.K Tb W t) := h.pt
theorem sx_expr (he : PE X e (TDX X.K Tb W g)) (hs : swapsWith e none pos.line X.env = pure false := by rfl) : PS X (.Expr e pos) (TSX X.K Tb W (gDrop g)) :=
  PS.of (ps_expr he hs) fun D σ H ⟨ad, ρ, st, R, S, w⟩ => by
    refine ⟨ad, ρ, st, R, S, ?_⟩
    unfold gDrop andThen at w
    cases e1 : g ρ st with
    | stuck => rw [e1] at w; exact w.elim
    | exc c a s => rw [e1] at w; exact w
    | ok d s1 =>
      rw [e1] at w
      exact fun ad1 H1 x x1 r1 S1 => w ad1 H1 σ x1 (R.mono x1) S1
theorem sx_ret (he : PE X e (TDX X.K Tb W g)) : PS X (.Return (some e) pos) (TSX X.K Tb W (gRet g)) :=
  PS.of (ps_ret he) fun D σ H ⟨ad, ρ, st, R, S, w⟩ => by
    refine ⟨ad, ρ, st, R, S, ?_⟩
    unfold gRet andThen at w
    cases e1 : g ρ st with
    | stuck => rw [e1] at w; exact w.elim
    | exc c a s => rw [e1] at w; exact w
    | ok d s1 =>
      rw [e1] at w
      exact fun ad1 H1 x x1 r1 S1 => w ad1 H1 x x1 r1 S1
theorem sx_asg {tgt : Expr} {gg : GG} {is : List Nat} (he : PE X e (TDX X.K Tb W g)) (hg : PG X tgt (TGt X.K Tb is gg)) (hs : swapsWithSole [tgt] e pos.line X.env = pure false := by rfl) (hw : swappedStores [tgt] e X.env = pure none := by rfl)
    (h1 : (assignEach [tgt] X.env).map (·.2) = [assign tgt X.env] := by rfl) : PS X (.Assign [tgt] e pos) (TSX X.K Tb W (gAsg g (xG gg))) :=
  PS.of (ps_asg he hg hs hw h1) fun D σ H ⟨ad, ρ, st, R, S, w⟩ => by
    refine ⟨ad, ρ, st, R, S, ?_⟩
    unfold gAsg andThen at w
    cases e1 : g ρ st with
    | stuck => rw [e1] at w; exact w.elim
    | exc c a s => rw [e1] at w; exact w
    | ok d s1 =>
      rw [e1] at w
      intro ad1 H1 x x1 r1 S1
      refine ⟨ad1, d, ρ, s1, r1, R.mono x1, S1, ?_⟩
      simp only [xG, xP] at w
      cases e2 : gg d ρ s1 with
      | stuck => rw [e2] at w; exact w.elim
      | exc c a s => rw [e2] at w; exact w.elim
      | ok ρ1 s2 =>
        rw [e2] at w
        exact fun ad2 H2 σ2 x2 R2 S2 _ _ => w ad2 H2 σ2 (x1.trans x2) R2 S2
/-- for, whose body may raise -/
theorem sx_for {W : XK} {tg iter : Expr} {gi : GI} {gg : GG} {is : List Nat} {gb : GS} (hi : PI X tg iter (TIt X.K Tb gi)) (hg : PG X tg (TGt X.K Tb is gg)) (hb : PSs X body (TSX X.K Tb (fun c d _ H => W c d H) gb)) (hp : PassesOwn (model X.prog X.w) X.A X.env X.xe) (hc : X.calm = true := by rfl)
    (hs : ∀ x, foldedSetIterable iter X.env x = pure x := by intro _; rfl) : PS X (.For tg iter body [] pos) (TSX X.K Tb (fun c d _ H => W c d H) (gFor (xE gi) (xG gg) gb)) :=
  PS.of (ps_for hp hc hi hg hb hs) fun D σ H ⟨ad, ρ, st, R, S, w⟩ => by
    refine ⟨ad, ρ, st, R, S, ?_⟩
    unfold gFor andThen at w
    simp only [xE, xP] at w
    cases e1 : gi ρ st with
    | stuck => rw [e1] at w; exact w.elim
    | exc c a s => rw [e1] at w; exact w.elim
    | ok k s1 =>
    rw [e1] at w
    have w1 : PostSX X.K Tb ad H D W (gLoop k.guard (xG gg) gb k.items ρ s1) := w
    intro ad1 H1 J x1 S1 G
    refine ⟨fun i m σ' H' => ∃ ad2 ρ2 st2, Ext X.K ad1 H1 ad2 H' ∧ RE X.K ad2 H' σ' ρ2 ∧ RS X.K Tb ad2 H' st2 ∧ m = k.items.length - i ∧ PostSX X.K Tb ad H D W (gLoop k.guard (xG gg) gb (k.items.drop i) ρ2 st2), ⟨_, ad1, ρ, s1, .refl, R.mono x1, S1, rfl, w1⟩, ?_⟩
    rintro i m σ' H' ⟨ad2, ρ2, st2, x2, R2, S2, hm, w2⟩
    cases hd : k.items.drop i with
    | nil =>
      rw [hd] at w2
      unfold gLoop at w2
      by_cases hgd : k.guard st2
      · rw [walkC_pos hgd] at w2
        exact .inl ⟨(G ad2 H' st2 x2 S2 hgd i).2 (drop_nil hd), w2 ad2 H' σ' (x1.trans x2) R2 S2⟩
      · rw [walkC_neg hgd] at w2; exact w2.elim
    | cons d rest =>
      obtain ⟨hd1, hd2, hd3⟩ := drop_cons hd
      rw [hd] at w2
      unfold gLoop at w2
      by_cases hgd : k.guard st2
      · rw [walkC_pos hgd] at w2
        obtain ⟨hgo, hyl⟩ := (G ad2 H' st2 x2 S2 hgd i).1 d hd1
        refine .inr ⟨hgo, fun σ3 H3 => ∃ ad2 ρ2 st2, Ext X.K ad1 H1 ad2 H3 ∧ RE X.K ad2 H3 σ3 ρ2 ∧ RS X.K Tb ad2 H3 st2 ∧ PostSX X.K Tb ad H D W (gLoop k.guard (xG gg) gb (k.items.drop (i + 1)) ρ2 st2), ?_, ?_⟩
        · rintro σ3 H3 ⟨a3, r3, t3, q1, q2, q3, q4⟩
          exact ⟨k.items.length - (i + 1), by omega, a3, r3, t3, q1, q2, q3, rfl, q4⟩
        · intro x H3 hy
          obtain ⟨ad3, x3, rv, S3⟩ := hyl x H3 hy
          unfold andThen at w2
          simp only [xG, xP] at w2
          refine ⟨ad3, d, ρ2, st2, rv, R2.mono x3, S3, ?_⟩
          cases e4 : gg d ρ2 st2 with
          | stuck => rw [e4] at w2; exact w2.elim
          | exc c a s => rw [e4] at w2; exact w2.elim
          | ok ρ3 s4 =>
          rw [e4] at w2
          intro ad4 H4 σ4 x4 R4 S4 _ _
          simp only at w2
          have x14 := (x2.trans x3).trans x4
          refine ⟨ad4, ρ3, s4, R4, S4, ?_⟩
          cases e5 : gb ρ3 s4 with
          | stuck => rw [e5] at w2; exact w2.elim
          | exc c a s => rw [e5] at w2; exact PostX.shift (c := c) (a := a) (st := s) (x1.trans x14) w2
          | ok f s5 =>
          rw [e5] at w2
          rw [hd2]
          cases f with
          | nx ρ5 => exact fun ad5 H5 σ5 x5 R5 S5 => ⟨ad5, ρ5, s5, x14.trans x5, R5, S5, w2⟩
          | ct ρ5 => exact fun ad5 H5 σ5 x5 R5 S5 => ⟨ad5, ρ5, s5, x14.trans x5, R5, S5, w2⟩
          | bk ρ5 => exact fun ad5 H5 σ5 x5 R5 S5 => w2 ad5 H5 σ5 ((x1.trans x14).trans x5) R5 S5
          | rt d => exact fun ad5 H5 v x5 r5 S5 => w2 ad5 H5 v ((x1.trans x14).trans x5) r5 S5
      · rw [walkC_neg hgd] at w2; exact w2.elim
end
/-! ### try -/
/-- which classes the clause of the class at Cc takes -/
def XM (K : PySem.W.Frag) (ts : List (Str × Bool)) (Cc : Value) : Prop := ∀ c b, ts.lookup c = some b → ∃ D, ClsAt K c D ∧ PySem.W.exmOne K (.ref D) Cc = some b
section
variable {X : Cx} {Tb : List (Addr × Str)} {body suite : List Stmt} {b0 : Stmt} {gb gu : GS} {x n : Str} {i : Nat} {c : Value} {np pos pos' : Pos} {ts : List (Str × Bool)} {W : WX}
theorem sx_try (hT : XM X.K ts c) (hc : Names X x c) (tk : Takes X W) (hN : X.N.Nodup)
    (hb : ∀ (W : WX) (pn : List (Addr × Obj)) (xe : Value → Shared → Prop), Takes (X.tr pn xe) W → PassesOwn (model X.prog X.w) X.A X.env xe → PSs (X.tr pn xe) body (TSX X.K Tb W gb))
    (hsu : ∀ (a : Addr) (pn : List (Addr × Obj)), PSs (X.suite a pn) (b0 :: suite) (TS' X.K Tb gu)) (hi : X.N[i]? = some n := by rfl) (hln : X.env.kindOf n = some .local := by rfl) (hex : X.ex = [] := by rfl) (hs : X.stack = X.env :: X.outer := by rfl) (hf : X.env.frame = some X.env.locals := by rfl) :
    PS X (.Try body [.ExceptHandler (some (.Name x np)) (some n) (b0 :: suite) pos'] [] [] pos) (TSX X.K Tb W (gTry ts i gb gu)) := by
  refine PS.of (ps_try_trk hex hs hf hN hi hln hc tk hb hsu) fun D σ H ⟨ad, ρ, st, R, S, w⟩ => ?_
  refine ⟨ad, ρ, st, R, S, ?_⟩
  unfold gTry at w
  cases e1 : gb ρ st with
  | stuck => rw [e1] at w; exact w.elim
  | ok f s => rw [e1] at w; exact w
  | exc k a s =>
    rw [e1] at w
    simp only at w
    intro ad1 H1 C d us x1 S1 hC xd rf
    cases e2 : ts.lookup k with
    | none => rw [e2] at w; exact w.elim
    | some b =>
      rw [e2] at w
      obtain ⟨C', hC', hm⟩ := hT k b e2
      cases hC.inj hC'
      refine ⟨b, hm, fun hb => ?_, fun hb => ?_⟩
      · subst hb
        simp only at w
        intro q hq
        have x2 : Ext X.K ad1 H1 ad1 (upd H1 q (CaO (.ref C) d q)) := ext_new hq
        have S2 := S1.upd_new (o := CaO (.ref C) d q) hq
        have S3 : RS X.K Tb (ad1 ++ [q]) (upd H1 q (CaO (.ref C) d q)) (s ++ [.oth (.exn k (fsOf a))]) := S2.pushC (c0 := .oth (.exn k (fsOf a))) ⟨C, d, us, hC, upd_same, xd.mono x2, rf.mono x2⟩ (S1.not_mem hq)
        have x3 : Ext X.K ad1 H1 (ad1 ++ [q]) (upd H1 q (CaO (.ref C) d q)) := x2.push (fre_none hq) S1
        refine ⟨ad1 ++ [q], ρ.set i (some (.ob s.length)), s ++ [.oth (.exn k (fsOf a))], (R.mono (x1.trans x3)).set i (.ob (by rw [← S1.len]; simp)), S3, ?_⟩
        unfold andThen xP at w
        cases e3 : gu (ρ.set i (some (.ob s.length))) (s ++ [.oth (.exn k (fsOf a))]) with
        | stuck => rw [e3] at w; exact w.elim
        | exc _ _ _ => rw [e3] at w; exact w.elim
        | ok f s' =>
          rw [e3] at w
          have x13 := x1.trans x3
          cases f with
          | nx ρ' => exact fun ad2 H2 σ2 y R2 S4 => w ad2 H2 _ (x13.trans y) (R2.setN i) S4
          | bk ρ' => exact fun ad2 H2 σ2 y R2 S4 => w ad2 H2 _ (x13.trans y) (R2.setN i) S4
          | ct ρ' => exact fun ad2 H2 σ2 y R2 S4 => w ad2 H2 _ (x13.trans y) (R2.setN i) S4
          | rt d => exact fun ad2 H2 v y r2 S4 => w ad2 H2 v (x13.trans y) r2 S4
      · subst hb
        exact w ad1 H1 C d us x1 S1 hC xd rf
theorem takes_never {X : Cx} : Takes X (fun _ _ _ _ => False) := fun u s' ⟨a, B, sI, pins, σ, H, cls, d, e, I, nb, up, sky, na, os, ag, h⟩ => h.elim
/-- a try out of which nothing goes -/
theorem s_try (hT : XM X.K ts c) (hc : Names X x c) (hN : X.N.Nodup)
    (hb : ∀ (W : WX) (pn : List (Addr × Obj)) (xe : Value → Shared → Prop), Takes (X.tr pn xe) W → PassesOwn (model X.prog X.w) X.A X.env xe → PSs (X.tr pn xe) body (TSX X.K Tb W gb))
    (hsu : ∀ (a : Addr) (pn : List (Addr × Obj)), PSs (X.suite a pn) (b0 :: suite) (TS' X.K Tb gu)) (hi : X.N[i]? = some n := by rfl) (hln : X.env.kindOf n = some .local := by rfl) (hex : X.ex = [] := by rfl) (hs : X.stack = X.env :: X.outer := by rfl) (hf : X.env.frame = some X.env.locals := by rfl) :
    PS X (.Try body [.ExceptHandler (some (.Name x np)) (some n) (b0 :: suite) pos'] [] [] pos) (TS' X.K Tb (gTry ts i gb gu)) := by
  refine PS.of (sx_try hT hc takes_never hN hb hsu hi hln hex hs hf) fun D σ H ⟨ad, ρ, st, R, S, w⟩ => ?_
  refine ⟨ad, ρ, st, R, S, ?_⟩
  cases e1 : gTry ts i gb gu ρ st with
  | stuck => rw [e1] at w; exact w.elim
  | exc _ _ _ => rw [e1] at w; exact w.elim
  | ok f s => rw [e1] at w; exact w
end
/-! ### a def -/
section
variable {P : Program} {w : World} {K : PySem.W.Frag} {Tb : List (Addr × Str)} {mg : Str → Option Value} {base : Heap}
theorem fnX_mk {x qual : Str} {sd : Stmt} {f : Addr} {fd : FuncData} {N ps : List Str} {k : Nat} {b : GS} (F : Fun K x qual sd f fd) (S : FnScope N ps (defScope sd))
    (body : ∀ (cdv : Value) (A : Around) (outer : List PySem.Env) (s : Shared) (H : Hp) (E : XK), Room k (A.deeper (PyProof.Rows.envOfC qual (defScope sd) s.heap.objs.size f cdv)) → PSs (cxOf (L2.CX P w) P w K mg base N qual (defScope sd) f cdv A outer s H E) (defBody sd) (TSX K Tb (fun c d _ H => E c d H) b)) :
    FnOk P w K mg base (L2.CX P w) (k + 1) f fd ps (spX K Tb ps.length (gFn ps.length N.length b)) := by
  refine F.okX S (fun vs H Q E h => h.1) (fun cdv A outer s H vs Q E hr h => ⟨TSX K Tb (fun c d _ H => E c d H) b, body cdv A outer s H E hr, ?_⟩)
  obtain ⟨hl, ad, ds, st, r, Sx, q⟩ := h
  refine ⟨ad, startE N.length ds, st, RE.start N.length N rfl r, Sx, ?_⟩
  unfold gFn andThen at q
  rw [if_pos (by rw [← r.length]; exact hl)] at q
  cases e1 : b (startE N.length ds) st with
  | stuck => rw [e1] at q; exact q.elim
  | exc c a s => rw [e1] at q; exact q
  | ok fl s1 =>
    rw [e1] at q
    cases fl with
    | nx ρ => exact fun ad' H' σ' x _ S' => q ad' H' .non x .non S'
    | rt d => exact fun ad' H' v x r' S' => q ad' H' v x r' S'
    | bk ρ => exact q.elim
    | ct ρ => exact q.elim
theorem takesX {N : List Str} {qual : Str} {scope : Scope} {f : Addr} {cdv : Value} {A : Around} {outer : List PySem.Env} {s : Shared} {H : Hp} {E : XK} (hf : (PyProof.Rows.envOfC qual scope s.heap.objs.size f cdv).frame = some (PyProof.Rows.envOfC qual scope s.heap.objs.size f cdv).locals := by rfl) :
    Takes (cxOf (L2.CX P w) P w K mg base N qual scope f cdv A outer s H E) fun cls d _ H => E cls d H := takes_of rfl hf rfl rfl
theorem calX_mk {x : Str} {f : Addr} {fd : FuncData} {ps : List Str} {k n : Nat} {b : GS} (F : FnOk P w K mg base (L2.CX P w) k f fd ps (spX K Tb ps.length (gFn ps.length n b))) (hm : mg x = some (.ref f)) (hk : PySem.W.keepIn K (.ref f) = true) (hb : Binds K fd ps []) :
    CalX P w K Tb mg base k x ps.length (gFn ps.length n b) := ⟨⟨f, fd, ps, F, hm, hk, hb⟩, fun ds st h => gFn_len h⟩
end
end DL
/-! Caught exceptions asked: isinstance, fields. -/
namespace DL
open PySem PySem.Spec PyProof.Rows L2
/-- isinstance of each class of the table, asked of the class cv -/
def XT (K : PySem.W.Frag) (l : List (Str × Bool)) (cv : Value) : Prop := ∀ c b, l.lookup c = some b → ∃ D, ClsAt K c D ∧ XCls K D ∧ PySem.W.kitOne K (.ref D) cv = some b
def XTs (K : PySem.W.Frag) (l : List (Str × Bool)) (cvs : List Value) : Prop := ∀ c b, l.lookup c = some b → ∃ D, ClsAt K c D ∧ XCls K D ∧ PySem.W.kitAny K (.ref D) cvs = some b
def XF (K : PySem.W.Frag) (cs : List Str) (f : Str) : Prop := ∀ c, c ∈ cs → ∃ D, ClsAt K c D ∧ XCls K D ∧ PySem.W.findIn K (.ref D) f = some none
theorem RFs.look {K : PySem.W.Frag} {ad : List Addr} {H : Hp} {f : Str} {d : D} : ∀ {us : List (Str × V)} {fs : List (Str × D)}, RFs K ad H us fs → fs.lookup f = some d → ∃ v, us.lookup f = some v ∧ RV K ad H v d
  | _, _, .nil, e => by cases e
  | _, _, .cons (f := g) h t, e => by
    by_cases q : f = g
    · subst q
      simp [List.lookup] at e ⊢
      subst e
      exact h
    · have q' : (f == g) = false := by simpa using q
      simp only [List.lookup, q'] at e ⊢
      exact RFs.look t e
section
variable {X : Cx} {Tb : List (Addr × Str)} {ad : List Addr} {H : Hp} {st : Store} {a b : Expr} {es : List Expr} {ga : GE} {p p2 pos : Pos} {l : List (Str × Bool)} {c : V} {cv : Value} {cs : List V} {cvs : List Value}
/-- the exception at a place of the store -/
theorem RS.exn {K : PySem.W.Frag} {n : Nat} {k : Str} {fs : List (Str × D)} {q : Addr} (S : RS K Tb ad H st) (h : st[n]? = some (.oth (.exn k fs))) (ha : ad[n]? = some q) : ∃ C d us, ClsAt K k C ∧ H q = some (CaO (.ref C) d q) ∧ XdOk H d us ∧ RFs K ad H us fs := S.cell n _ q h ha
theorem d_isX (hT : XT X.K l cv) (hcv : ClsV c cv) (hc : PE X b (tC c)) (hm : X.mg "isinstance" = none) (ha : PE X a (TD X.K Tb ga)) (hg : Gl X "isinstance" := by rfl)
    (he : starEach [a, b] X.env = (false, eval a X.env) :: starEach [b] X.env := by rfl) (he2 : starEach [b] X.env = (false, eval b X.env) :: starEach [] X.env := by rfl) (hpl : (backTo pos (starEach [b] X.env)).any (·.1) = false := by rfl) : PE X (.Call (.Name "isinstance" p) [a, b] [] pos) (TD X.K Tb (gUn (vIsX l) ga)) := by
  refine PE.of (pe_callB (id := "isinstance") call_isX hg hm (by decide +kernel) (pa_cons ha (pa_cons hc pa_nil he2) he) (by decide) (by decide) he hpl) fun σ H Q ⟨ad, ρ, st, R, S, w⟩ => ?_
  obtain ⟨d, s1, e1, w1⟩ := w.bind
  refine ⟨ad, ρ, st, R, S, ?_⟩
  rw [e1]
  intro ad1 H1 v x1 r1 S1
  show rIsX X.K [v, c] H1 Q
  cases r1 with
  | @ob n q h1 =>
    unfold vIsX at w1
    simp only at w1
    cases e2 : s1[n]? with
    | none => rw [e2] at w1; exact w1.elim
    | some cl =>
      rw [e2] at w1
      cases cl with
      | lst _ => exact w1.elim
      | dct _ _ => exact w1.elim
      | oth o =>
        cases o with
        | ins _ _ => exact w1.elim
        | exn k fs =>
          simp only at w1
          cases e3 : l.lookup k with
          | none => rw [e3] at w1; exact w1.elim
          | some t =>
            rw [e3] at w1
            obtain ⟨C, d, us, k1, k2, k3, k4⟩ := S1.exn e2 h1
            obtain ⟨D, q1, q2, q3⟩ := hT k t e3
            cases k1.inj q1
            exact ⟨q, C, d, us, c, cv, t, rfl, hcv, k2, k3, q2, q3, w1 ad1 H1 _ x1 (.bl _) S1⟩
  | _ => exact w1.elim
theorem boot_ValueErr : bootBuiltins "ValueError" = some (.type "ValueError") := by decide +kernel
/-- names of classes -/
structure PCs (X : Cx) (es : List Expr) (cs : List V) (cvs : List Value) : Prop where
  pa : PA X es (fun _ H Q => Q cs H)
  cl : Paired ClsV cs cvs
theorem pcs_nil : PCs X [] [] [] := ⟨pa_nil, .nil⟩
theorem pcs_cons (hc : PE X b (tC c)) (hcv : ClsV c cv) (t : PCs X es cs cvs) (hs : starEach (b :: es) X.env = (false, eval b X.env) :: starEach es X.env := by rfl) : PCs X (b :: es) (c :: cs) (cv :: cvs) := ⟨pa_cons hc t.pa hs, .cons hcv t.cl⟩
theorem d_isXT {k : Nat} (hT : XTs X.K l cvs) (hcs : PCs X es cs cvs) (hz : cs.length ≤ 1000) (hm : X.mg "isinstance" = none) (ha : PE X a (TD X.K Tb ga)) (hg : Gl X "isinstance" := by rfl)
    (he : starEach [a, .Tuple es k p2] X.env = (false, eval a X.env) :: starEach [.Tuple es k p2] X.env := by rfl) (he2 : starEach [.Tuple es k p2] X.env = (false, eval (.Tuple es k p2) X.env) :: starEach [] X.env := by rfl) (hpl : (backTo pos (starEach [.Tuple es k p2] X.env)).any (·.1) = false := by rfl) : PE X (.Call (.Name "isinstance" p) [a, .Tuple es k p2] [] pos) (TD X.K Tb (gUn (vIsX l) ga)) := by
  refine PE.of (pe_callB (id := "isinstance") call_isXT hg hm (by decide +kernel) (pa_cons ha (pa_cons (pe_tup hcs.pa) pa_nil he2) he) (by decide) (by decide) he hpl) fun σ H Q ⟨ad, ρ, st, R, S, w⟩ => ?_
  obtain ⟨d, s1, e1, w1⟩ := w.bind
  refine ⟨ad, ρ, st, R, S, ?_⟩
  rw [e1]
  intro ad1 H1 v x1 r1 S1
  refine ⟨by rw [sizeLine_eq]; omega, fun t ht => ?_⟩
  have x2 : Ext X.K ad1 H1 ad1 (upd H1 t (.tup cs)) := ext_new ht
  have S2 := S1.upd_new (o := .tup cs) ht
  have r2 := r1.mono x2
  show rIsXT X.K [v, .ref t] _ Q
  cases r2 with
  | @ob n q h1 =>
    unfold vIsX at w1
    simp only at w1
    cases e2 : s1[n]? with
    | none => rw [e2] at w1; exact w1.elim
    | some cl =>
      rw [e2] at w1
      cases cl with
      | lst _ => exact w1.elim
      | dct _ _ => exact w1.elim
      | oth o =>
        cases o with
        | ins _ _ => exact w1.elim
        | exn k fs =>
          simp only at w1
          cases e3 : l.lookup k with
          | none => rw [e3] at w1; exact w1.elim
          | some b =>
            rw [e3] at w1
            obtain ⟨C, d, us, k1, k2, k3, k4⟩ := S2.exn e2 h1
            obtain ⟨D, q1, q2, q3⟩ := hT k b e3
            cases k1.inj q1
            exact ⟨q, C, d, us, t, cs, cvs, b, rfl, upd_same, hcs.cl, k2, k3, q2, q3, w1 ad1 _ _ (x1.trans x2) (.bl _) S2⟩
  | _ => exact w1.elim
theorem d_fldX {cs : List Str} {f : Str} (hF : XF X.K cs f) (ha : PE X a (TD X.K Tb ga)) (hb : attributeBase a f X.env (eval a X.env) = eval a X.env := by rfl) : PE X (.Attribute a f pos) (TD X.K Tb (gUn (vFldX cs f) ga)) := by
  refine PE.of (pe_xfT (n := f) ha hb) fun σ H Q ⟨ad, ρ, st, R, S, w⟩ => ?_
  obtain ⟨d, s1, e1, w1⟩ := w.bind
  refine ⟨ad, ρ, st, R, S, ?_⟩
  rw [e1]
  intro ad1 H1 v x1 r1 S1
  cases r1 with
  | @ob n q h1 =>
    unfold vFldX at w1
    simp only at w1
    cases e2 : s1[n]? with
    | none => rw [e2] at w1; exact w1.elim
    | some cl =>
      rw [e2] at w1
      cases cl with
      | lst _ => exact w1.elim
      | dct _ _ => exact w1.elim
      | oth o =>
        cases o with
        | ins _ _ => exact w1.elim
        | exn k fs =>
          simp only at w1
          by_cases hk : k ∈ cs
          · rw [if_pos hk] at w1
            cases e3 : fs.lookup f with
            | none => rw [e3] at w1; exact w1.elim
            | some t =>
              rw [e3] at w1
              obtain ⟨C, d, us, k1, k2, k3, k4⟩ := S1.exn e2 h1
              obtain ⟨D, q1, q2, q3⟩ := hF k hk
              cases k1.inj q1
              obtain ⟨u, g1, g2⟩ := k4.look e3
              exact ⟨q, C, d, us, u, rfl, k2, k3, q2, q3, g1, w1 ad1 H1 u x1 g2 S1⟩
          · rw [if_neg hk] at w1; exact w1.elim
  | _ => exact w1.elim
end
end DL
namespace DL
open PySem PySem.Spec PyProof.Rows L2
section
variable {X : Cx} {Tb : List (Addr × Str)} {ad : List Addr} {H : Hp} {st : Store} {o e : Expr} {go g ga gb : GE} {gs : GA} {apos cpos p p2 p3 pos : Pos} {m : Str}
theorem d_ext (hm : m = "extend") (ho : PE X o (TD X.K Tb go)) (he : PE X e (TL X.K Tb gs)) (hbase : attributeBase o m X.env (eval o X.env) = eval o X.env := by rfl)
    (hline : (apos.endLine == cpos.line) = true := by rfl) (hs : starEach [e] X.env = (false, eval e X.env) :: starEach [] X.env := by rfl) : PE X (.Call (.Attribute o m apos) [e] [] cpos) (TD X.K Tb (gExt go gs)) := by
  subst hm
  refine PE.of (pe_bm PySem.F.plainAttrs_list PySem.F.slot_list_extend PySem.F.type_list_extend mt_extend ho (pa_cons he pa_nil hs) hbase (by rw [hs]; rfl) hline hs (by rfl)) fun σ H Q ⟨ad, ρ, st, R, S, w⟩ => ?_
  obtain ⟨d, s1, e1, w1⟩ := w.bind
  refine ⟨ad, ρ, st, R, S, ?_⟩
  rw [e1]
  intro ad1 H1 x x1 r1 S1
  obtain ⟨es, s2, e2, w2⟩ := w1.bind
  cases r1 with
  | @rf n q h1 hk_ =>
    obtain ⟨xs0, tl⟩ := lst_of S1 h1 hk_
    refine ⟨.inl ⟨rfl, xs0, tl⟩, ad1, ρ, s1, R.mono x1, S1, ?_⟩
    rw [e2]
    intro ad2 H2 r zs x2 fr nr hr rz S2
    unfold vExt at w2
    simp only at w2
    cases e5 : s2[n]? with
    | none => simp only [e5] at w2; exact w2.elim
    | some c =>
      cases c with
      | dct _ _ => simp only [e5] at w2; exact w2.elim
      | oth _ => simp only [e5] at w2; exact w2.elim
      | lst ds =>
        simp only [e5] at w2
        by_cases c : ds.length + es.length ≤ SZ
        · rw [if_pos c] at w2
          have h2 := x2.at h1
          obtain ⟨xs, g1, g2⟩ := S2.cell n _ q e5 h2
          obtain ⟨S4, x4⟩ := S2.set (es := ds ++ es) (xs := xs ++ zs) e5 h2 (g2.append rz)
          exact ⟨q, r, xs, zs, rfl, rfl, g1, hr, by rw [g2.length, rz.length]; exact SZ_line c, w2 ad2 _ .non ((x1.trans x2).trans x4) .non S4⟩
        · rw [if_neg c] at w2; exact w2.elim
  | _ => exact w2.elim
theorem s_pow {K : PySem.W.Frag} : Snd2 K Tb (rI CPow fun i j => .int (i ^ j.toNat)) vPow := sI (g := fun i j => .int (i ^ j.toNat)) (fun _ _ _ _ => .int _) fun d e st => by
  cases d <;> cases e <;> try exact .inr rfl
  rename_i i j
  by_cases h : 0 ≤ j ∧ j ≤ 1000000 ∧ i.natAbs < 2 ^ 64
  · exact .inl ⟨i, j, rfl, rfl, h, by simp only [vPow, if_pos h]; rfl⟩
  · exact .inr (by simp only [vPow, if_neg h]; rfl)
theorem d_revL {k : Nat} {p1 : Pos} (he : PE X e (TD X.K Tb g)) : PE X (.Subscript e (.Slice none none (some (.UnaryOp .USub (.Constant (.int 1) k p1) p2)) p3) pos) (TD X.K Tb (gUn vRev g)) := by
  refine PE.of (pe_revL he) fun σ H Q ⟨ad, ρ, st, R, S, w⟩ => ?_
  obtain ⟨d, s1, e1, w1⟩ := w.bind
  refine ⟨ad, ρ, st, R, S, ?_⟩
  rw [e1]
  intro ad1 H1 v x1 rv S1
  cases rv with
  | @rf n q h1 hk_ =>
    unfold vRev at w1
    simp only at w1
    cases e2 : cellItems s1 n with
    | none => rw [e2] at w1; exact w1.elim
    | some ds =>
      rw [e2] at w1
      obtain ⟨xs, g1, g2⟩ := S1.items e2 h1
      refine ⟨q, xs, rfl, g1, ?_⟩
      have r : RVs X.K ad1 H1 xs.reverse ds.reverse := by
        have key : ∀ {vs : List V} {ds : List D}, RVs X.K ad1 H1 vs ds → RVs X.K ad1 H1 vs.reverse ds.reverse := by
          intro vs ds r
          induction vs generalizing ds with
          | nil => cases r; exact .nil
          | cons v vs ih =>
            cases r with
            | cons h t => rw [List.reverse_cons, List.reverse_cons]; exact (ih t).append (.cons h .nil)
        exact key g2
      exact PostD.newLst S1 r (PostD.shift x1 w1)
  | _ => exact w1.elim
/-! ### count of a truth value -/
def isBl (b : Bool) : Value → Bool
  | .bool c => c == b
  | _ => false
theorem bl_vals {K : PySem.W.Frag} : ∀ {xs : List V} {ds : List D} {bs : List Bool}, RVs K ad H xs ds → bools ds = some bs → xs = bs.map V.bl
  | _, _, _, .nil, e => by cases e; rfl
  | _, _, _, .cons h t, e => by
    cases h with
    | bl b =>
      simp only [bools] at e
      cases q : bools _ with
      | none => rw [q] at e; cases e
      | some bs' =>
        rw [q] at e
        cases e
        rw [bl_vals t q]; rfl
    | _ => cases e
theorem vals_bl : ∀ {bs : List Bool} {us : List Value}, Vals (bs.map V.bl) us → us = bs.map Value.bool
  | [], _, .nil => rfl
  | b :: bs, _, .cons h t => by
    rw [show _ = Value.bool b from h, vals_bl t]; rfl
theorem count_bl (b : Bool) : ∀ bs : List Bool, (bs.map Value.bool).countP (isBl b) = bs.count b
  | [] => rfl
  | c :: bs => by
    rw [List.map_cons, List.countP_cons, List.count_cons, count_bl b bs]
    rfl
def rCntB (K : PySem.W.Frag) : V → List V → Hp → VK → Prop := fun x xs H Q => ∃ (q : Addr) (bs : List Bool) (b : Bool), x = .ref q ∧ xs = [.bl b] ∧ SqL K H q (bs.map V.bl) ∧ Q (.int (bs.count b : Nat)) H
theorem mt_countB : MtR X "list.count" (rCntB X.K) := by
  intro pins s σ H x xs v us Q I rx rxs h
  obtain ⟨q, bs, b, rfl, rfl, hs, w⟩ := h
  cases rx
  obtain ⟨u, rfl, ru⟩ := rxs.one
  cases (show u = Value.bool b from ru)
  obtain ⟨its, rv, ⟨⟨cls, dd, data, sl⟩, n, ho, hc, hdn, hd⟩, hlen⟩ := I.list hs
  simp only at hc hd
  subst hc hd
  have ei := vals_bl rv
  refine call_meets PySem.F.slot_list_count ⟨_, ho, rfl⟩ PySem.F.entry_list_count (PySem.F.args_list_count_2 _ _) (SeqAt.list_countAt q its.toArray n dd sl (.bool b) (isBl b)) ⟨ho, fun y hy => ?_, ?_⟩
  · have hy' : y ∈ bs.map Value.bool := by rw [← ei]; simpa using hy
    obtain ⟨c, _, rfl⟩ := List.mem_map.mp hy'
    exact SeqAt.EqAt.bool_bool c b
  · have ec : its.toArray.toList.countP (isBl b) = bs.count b := by
      show its.countP (isBl b) = _
      rw [ei, count_bl]
    refine ⟨.int (bs.count b : Nat), H, I.tok _, ⟨s.toks, ?_⟩, w⟩
    show Value.int ((its.toArray.toList.countP (isBl b) : Nat) : Int) s.toks = Value.int ((bs.count b : Nat) : Int) s.toks
    rw [ec]
theorem d_cntB (hm : m = "count") (ho : PE X o (TD X.K Tb ga)) (he : PE X e (TD X.K Tb gb)) (hbase : attributeBase o m X.env (eval o X.env) = eval o X.env := by rfl)
    (hline : (apos.endLine == cpos.line) = true := by rfl) (hs : starEach [e] X.env = (false, eval e X.env) :: starEach [] X.env := by rfl) : PE X (.Call (.Attribute o m apos) [e] [] cpos) (TD X.K Tb (gOp vCntB ga gb)) := by
  subst hm
  refine PE.of (pe_bm PySem.F.plainAttrs_list PySem.F.slot_list_count PySem.F.type_list_count mt_countB ho (da_cons he da_nil hs) hbase (by rw [hs]; rfl) hline hs (by rfl)) fun σ H Q ⟨ad, ρ, st, R, S, w⟩ => ?_
  obtain ⟨d, s1, e1, w1⟩ := w.bind
  refine ⟨ad, ρ, st, R, S, ?_⟩
  rw [e1]
  intro ad1 H1 x x1 r1 S1
  obtain ⟨v, s2, e2, w2⟩ := w1.bind
  have e : gCons gb gNil ρ s1 = .ok [v] s2 := by unfold gCons gNil andThen; rw [e2]; rfl
  cases r1 with
  | @rf n q h1 hk_ =>
    obtain ⟨xs0, tl⟩ := lst_of S1 h1 hk_
    refine ⟨.inl ⟨rfl, xs0, tl⟩, ad1, ρ, s1, R.mono x1, S1, ?_⟩
    rw [e]
    intro ad2 H2 vs x2 r2 S2
    cases r2 with
    | cons r3 r4 =>
      cases r4
      unfold vCntB at w2
      cases r3 with
      | bl b =>
        simp only at w2
        cases e3 : (cellItems s2 n).bind bools with
        | none => rw [e3] at w2; exact w2.elim
        | some bs =>
          rw [e3] at w2
          obtain ⟨ds, g1, g2⟩ := Option.bind_eq_some_iff.mp e3
          obtain ⟨xs, g3, g4⟩ := S2.items g1 (x2.at h1)
          have := bl_vals g4 g2
          subst this
          exact ⟨q, bs, b, rfl, rfl, g3, w2 ad2 H2 _ (x1.trans x2) (.int _) S2⟩
      | _ => exact w2.elim
  | _ =>
    unfold vCntB at w2
    exact w2.elim
theorem d_sum {a : Expr} {gs : GA} {x : Str} (hx : x = "sum") (hm : X.mg x = none) (ha : PE X a (TL X.K Tb gs)) (hc : X.calm = true := by rfl) (hg : Gl X x := by rfl) (he : starEach [a] X.env = (false, eval a X.env) :: starEach [] X.env := by rfl) (hdb : (x == ("__debug__" : Str)) = false := by decide) :
    PE X (.Call (.Name x p) [a] [] pos) (TD X.K Tb (gSum gs)) := by
  subst hx
  refine PE.of (pe_callB (id := "sum") (cr_sum hc) hg hm (by decide +kernel) (pa_cons ha pa_nil he) (by decide) hdb he) fun σ H Q w => run_cL (fun ad H st q xs ds Q h r S w => ?_) w
  cases e : intsD ds with
  | none => simp only [e] at w; exact w.elim
  | some ns =>
    simp only [e] at w
    obtain ⟨rfl, rfl⟩ := ints_rv r e
    exact ⟨q, ns, rfl, SqL.of h, w ad H _ Ext.refl (.int _) S⟩
theorem RVs.dropLast {K : PySem.W.Frag} {vs : List V} {ds : List D} (r : RVs K ad H vs ds) : RVs K ad H vs.dropLast ds.dropLast := by
  rw [List.dropLast_eq_take, List.dropLast_eq_take, r.length]
  exact r.take _
theorem d_pop0 (hm : m = "pop") (ho : PE X o (TD X.K Tb go)) (hbase : attributeBase o m X.env (eval o X.env) = eval o X.env := by rfl)
    (hline : (apos.endLine == cpos.line) = true := by rfl) : PE X (.Call (.Attribute o m apos) [] [] cpos) (TD X.K Tb (gUn vPop go)) := by
  subst hm
  refine PE.of (pe_bm0 PySem.F.plainAttrs_list PySem.F.slot_list_pop PySem.F.type_list_pop mt_pop ho hbase hline) fun σ H Q ⟨ad, ρ, st, R, S, w⟩ => ?_
  obtain ⟨d, s1, e1, w1⟩ := w.bind
  refine ⟨ad, ρ, st, R, S, ?_⟩
  rw [e1]
  intro ad1 H1 x x1 r1 S1
  unfold vPop at w1
  cases r1 with
  | @rf n q h1 hk_ =>
    simp only at w1
    cases e5 : s1[n]? with
    | none => simp only [e5] at w1; exact w1.elim
    | some cl =>
      cases cl with
      | dct _ _ => simp only [e5] at w1; exact w1.elim
      | oth _ => simp only [e5] at w1; exact w1.elim
      | lst ds =>
        simp only [e5] at w1
        cases e6 : ds[ds.length - 1]? with
        | none => simp only [e6] at w1; exact w1.elim
        | some y =>
          simp only [e6] at w1
          obtain ⟨xs, g1, g2⟩ := S1.cell n _ q e5 h1
          obtain ⟨v, g3, g4⟩ := g2.get e6
          obtain ⟨S4, x4⟩ := S1.set (es := ds.dropLast) (xs := xs.dropLast) e5 h1 g2.dropLast
          exact ⟨.inl ⟨rfl, xs, SqL.of g1⟩, q, xs, v, rfl, rfl, g1, by rw [g2.length]; exact g3, w1 ad1 _ v (x1.trans x4) (g4.mono x4) S4⟩
  | _ => exact w1.elim
end
end DL
namespace L2
open PySem PySem.Spec PyProof.Rows
theorem turn_longrange {P : Program} {w : World} {K : PySem.W.Frag} {tg : Expr} (it : Addr) (lo : Int) (n : Nat) : Turn P w K tg (Itr lo n) [it] it (fun i h => IsLongIter h it (lo + (i : Nat) * 1) ((n : Int) - (i : Nat)) 1) where
  mem := by simp
  obj := fun i h st b hb => by
    have e : b = it := by simpa using hb
    subst e
    exact ⟨_, st, fun v z => by
      have z' : Data.fields _ = Data.cell v := z
      cases z'⟩
  keep := fun i h h' st k => k it (by simp) _ st
  item := by
    intro X hP hw hK hc i pins s σ H E I hf st hg
    subst hP hw hK
    obtain ⟨f0, f1, f2, f3, f4, f5⟩ := hf it (by simp)
    have W := Walks.longrange (prog := X.prog) (w := X.w) (I.ok.hd hc) it lo 1 n
    refine W.item i s _ _ hg st fun v h' tk hv st' kk => ?_
    obtain ⟨t, rfl⟩ := hv
    have I1 : Inv X pins σ H { s with heap := h', toks := tk } := I.turned (fun b o hb e => kk b o (by simpa using hb) e) f0 f1 f3 f4 f5
    refine ⟨_, rfl, go_of (s := { s with heap := h', toks := tk }) (n := "longrange_iterator") st' rfl rfl (by decide) ⟨.int (lo + i), H, I1, ⟨t, ?_⟩, ⟨rfl, rfl⟩, st', fun b hb => (hf b hb).1⟩⟩
    rw [Int.mul_one]
  done := by
    intro X hP hw hK hc i pins s σ H E I hf st hg
    subst hP hw hK
    obtain ⟨f0, f1, f2, f3, f4, f5⟩ := hf it (by simp)
    exact wpAny_pyNext_long_end (I.ok.hd hc) st (by have : n ≤ i := hg; omega) fun h' eb => ⟨rfl, I.turned (t' := s.toks) (fun b o hb e => eb b o hb e) f0 f1 f3 f4 f5⟩
  self := fun _ _ _ _ _ st h => wpAny_pyIter_longiter st h
section
variable {X : Cx} {tg : Expr}
theorem range_itB {pins : List (Addr × Obj)} {σ : St} {H : Hp} {s : Shared} {R : It → Hp → Prop} {E : Value → Shared → Prop} {lo hi : Int} {t u v : Tok} {tk : Nat} (I : Inv X pins σ H s)
    (q : R (Itr lo (hi - lo).toNat) H) : wpAny (model X.prog X.w) X.A (pyIter (.ref s.heap.objs.size)) (PIE X pins σ tg R) E { s with heap := s.heap.push { cls := .type "range", data := .fields #[.int lo t, .int hi u, .int 1 v] }, toks := tk } := by
  have I1 : Inv X pins σ H { s with heap := s.heap.push { cls := .type "range", data := .fields #[.int lo t, .int hi u, .int 1 v] }, toks := tk } := I.kept fun b o e => Heap.get?_push_of_some _ e
  have e1 : lo + ((0 : Nat) : Int) * 1 = lo := by simp
  have e2 : (((hi - lo).toNat : Nat) : Int) - ((0 : Nat) : Int) = Builtin.Range.rangeSize lo hi 1 := by rw [rangeSize_one]; split <;> omega
  by_cases hsm : Builtin.Range.small lo hi 1 = true
  · refine wpAny_pyIter_range (IsRange.new ..) hsm ?_
    refine ⟨(s.heap.push { cls := .type "range", data := .fields #[.int lo t, .int hi u, .int 1 v] }).objs.size, [(s.heap.push { cls := .type "range", data := .fields #[.int lo t, .int hi u, .int 1 v] }).objs.size], _, _, H, rfl,
      I1.kept (t' := tk) fun b o e => Heap.get?_push_of_some _ e, turn_range _ lo (hi - lo).toNat, ?_, fun b hb => ?_, q⟩
    · show IsRangeIter _ _ (lo + ((0 : Nat) : Int) * 1) ((((hi - lo).toNat : Nat) : Int) - ((0 : Nat) : Int)) 1
      rw [e1, e2]
      exact Heap.get?_push_size _ rfl
    · have e : b = (s.heap.push { cls := .type "range", data := .fields #[.int lo t, .int hi u, .int 1 v] }).objs.size := by simpa using hb
      subst e
      exact I1.fpOk (Nat.le_refl _) (I1.hok.fresh (Nat.le_refl _))
  · refine wpAny_pyIter_longrange (IsRange.new ..) (by simpa using hsm) ?_
    refine ⟨(s.heap.push { cls := .type "range", data := .fields #[.int lo t, .int hi u, .int 1 v] }).objs.size, [(s.heap.push { cls := .type "range", data := .fields #[.int lo t, .int hi u, .int 1 v] }).objs.size], _, _, H, rfl,
      I1.kept (t' := tk) fun b o e => Heap.get?_push_of_some _ e, turn_longrange _ lo (hi - lo).toNat, ?_, fun b hb => ?_, q⟩
    · show IsLongIter _ _ (lo + ((0 : Nat) : Int) * 1) ((((hi - lo).toNat : Nat) : Int) - ((0 : Nat) : Int)) 1
      rw [e1, e2]
      exact Heap.get?_push_size _ rfl
    · have e : b = (s.heap.push { cls := .type "range", data := .fields #[.int lo t, .int hi u, .int 1 v] }).objs.size := by simpa using hb
      subst e
      exact I1.fpOk (Nat.le_refl _) (I1.hok.fresh (Nat.le_refl _))
def iRng2B (ta : TA) : TI := fun σ H R => ta σ H fun vs H1 => ∃ i j : Int, vs = [.int i, .int j] ∧ R (Itr i (j - i).toNat) H1
theorem pi_range2B {a b : Expr} {ta : TA} {p pos : Pos} (hg : Gl X "range") (hm : X.mg "range" = none) (ha : PA X [a, b] ta) (hs : starEach [a, b] X.env = [(false, eval a X.env), (false, eval b X.env)] := by rfl) (hs2 : starEach [b] X.env = [(false, eval b X.env)] := by rfl) :
    PI X tg (.Call (.Name "range" p) [a, b] [] pos) (iRng2B ta) := by
  refine ⟨fun pins s σ H R I h => ?_⟩
  refine Call_ (ld_blt I hg hm boot_range (PyProof.Rows.callWith_type1 (thn (ha.run pos pins s σ H _ I h) fun us s1 ⟨vs, H1, I1, r1, q1⟩ => ?_) (by rw [hs, hs2]) (by rw [hs2]; rfl)))
  obtain ⟨i, j, e, q⟩ := q1
  subst e
  cases r1 with
  | cons r rr =>
    cases rr with
    | cons r' rr =>
      cases rr
      obtain ⟨t, rfl⟩ := r
      obtain ⟨t', rfl⟩ := r'
      exact call_range_2 (range_itB I1 q)
end
end L2
namespace DL
open PySem PySem.Spec PyProof.Rows L2
section
variable {X : Cx} {Tb : List (Addr × Str)} {ga gb : GE} {a b tg : Expr} {p pos : Pos}
theorem di_range2B {x : Str} (hx : x = "range") (hm : X.mg x = none) (ha : PE X a (TD X.K Tb ga)) (hb : PE X b (TD X.K Tb gb)) (hg : Gl X x := by rfl) (hs : starEach [a, b] X.env = [(false, eval a X.env), (false, eval b X.env)] := by rfl) (hs2 : starEach [b] X.env = [(false, eval b X.env)] := by rfl) :
    PI X tg (.Call (.Name x p) [a, b] [] pos) (TIt X.K Tb (wRange2B ga gb)) := by
  subst hx
  refine PI.of (pi_range2B hg hm (da_cons ha (da_cons hb da_nil hs2) (by rw [hs, hs2])) hs hs2) fun σ H R' ⟨ad, ρ, st, R, S, w⟩ => ?_
  obtain ⟨d, s1, e1, w1⟩ := w.bind
  obtain ⟨d', s2, e2, w2⟩ := w1.bind
  refine ⟨ad, ρ, st, R, S, ?_⟩
  have e : gCons ga (gCons gb gNil) ρ st = .ok [d, d'] s2 := by simp only [gCons, gNil, andThen, ret, e1, e2]
  rw [e]
  intro ad1 H1 xs x1 r1 S1
  cases r1 with
  | cons r2 r3 =>
    cases r3 with
    | cons r4 r5 =>
      cases r5
      obtain ⟨i, s3, e3, w3⟩ := w2.bind
      obtain ⟨rfl, rfl⟩ := asInt_ok e3
      obtain ⟨j, s4, e4, w4⟩ := w3.bind
      obtain ⟨rfl, rfl⟩ := asInt_ok e4
      cases r2
      cases r4
      exact ⟨i, j, rfl, w4 ad1 H1 _ x1 S1 (gives_range _)⟩
theorem idxBn_some (b : Bool) : ∀ (bs : List Bool) (k i : Nat), idxBn b bs k = some i → ∃ j, i = k + j ∧ bs[j]? = some b ∧ ∀ m, m < j → bs[m]? ≠ some b
  | [], _, _, h => by cases h
  | x :: r, k, i, h => by
    unfold idxBn at h
    by_cases c : x = b
    · rw [if_pos c] at h; cases h
      exact ⟨0, rfl, by rw [c]; rfl, fun m hm => absurd hm (by omega)⟩
    · rw [if_neg c] at h
      obtain ⟨j, rfl, h1, h2⟩ := idxBn_some b r (k + 1) i h
      refine ⟨j + 1, by omega, h1, fun m hm => ?_⟩
      cases m with
      | zero => intro z; exact c (Option.some.inj z)
      | succ m => exact h2 m (by omega)
theorem flat_bls : ∀ bs : List Bool, (bs.map V.bl).all flatV = true
  | [] => rfl
  | b :: bs => by rw [List.map_cons, List.all_cons, flat_bls bs]; rfl
variable {o e : Expr} {go g : GE} {apos cpos : Pos}
theorem d_idxB {m : Str} (hm : m = "index") (ho : PE X o (TD X.K Tb go)) (he : PE X e (TD X.K Tb g)) (hbase : attributeBase o m X.env (eval o X.env) = eval o X.env := by rfl)
    (hline : (apos.endLine == cpos.line) = true := by rfl) (hs : starEach [e] X.env = (false, eval e X.env) :: starEach [] X.env := by rfl) : PE X (.Call (.Attribute o m apos) [e] [] cpos) (TD X.K Tb (gOp vIdxB go g)) := by
  subst hm
  refine PE.of (pe_bm PySem.F.plainAttrs_list PySem.F.slot_list_index PySem.F.type_list_index mt_index ho (da_cons he da_nil hs) hbase (by rw [hs]; rfl) hline hs (by rfl)) fun σ H Q ⟨ad, ρ, st, R, S, w⟩ => ?_
  obtain ⟨d, s1, e1, w1⟩ := w.bind
  refine ⟨ad, ρ, st, R, S, ?_⟩
  rw [e1]
  intro ad1 H1 x x1 r1 S1
  obtain ⟨v, s2, e2, w2⟩ := w1.bind
  have e : gCons g gNil ρ s1 = .ok [v] s2 := by unfold gCons gNil andThen; rw [e2]; rfl
  unfold vIdxB at w2
  cases r1 with
  | @rf n q h1 hk_ =>
    obtain ⟨xs0, tl⟩ := lst_of S1 h1 hk_
    refine ⟨.inl ⟨rfl, xs0, tl⟩, ad1, ρ, s1, R.mono x1, S1, ?_⟩
    rw [e]
    intro ad2 H2 vs x2 r2 S2
    cases r2 with
    | cons r3 r4 =>
      cases r4
      cases r3 with
      | bl b =>
        simp only at w2
        cases e3 : (cellItems s2 n).bind bools with
        | none => rw [e3] at w2; exact w2.elim
        | some bs =>
          rw [e3] at w2
          simp only at w2
          cases e7 : idxBn b bs 0 with
          | none => rw [e7] at w2; exact w2.elim
          | some i =>
            rw [e7] at w2
            obtain ⟨ds, g1, g2⟩ := Option.bind_eq_some_iff.mp e3
            obtain ⟨xs, g3, g4⟩ := S2.items g1 (x2.at h1)
            have := bl_vals g4 g2
            subst this
            obtain ⟨j, hj, h3, h4⟩ := idxBn_some b bs 0 i e7
            obtain rfl : i = j := by omega
            refine ⟨q, bs.map V.bl, .bl b, i, .bl b, rfl, rfl, g3, rfl, flat_bls bs, by rw [List.getElem?_map, h3]; rfl, by simp [eqV], ?_, w2 ad2 _ _ (x1.trans x2) (.int _) S2⟩
            intro m z' hm hz
            rw [List.getElem?_map] at hz
            cases e8 : bs[m]? with
            | none => rw [e8] at hz; cases hz
            | some y =>
              rw [e8] at hz; cases hz
              have : y ≠ b := fun z => h4 m hm (by rw [e8, z])
              revert this
              cases y <;> cases b <;> simp [eqV]
      | _ => exact w2.elim
  | _ => exact w2.elim
end
end DL
/-! An exception whose own __init__ says super().__init__(f"..{p}..") and self.f = p. -/
namespace DL
open PySem PySem.Spec PyProof.Rows L2
/-- what such an __init__ promises -/
def spI (C : Addr) (fld : Str) : Sp := fun vs H Q E => ∃ (a : Addr) (i : Int), vs = [.ref a, .int i] ∧ 0 ≤ i ∧ i.natAbs < 10 ^ 45 ∧ H a = some (exo a C none) ∧
  ∀ dx, H dx = none → dx ≠ a → Q .non (upd (upd H dx (exd dx [(fld, .int i)])) a (exo a C (some dx)))
structure XIni (P : Program) (K : PySem.W.Frag) (C : Addr) (st : Stmt) (fld : Str) : Prop where
  T : OexC K C
  ini : ∃ fI, PySem.W.findIn K (.ref C) "__init__" = some (some (.ref fI)) ∧ PySem.W.typeIn K (.ref fI) = some (.type "function") ∧
    ∃ (oc : Value) (od : Option Addr) (qual : Str) (kV doc pm : Value) (an : Option Addr) (cda : Addr) (ct : Value) (cc : Addr) (osl : Array (Option Value)),
      K.lookup fI = some ⟨oc, od, .func (PySem.W.fnX "__init__" qual (defArgs st) (defBody st) (defScope st) [("__class__", cc)] .none kV doc pm an (.ref cda) ct), osl⟩ ∧ PySem.W.codeIn K (.ref cda) qual = true ∧
      (∃ (ccl : Value) (cdd : Option Addr) (vs : Array Value) (ccs : Array (Option Value)) (file : Str) (tf : Tok), K.lookup cda = some ⟨ccl, cdd, .fields vs, ccs⟩ ∧ vs[2]? = some (.str file tf) ∧ ((P.main.file : Str) == file) = true) ∧
      ∃ (cl : Value) (cld : Option Addr) (csl : Array (Option Value)), K.lookup cc = some ⟨cl, cld, .cell (some (.ref C)), csl⟩
  sup : PySem.W.nsIn K mainGlobals "super" = some none
  hm : PySem.W.ks_superIn K C C "__init__" = some (some (.builtin "ValueError.__init__"))
  hB : PySem.W.subIn K (.ref C) (.type "ValueError") = some true
  any : PySem.W.nsIn K PySem.cStatics "thirdparty.any" = some none
  slf : PySem.W.mroIn K C (.ref C) = some true
  top : (P.main.scope.names.lookup ("super" : Str)).isSome = false
  hno : PySem.W.findIn K (.ref C) fld = some none
theorem toStr_len {i : Int} (h0 : 0 ≤ i) (h : i.natAbs < 10 ^ 45) : (Str.ofString (toString i)).length ≤ 45 := by
  obtain ⟨n, rfl⟩ := Int.eq_ofNat_of_zero_le h0
  have h' : n < 10 ^ 45 := by simpa using h
  have e : (toString (n : Int)) = Nat.repr n := rfl
  have l : (Nat.repr n).length ≤ 45 := by
    have := (Nat.length_toDigits_le_iff (b := 10) (n := n) (k := 45) (by omega) (by omega)).mpr h'
    simpa [Nat.repr_eq_ofList_toDigits] using this
  rw [e, Str.ofString_eq_toList]
  show ((Nat.repr n).toList.map Char.toNat).toArray.size ≤ 45
  rw [List.size_toArray, List.length_map]
  exact l
theorem log2_lt {i : Int} (h : i.natAbs < 10 ^ 45) : i.natAbs.log2 < 1920 := by
  by_cases h0 : i.natAbs = 0
  · rw [h0]; decide
  · rw [Nat.log2_lt h0]
    exact Nat.lt_of_lt_of_le h (by decide +kernel)
theorem len_app (a b : Str) : (a ++ b).length = a.length + b.length := by
  show (a.cps ++ b.cps).size = _
  rw [Array.size_append] <;> rfl
section
variable {P : Program} {w : World} {K : PySem.W.Frag} {mg : Str → Option Value} {base : Heap} {A : Around} {E : Value → Shared → Prop} {h : Heap} {g : Array GenState} {d : Drawn} {t : Nat} {os : OsState}
theorem call_mw {nm q : Str} {C N : Addr} {bs bm : List Value} {hdct : Bool} {sn : List Str} {sub : List Value} {ab : Bool} {col : Option Bool} {dd : Option Addr} {k0 k1 k2 k3 k5 : Option Value} {u e t0 : Addr} {rest : List Value} {Q : Value → Shared → Prop}
    (hC : h.get? C = some (excClassObj nm q C N bs bm hdct sn sub ab col dd k0 k1 k2 k3 k5 "ValueError.__new__")) (he : h.get? e = some (HandSPX.excO C t0)) (hu : h.get? u = some (PySem.W.kxs_mw "ValueError.__init__" e)) (hz : rest.length ≤ sizeLine)
    (hq : ∀ h' t1, (∀ b o, b ≠ e → h.get? b = some o → h'.get? b = some o) → h'.get? e = some (HandSPX.excO C t1) → Q .none ⟨h', g, d, t, os⟩) :
    wpAny (model P w) A (call (.ref u) rest) Q E ⟨h, g, d, t, os⟩ := by
  refine wpAny_call (codeAny_of_tree ?_)
  show wpAny _ A.in1 (callAny (.ref u) { pos := rest, kw := [] }) _ _ _
  simp only [callAny]
  refine wpAny_bind (wpAny_load hu ?_)
  have b1 : (Value.type "method-wrapper" == Value.type "method" || Value.type "method-wrapper" == Value.type "builtin_function_or_method" || Value.type "method-wrapper" == Value.type "method-wrapper") = true := by decide
  simp only [PySem.W.kxs_mw, b1, if_true]
  refine PySem.W.KFB.if_so (by decide) ?_
  refine wpAny_bind (PySem.ESX.check_bound F.excBase_ValueError hC he rfl ?_)
  refine wpAny_bind (wpAny_pure (wpAny_pure ?_))
  refine ⟨plainId_quiet F.excBase_ValueError.init.plain _, codeAny_builtin F.excBase_ValueError.initEntry ?_⟩
  exact PySem.W.exc_init_tree (cls := .ref C) (t0 := t0) (dv := none) (c2 := .none) (c3 := .none) (b4 := .bool false) he hz fun h' k e' _ => hq h' _ k e'
end
section
variable {P : Program} {w : World} {M : Model} {A : Around} {E : Value → Shared → Prop} {s : Shared}
theorem callWith_mw {pos : Pos} {u x : Addr} {i : String} {env : PySem.Env} {e : Expr} {rest : List Expr} {Q : Value → Shared → Prop}
    (hh : wpAny M A (spliced (backTo pos (starEach (e :: rest) env))) (fun vs s₁ => PySem.W.KxsAt i u x s₁.heap ∧ wpAny M A (call (.ref u) vs) Q E s₁) E s)
    (he : starEach (e :: rest) env = (false, eval e env) :: starEach rest env) (hpl : (backTo pos (starEach rest env)).any (·.1) = false) :
    wpAny M A (callWith pos (.ref u) [] (backTo pos (starEach (e :: rest) env)) []) Q E s := by
  rw [he] at hh ⊢
  have pl : (backTo pos ((false, eval e env) :: starEach rest env)).any (·.1) = false := by
    show (false || (backTo pos (starEach rest env)).any fun z => z.1) = false
    rw [hpl] <;> rfl
  exact PySem.W.kxs_callWith (i := i) (x := x) pl (Calls.evalArgs_plain hh)
end
section
variable {P : Program} {w : World} {K : PySem.W.Frag} {mg : Str → Option Value} {base : Heap}
theorem fn_ini {C : Addr} {st : Stmt} {fld par za zb : Str} {p0 p1 p2 p3 p4 p5 p6 p7 p8 p9 p10 pj pa pb : Pos} {ja jb : Nat} {ar : Arg} (I : XIni P K C st fld)
    (hbody : defBody st = [.Expr (.Call (.Attribute (.Call (.Name "super" p0) [] [] p1) "__init__" p2) [.JoinedStr [.Constant (.str za) ja pa, .FormattedValue (.Name par p9) (-1) none p10, .Constant (.str zb) jb pb] pj] [] p3) p4, .Assign [.Attribute (.Name "self" p5) fld p6] (.Name par p7) p8])
    (hev : ∀ env : PySem.Env, ∃ pl : Sem Bool, eval (.Call (.Attribute (.Call (.Name "super" p0) [] [] p1) "__init__" p2) [.JoinedStr [.Constant (.str za) ja pa, .FormattedValue (.Name par p9) (-1) none p10, .Constant (.str zb) jb pb] pj] [] p3) env = (do
      let ov ← attributeBase (.Call (.Name "super" p0) [] [] p1) "__init__" env (eval (.Call (.Name "super" p0) [] [] p1) env)
      standAt p2.atName
      let (f, first) ← holding [ov] (getMethod ov "__init__" pl)
      callWith p3 f first (backTo p3 (starEach [.JoinedStr [.Constant (.str za) ja pa, .FormattedValue (.Name par p9) (-1) none p10, .Constant (.str zb) jb pb] pj] env)) []))
    (har : ((defArgs st).posonlyargs ++ (defArgs st).args).head? = some ar) (hself : ar.arg = "self") (S : NdefX.NScope [("self" : Str), par, "__class__"] [("self" : Str), par] ["__class__"] (defScope st)) (hsup : (defScope st).names.lookup ("super" : Str) = some .globalImplicit)
    (hza : za.length ≤ 1000) (hzb : zb.length ≤ 1000) (hpar : (par == ("__debug__" : Str)) = false) (hpar2 : (par == ("__classdict__" : Str)) = false)
    (hb : ∀ (cc cda : Addr) (qual : Str) (kV doc pm : Value) (an : Option Addr) (ct : Value) (us : List Value), us.length = 2 → bindArgs (PySem.W.fnX "__init__" qual (defArgs st) (defBody st) (defScope st) [("__class__", cc)] .none kV doc pm an (.ref cda) ct) ⟨us, []⟩ = pure ([("self" : Str), par].zip us)) :
    ∃ fI fd, PySem.W.findIn K (.ref C) "__init__" = some (some (.ref fI)) ∧ PySem.W.typeIn K (.ref fI) = some (.type "function") ∧ FnOk P w K mg base (L2.CX P w) 1 fI fd [("self" : Str), par] (spI C fld) ∧ Binds K fd [("self" : Str), par] [] := by
  obtain ⟨fI, h1, h2, oc, od, qual, kV, doc, pm, an, cda, ct, cc, osl, lk, hcd, ⟨ccl, cdd, vs0, ccs, file, tf, hco, hvs, hfl⟩, cl, cld, csl, hcc⟩ := I.ini
  refine ⟨fI, _, h1, h2, ⟨fun vs H Q E ⟨a, i, e, _⟩ => by rw [e] <;> rfl, ?_⟩, .all fun us hl => hb cc cda qual kV doc pm an ct us hl⟩
  intro A outer s H args us vs Q E hr e0 hbt r hsp
  obtain ⟨a, i, ev, hi0, hi1, ha, hq⟩ := hsp
  subst ev
  have KX : K.In s.heap := e0.mod.kin.keeps fun b o e => (e0.bs b o e).1
  have lim : s.heap.NoLimit := e0.mod.nolimit.keeps fun b o e => (e0.bs b o e).1
  refine ks_codeAny_call_defAt (body := defBody st) (binds := [("self" : Str), par].zip us) hr.depth (KX _ _ lk) rfl lim (PySem.W.codeRec_of KX hcd) rfl hbt S.nocell (fun y hy => S.par y.1 (List.of_mem_zip hy).1) (fun h₁ hns hk => ?_) S.co S.gen S.kind
  have CA : NdefX.CellsAt [("__class__", cc)] ["__class__"] [none] s.heap H := by
    refine ⟨rfl, fun y c hy => ?_, fun x y c hx hy => ?_, fun j y hj => ?_⟩
    · have e1 : c = cc := by
        by_cases q : y = "__class__"
        · subst q; simpa [List.lookup] using hy.symm
        · have q' : (y == ("__class__" : Str)) = false := by simpa using q
          simp [List.lookup, q'] at hy
      subst e1
      exact ⟨(e0.bs _ _ (e0.mod.kin _ _ hcc)).2, some (.ref C), _, (e0.bs _ _ (e0.mod.kin _ _ hcc)).1, rfl⟩
    · have one : ∀ {y : Str} {c : Addr}, ([(("__class__" : Str), cc)] : List (Str × Addr)).lookup y = some c → y = "__class__" := fun {y c} hy => by
        by_cases q : y = "__class__"
        · exact q
        · have q' : (y == ("__class__" : Str)) = false := by simpa using q
          simp [List.lookup, q'] at hy
      rw [one hx, one hy]
    · cases j with
      | zero =>
        have e1 : y = "__class__" := by simpa using hj.symm
        subst e1
        exact ⟨cc, by simp [List.lookup], fun v z => by simp at z⟩
      | succ j => simp at hj
  let Fn : NdefX.NF := ⟨"__init__", qual, defArgs st, defBody st, defScope st, [("__class__", cc)], cda⟩
  have I0 : Inv (NdefX.ncx (L2.CX P w) P w K mg base [("self" : Str), par, "__class__"] Fn fI A outer s H E) [] [some (.ref a), some (.int i), none] H { s with heap := h₁, toks := s.toks + ([("self" : Str), par].zip us).length } :=
    NdefX.inv_startN (F := Fn) S hr.hd e0 rfl r CA hns hk
  have K1 : K.In h₁ := I0.kIn
  obtain ⟨t1, ho⟩ := exo_at I0.hok ha
  obtain ⟨nm, q, N', bs, bm, sn, sub, ab, col, dd, k0, k1, k2, k3, k5, hC, hbm⟩ := I.T.cls
  obtain ⟨m, hmn, hml⟩ := I0.loc
  obtain ⟨u0, ru0, l0⟩ := hml 0 "self" (.ref a) rfl rfl (.inl (S.par _ (by simp)))
  obtain rfl : u0 = Value.ref a := ru0
  have kself : (defScope st).names.lookup ("self" : Str) = some .local := S.par _ (by simp)
  have hm0 : m "self" = some (.ref a) := by
    rcases l0 with ⟨_, z⟩ | ⟨z, _⟩
    · exact z
    · have z' : (defScope st).names.lookup ("self" : Str) = some .cell ∨ (defScope st).names.lookup ("self" : Str) = some .free := z
      rw [kself] at z'
      rcases z' with z' | z' <;> cases z'
  have hsm : mg "super" = none := PySem.W.mg_none_of e0.mod.kin e0.mod.glob I.sup
  obtain ⟨mb, hb1, hb2⟩ := e0.mod.blt
  have kcl : (defScope st).names.lookup ("__class__" : Str) = some .free := S.frk _ (by simp)
  let D : Ends := { nx := fun _ H' => Q .non H', rt := Q }
  refine ks_wpAt_mono (Q := SP (NdefX.ncx (L2.CX P w) P w K mg base [("self" : Str), par, "__class__"] Fn fI A outer s H E) [] D) (E := (NdefX.ncx (L2.CX P w) P w K mg base [("self" : Str), par, "__class__"] Fn fI A outer s H E).xe) ?_ (fun fl s' hs => ?_) fun e s' hs => hs
  · rw [hbody]
    have hin : interactive (NdefX.envF Fn fI s.heap.objs.size) = false := by
      show ((defScope st).kind == .module && _) = false
      rw [S.kind] <;> rfl
    obtain ⟨pl, hev'⟩ := hev (NdefX.envF Fn fI s.heap.objs.size)
    refine ks_wpAt_execs_cons (ks_wpAt_Expr_any (ks_wpAt_MethodCall (pl := pl) ?_ hev') hin)
    refine ks_wpAt_super_base (attr := "__init__") hsup kcl (by decide) rfl (K1 _ _ lk) rfl har rfl (K1 _ _ hco) rfl hvs hfl I.top ?_
    refine PySem.W.ks_loadName_global S.kind hsup (Calls.loadGlobal_builtin (e0.mod.glob.keeps I0.bk) hsm (hb1.keeps I0.bk) ((hb2 _ (by decide)).trans (show bootBuiltins "super" = some (.type "super") by decide +kernel)) ⟨rfl, ?_⟩)
    refine wpAny_loadName_free S.kind kcl (c := cc) (v := .ref C) (by show List.lookup _ [(("__class__" : Str), cc)] = _; simp [List.lookup]) ⟨_, K1 _ _ hcc, rfl⟩ ?_
    rw [hself]
    refine wpAny_loadName_local S.kind kself hmn hm0 ?_
    refine ks_wpAny_isType_cls (K1 _ _ hC) rfl ⟨rfl, ?_⟩
    refine ks_wpAny_call_super (K1 _ _ hC) rfl ho rfl (fun c e => nomatch e) (PySem.W.looks_mroIn K1 I.slf) (fun h2 hso k2 => ?_)
    have I1 := I0.kept (t' := s.toks + ([("self" : Str), par].zip us).length) (h' := h2) k2
    have K2 : K.In h2 := I1.kIn
    have hcl : PySem.W.clsIn K C = some { name := nm, bases := bs, mro := .ref C :: bm, ns := N', qualname := q, hasDict := true, slotNames := sn, subclasses := sub, abstract := ab, collection := col, hasDel := false } := by
      unfold PySem.W.clsIn
      rw [hC] <;> rfl
    have Iat : PySem.W.InstAt h2 a { cls := .ref C, dict := none, data := .fields #[.ref t1, .none, .none, .none, .bool false, .none] } C none := ⟨k2 _ _ ho, rfl, rfl, trivial⟩
    have hI : PySem.W.Looks (model P w) h2 (isInstance (.ref a) (.type "ValueError")) true := Iat.type.andThen (PySem.W.looks_subIn K2 I.hB)
    have hmA := I.hm
    unfold PySem.W.ks_superIn at hmA
    rw [hcl] at hmA
    refine PySem.W.kxs_getMethod PySem.W.kxs_ValueError hso (PySem.W.looks_opaque K2 I.any) (l₀ := .ref C :: bm) (fun A Q E s k q => wpAny_bind (PySem.W.looks_clsIn K2 hcl A _ E s k (wpAny_pure q))) rfl K2 hmA hI (PySem.W.ks_ne K2 Iat hcl) (by decide) ?_
    have I2 := I1.kept (t' := s.toks + ([("self" : Str), par].zip us).length + 1) (h' := h2.push (PySem.W.kxs_mw "ValueError.__init__" a)) fun b u e => Heap.get?_push_of_some _ e
    have hu : (h2.push (PySem.W.kxs_mw "ValueError.__init__" a)).get? h2.objs.size = some (PySem.W.kxs_mw "ValueError.__init__" a) := Heap.get?_push_at rfl rfl
    have I3 := I2.pins_of (pins' := [(h2.objs.size, PySem.W.kxs_mw "ValueError.__init__" a)]) (fun p hp => by
      have ep : p = (h2.objs.size, PySem.W.kxs_mw "ValueError.__init__" a) := by simpa using hp
      subst ep
      exact ⟨hu, I1.hok.fresh (Nat.le_refl _), Nat.ne_of_gt I1.lt, I1.nofs (Nat.le_refl _), fun v z => nomatch z⟩)
    refine callWith_mw (i := "ValueError.__init__") (x := a) ?_ rfl rfl
    have hPA : PA (NdefX.ncx (L2.CX P w) P w K mg base [("self" : Str), par, "__class__"] Fn fI A outer s H E) [.JoinedStr [.Constant (.str za) ja pa, .FormattedValue (.Name par p9) (-1) none p10, .Constant (.str zb) jb pb] pj] (tCons (fun σ H Q => tJs [tC (.str za), tFmt (tVar 1), tC (.str zb)] Str.empty σ H fun out H1 => Q (.str out) H1) tNil) :=
      pa_cons (pe_joined (.cons pe_str (.cons (pe_fmt (pe_var rfl (.inl (S.par _ (by simp))) hpar hpar2)) (.cons pe_str .nil)))) pa_nil
    have tl := toStr_len hi0 hi1
    have le1 : (Str.empty ++ za).length ≤ 1000 := by rw [len_app]; show 0 + za.length ≤ 1000; omega
    have le2 : ((Str.empty ++ za) ++ Str.ofString (toString i)).length ≤ 1045 := by rw [len_app]; omega
    refine thn (hPA.run p3 _ _ _ _ (fun vs H1 => (∃ z, vs = [.str z]) ∧ H1 = H) I3 ⟨za, rfl, by rw [sizeLine_eq]; omega, .int i, rfl, .inr ⟨i, rfl, log2_lt hi1, Str.ofString (toString i), rfl, by rw [sizeLine_eq]; omega, zb, rfl, by rw [sizeLine_eq, len_app]; omega, ⟨_, rfl⟩, rfl⟩⟩) fun us4 s4 ⟨vs4, H4, I4, r4, ⟨z4, e4⟩, eH⟩ => ?_
    subst e4 eH
    have pu := (I4.pin (h2.objs.size, PySem.W.kxs_mw "ValueError.__init__" a) (by simp)).1
    refine ⟨pu, ?_⟩
    obtain ⟨t4, ho4⟩ := exo_at I4.hok ha
    obtain ⟨h4, g4, d4, tk4, os4⟩ := s4
    refine call_mw (I4.kIn _ _ hC) ho4 pu (by rw [← Paired.length r4, sizeLine_eq]; exact Nat.le_of_ble_eq_true rfl) fun h5 t5 k5' e5 => ?_
    have J := (I4.pins_of (pins' := []) (fun p hp => by simp at hp)).write (t' := tk4) (x := a) (e := a) (o := exo a C none) (by rw [ha]; exact True.intro) (.inl rfl) k5' ⟨_, e5⟩ (exo_ok e5)
    have eu : upd H4 a (exo a C none) = H4 := by
      funext b
      by_cases q : b = a
      · subst q; rw [upd_same, ha]
      · rw [upd_ne q]
    rw [eu] at J
    refine wpAt_of_wpAny ((pss_one (ps_ost (pe_var (i := 0) rfl (.inl kself)) (pe_var (i := 1) rfl (.inl (S.par _ (by simp))) hpar hpar2))).run [] _ _ _ D J ?_)
    exact ⟨.int i, rfl, .ref a, rfl, a, C, rfl, I.T, I.hno, .inl ⟨ha, hq⟩⟩
  · cases fl with
    | next =>
      obtain ⟨σ', H', J, q⟩ := hs
      exact ⟨.non, H', J.os, J.bare, J.base, J.hok, rfl, q⟩
    | brk =>
      obtain ⟨_, _, _, q⟩ := hs
      exact False.elim q
    | cont =>
      obtain ⟨_, _, _, q⟩ := hs
      exact False.elim q
    | ret u =>
      obtain ⟨v, σ', H', J, rv, q⟩ := hs
      exact ⟨v, H', J.os, J.bare, J.base, J.hok, rv, q⟩
end
end DL
/-! raise C(e): C has an __init__ of its own. -/
namespace DL
open PySem PySem.Spec PyProof.Rows L2
/-- the class at C is made by its own __init__, which stores a whole number -/
def IniOk (P : Program) (w : World) (K : PySem.W.Frag) (mg : Str → Option Value) (base : Heap) (C : Addr) (fld : Str) : Prop :=
  OexC K C ∧ ∃ (fI : Addr) (fd : FuncData) (par : Str), PySem.W.findIn K (.ref C) "__init__" = some (some (.ref fI)) ∧ PySem.W.typeIn K (.ref fI) = some (.type "function") ∧ FnOk P w K mg base (L2.CX P w) 1 fI fd ["self", par] (spI C fld) ∧ Binds K fd ["self", par] []
section
variable {X : Cx} {Tb : List (Addr × Str)} {W : WX} {g : GE} {e : Expr} {x f : Str} {C : Addr} {p pos pos' : Pos}
theorem sx_raiseI (tk : Takes X W) (N : IniOk X.prog X.w X.K X.mg X.base C f) (cC : ClsAt X.K x C) (gC : X.mg x = some (.ref C)) (hr : Room 2 X.A) (ha : PE X e (TD X.K Tb g)) (hg : Gl X x := by rfl) (calm : X.calm = true := by rfl) (hdb : (x == ("__debug__" : Str)) = false := by decide)
    (he : starEach [e] X.env = (false, eval e X.env) :: starEach [] X.env := by rfl) (hpl : (backTo pos (starEach [] X.env)).any (·.1) = false := by rfl) : PS X (.Raise (some (.Call (.Name x p) [e] [] pos)) none pos') (TSX X.K Tb W (gRaiseI x f g)) := by
  obtain ⟨T, fI, fd, par, h1, h2, F, b⟩ := N
  refine PS.of (ps_raise calm tk (pmk_oex (dvs := []) T h1 h2 F hr b .nil (fun _ _ _ _ _ _ _ ⟨_, _, _, _, _, _, _, _, _, _, _, _, z⟩ => z.elim) hg gC (pa_cons ha pa_nil he) hdb he hpl)) fun D σ H ⟨ad, ρ, st, R, S, w⟩ => ?_
  refine ⟨ad, ρ, st, R, S, ?_⟩
  unfold gRaiseI andThen xP at w
  cases e1 : g ρ st with
  | stuck => rw [e1] at w; exact w.elim
  | exc _ _ _ => rw [e1] at w; exact w.elim
  | ok d s1 =>
    rw [e1] at w
    simp only at w
    intro ad1 H1 v x1 r1 S1
    cases d with
    | int i =>
      cases r1
      simp only at w
      by_cases hi : 0 ≤ i ∧ i.natAbs < 10 ^ 45
      · rw [if_pos hi] at w
        refine ⟨by show 1 ≤ 1000; decide, fun a ha => ⟨a, i, rfl, hi.1, hi.2, upd_same, fun dx hn hne => ⟨rfl, dx, [(f, .int i)], upd_same, by rw [upd_ne hne, upd_same], by rw [upd_ne hne] at hn; exact hn, ?_⟩⟩⟩
        rw [upd_ne hne] at hn
        have eH : upd (del (upd (upd (upd H1 a (exo a C none)) dx (exd dx [(f, .int i)])) a (exo a C (some dx))) a) dx (.xd [(f, .int i)]) = upd H1 dx (.xd [(f, .int i)]) := by
          funext b
          by_cases q : b = dx
          · subst q; rw [upd_same, upd_same]
          · rw [upd_ne q, upd_ne q]
            by_cases q2 : b = a
            · subst q2; rw [del_same, ha]
            · rw [del_ne q2, upd_ne q2, upd_ne q, upd_ne q2]
        rw [eH]
        exact w ad1 _ C (some dx) [(f, .int i)] (x1.trans (ext_new hn)) (S1.upd_new hn) cC upd_same (.cons (.int _) .nil)
      · rw [if_neg hi] at w; exact w.elim
    | _ => exact w.elim
end
end DL
namespace DL
open PySem PySem.Spec PyProof.Rows L2
def clsB : Stmt → List Stmt
  | .ClassDef (body := b) .. => b
  | _ => []
def oexB (K : PySem.W.Frag) (C : Addr) : Bool := match K.lookup C with
  | some ⟨.type "type", _, .cls cd, sl⟩ => (match cd.mro, sl.toList with
    | .ref E :: bm, [_, _, _, _, some (.builtin n), _] => E == C && n == "ValueError.__new__" && !cd.hasDel && cd.hasDict && PySem.HandSPX.refsVE bm
    | _, _ => false)
  | _ => false
theorem oexB_ok {K : PySem.W.Frag} {C : Addr} (q : oexB K C = true) (sa : PySem.W.findIn K (.ref C) "__setattr__" = some (some (.builtin "object.__setattr__"))) (ex : PySem.W.subIn K (.ref C) (.type "BaseException") = some true)
    (ty : PySem.W.typeIn K (.ref C) = some (.type "type")) (k : PySem.W.keepIn K (.ref C) = true) : OexC K C := by
  refine ⟨?_, sa, ex, ty, k⟩
  unfold oexB at q
  split at q
  · rename_i dd cd sl ho
    split at q
    · rename_i C' bm k0 k1 k2 k3 n k5 hm hs
      simp only [Bool.and_eq_true, beq_iff_eq, Bool.not_eq_true'] at q
      obtain ⟨⟨⟨⟨q1, q2⟩, q3⟩, q4⟩, q5⟩ := q
      obtain ⟨nm, bs, mro, ns, qn, hd, sn, sb, ab, col, del⟩ := cd
      simp only at hm q3 q4
      subst hm q3 q4 q1 q2
      have es : sl = #[k0, k1, k2, k3, some (.builtin "ValueError.__new__"), k5] := by
        apply Array.toList_inj.mp
        rw [hs]
      subst es
      exact ⟨nm, qn, ns, bs, bm, sn, sb, ab, col, dd, k0, k1, k2, k3, k5, ho, q5⟩
    · cases q
  · cases q
end DL
/-! isinstance of what may be None. -/
namespace DL
open PySem PySem.Spec PyProof.Rows L2
section
variable {X : Cx} {Tb : List (Addr × Str)} {ad : List Addr} {H : Hp} {st : Store} {a b : Expr} {es : List Expr} {ga : GE} {p p2 pos : Pos} {l : List (Str × Bool)} {c : V} {cv : Value} {cs : List V} {cvs : List Value}
def rIsXN (K : PySem.W.Frag) : List V → Hp → VK → Prop := fun xs H Q => rIsX K xs H Q ∨ rIsi K xs H Q
theorem call_isXN : CallR X (.builtin "isinstance") (rIsXN X.K) := by
  intro pins s σ H xs us Q I r h
  rcases h with h | h
  · exact call_isX pins s σ H xs us Q I r h
  · exact call_isi pins s σ H xs us Q I r h
theorem d_isXN (hT : XT X.K l cv) (hN : PySem.W.kitOne X.K (.type "NoneType") cv = some false) (hcv : ClsV c cv) (hc : PE X b (tC c)) (hm : X.mg "isinstance" = none) (ha : PE X a (TD X.K Tb ga)) (hg : Gl X "isinstance" := by rfl)
    (he : starEach [a, b] X.env = (false, eval a X.env) :: starEach [b] X.env := by rfl) (he2 : starEach [b] X.env = (false, eval b X.env) :: starEach [] X.env := by rfl) (hpl : (backTo pos (starEach [b] X.env)).any (·.1) = false := by rfl) : PE X (.Call (.Name "isinstance" p) [a, b] [] pos) (TD X.K Tb (gUn (vIsXN l) ga)) := by
  refine PE.of (pe_callB (id := "isinstance") call_isXN hg hm (by decide +kernel) (pa_cons ha (pa_cons hc pa_nil he2) he) (by decide) (by decide) he hpl) fun σ H Q ⟨ad, ρ, st, R, S, w⟩ => ?_
  obtain ⟨d, s1, e1, w1⟩ := w.bind
  refine ⟨ad, ρ, st, R, S, ?_⟩
  rw [e1]
  intro ad1 H1 v x1 r1 S1
  show rIsXN X.K [v, c] H1 Q
  cases r1 with
  | non => exact .inr ⟨_, c, _, cv, false, rfl, hcv, .base .non, hN, w1 ad1 H1 _ x1 (.bl _) S1⟩
  | @ob n q h1 =>
    have w1 : PostD X.K Tb ad H Q (vIsX l (.ob n) s1) := w1
    unfold vIsX at w1
    simp only at w1
    cases e2 : s1[n]? with
    | none => rw [e2] at w1; exact w1.elim
    | some cl =>
      rw [e2] at w1
      cases cl with
      | lst _ => exact w1.elim
      | dct _ _ => exact w1.elim
      | oth o =>
        cases o with
        | ins _ _ => exact w1.elim
        | exn k fs =>
          simp only at w1
          cases e3 : l.lookup k with
          | none => rw [e3] at w1; exact w1.elim
          | some t =>
            rw [e3] at w1
            obtain ⟨C, d, us, k1, k2, k3, k4⟩ := S1.exn e2 h1
            obtain ⟨D, q1, q2, q3⟩ := hT k t e3
            cases k1.inj q1
            exact .inl ⟨q, C, d, us, c, cv, t, rfl, hcv, k2, k3, q2, q3, w1 ad1 H1 _ x1 (.bl _) S1⟩
  | _ => exact w1.elim
end
end DL
/-! sorted(set(x)) of a tuple of pairs. -/
namespace DL
open PySem PySem.Spec PyProof.Rows L2
section
variable {P : Program} {w : World} {A : Around} {E : Value → Shared → Prop} {s : Shared}
def SetMadeT (P : Program) (w : World) (s : Shared) (ks : List (Addr × List Int)) (s2 : Shared) : Prop :=
  ∃ (h' : Heap) (tk : Nat) (L : List (Addr × List Int)), s2 = { s with heap := h', toks := tk } ∧ SetT0 P w h' s.heap.objs.size L ∧ (∀ p ∈ L, p ∈ ks) ∧ (∀ p ∈ ks, p.2 ∈ L.map (·.2)) ∧ ∀ b o, s.heap.get? b = some o → h'.get? b = some o
theorem set_filledT {l : Addr} {items : Array Value} (ks : List (Addr × List Int)) {Q : PySem.Fin → Shared → Prop} {B : Around} (hh : B.handled = none) (hu : B.units + 20 < cLine) (hl : s.heap.IsTuple l items) (hit : items.toList = ks.map fun p => Value.ref p.1) (hb : ks.length < 64) (hk : ∀ p ∈ ks, L2.IsT P w s.heap p.2 p.1)
    (q : ∀ s2, SetMadeT P w s ks s2 → wpAny (model P w) B (PySem.ret Value.none) Q E s2) :
    wpAny (model P w) B (Builtin.«set.__init__» ⟨[.ref s.heap.objs.size, .ref l], []⟩) Q E { s with heap := s.heap.push { cls := .type "set", dict := none, data := .set #[] 0 (.fresh 0 0 (!w.params.followText "set-order")) } } := by
  have hn : items.size = ks.length := by rw [← Array.length_toList, hit, List.length_map]
  obtain ⟨⟨cls, dict, data, slots⟩, ho, hc, nl, hd⟩ := hl
  simp only at hc hd
  subst hc hd
  have lt : l < s.heap.objs.size := Heap.lt_size ho
  have hS : (s.heap.push { cls := .type "set", dict := none, data := .set #[] 0 (.fresh 0 0 (!w.params.followText "set-order")) }).get? s.heap.objs.size = some { cls := .type "set", dict := none, data := .set #[] 0 (.fresh 0 0 (!w.params.followText "set-order")) } := Heap.get?_push_size _ rfl
  have hold : ∀ b o, s.heap.get? b = some o → (s.heap.push { cls := .type "set", dict := none, data := .set #[] 0 (.fresh 0 0 (!w.params.followText "set-order")) }).get? b = some o := fun b o e => Heap.get?_push_of_some _ e
  have ho1 := hold l _ ho
  have hz : (s.heap.push { cls := .type "set", dict := none, data := .set #[] 0 (.fresh 0 0 (!w.params.followText "set-order")) }).objs.size = s.heap.objs.size + 1 := Heap.size_push ..
  generalize hH : s.heap.push { cls := .type "set", dict := none, data := .set #[] 0 (.fresh 0 0 (!w.params.followText "set-order")) } = H1 at hS hold ho1 hz ⊢
  have hl1 : H1.IsTuple l items := ⟨_, ho1, rfl, nl, rfl⟩
  have t1 := F.sub_tuple_set
  have t2 := F.sub_tuple_frozenset
  have t3 : (Value.type "tuple" == Value.type "dict") = false := by decide
  unfold Builtin.«set.__init__» noKeywords Builtin.Frozenset.updateFrom
  generalize hPI : pyIter = PI
  wp_walk
  subst hPI
  refine wpAny_pyIter_tuple hl1 ?_
  refine wpAny_bind (wpAny_runValue ?_)
  have none0 : ∀ b, s.heap.objs.size ≤ b → s.heap.get? b = none := fun b hb => by
    cases e : s.heap.get? b with
    | none => rfl
    | some o => exact absurd (Heap.lt_size e) (Nat.not_lt.mpr hb)
  refine set_update_tups ((Walks.tuple (by simp [hh]) _ l (by show l ≠ H1.objs.size; rw [hz]; exact Nat.ne_of_lt (Nat.lt_succ_of_lt lt)) items).toS) s.heap.objs.size
    (by simp only [List.mem_cons, List.mem_singleton, List.not_mem_nil, or_false, not_or]; constructor <;> (first | (show s.heap.objs.size ≠ H1.objs.size; rw [hz]; exact Nat.ne_of_lt (Nat.lt_succ_self _)) | exact Nat.ne_of_gt lt)) ks hn hb (fun i v hv => ?_) s.heap hk (none0 _ (Nat.le_refl _)) (fun b hb => ?_) (by show B.units + 1 < cLine; omega) (items.size - 0) 0 _ (by omega) (Nat.zero_le _) ⟨⟨_, Heap.get?_push_size _ rfl, rfl, rfl⟩, hl1.push _⟩ (fun b o e => Heap.get?_push_of_some _ (hold b o e)) ⟨[], #[], 0, _, setTR_fresh (Heap.get?_push_of_some _ hS), ⟨fun p hp => (by cases hp), fun p hp => (by simp at hp), Nat.le_refl 0⟩⟩ fun s' L es ep t m hR hg old => ?_
  · have e : (ks.map fun p => Value.ref p.1)[i]? = some v := by rw [← hit, Array.getElem?_toList]; exact hv
    rw [List.getElem?_map] at e
    cases e2 : ks[i]? with
    | none => rw [e2] at e; cases e
    | some p => rw [e2] at e; cases e; exact ⟨p, rfl, rfl⟩
  · rw [List.mem_singleton] at hb
    subst hb
    refine none0 _ ?_
    show s.heap.objs.size ≤ H1.objs.size
    omega
  · obtain ⟨h', g2, d', tk', os'⟩ := s'
    have e1 : g2 = s.gens := m.gens
    have e2 : d' = s.drawn := m.drawn
    have e3 : os' = s.os := m.os
    subst e1 e2 e3
    show wpAny _ _ _ _ _ _
    refine wpAny_pure ?_
    show wpAny _ _ (PySem.ret Value.none) _ _ _
    refine q _ ⟨h', tk', L, rfl, ⟨es, ep, t, hR.ob, hR.rows, hR.tab, hR.nd, hR.plain, hR.led, hR.room, hR.few⟩, fun p hp => List.mem_of_mem_take (hg.sub p hp), fun p hp => hg.all p (by rw [hn, List.take_length]; exact hp), old⟩
theorem set_of_tuple {l : Addr} {items : Array Value} (ks : List (Addr × List Int)) {Q : Value → Shared → Prop} (hh : A.handled = none) (hu : A.units + 100 < cLine) (hl : s.heap.IsTuple l items) (hit : items.toList = ks.map fun p => Value.ref p.1) (hb : ks.length < 64) (hk : ∀ p ∈ ks, L2.IsT P w s.heap p.2 p.1)
    (q : ∀ s2, SetMadeT P w s ks s2 → Q (.ref s.heap.objs.size) s2) : wpAny (model P w) A (call (.type "set") [.ref l]) Q E s := by
  obtain ⟨c, tl, mro⟩ := F.called_set.mro
  have made := F.called_set.made
  have sub := F.called_set.sub
  have u1 := F.called_set.notType
  have u2 := F.called_set.canCreate
  have u3 := F.typeCall_set_1 (.ref l)
  refine wpAny_call (codeAny_of_tree ?_)
  show wpAny _ _ (callAny (.type "set") _) _ _ _
  refine wpAny_pure ⟨Code.quiet_builtin _ (by decide +kernel), codeAny_builtin F.entry_type_call ?_⟩
  rw [Around.under_plain (weight_type_call_type "set" [.ref l] []) rfl]
  repeat (any_goals (first | assumption | wp_step))
  refine codeAny_mono (code_set_led1 (.ref l) (E := E) (Q₁ := fun obj s1 => obj = .ref s.heap.objs.size ∧ s1 = { s with heap := s.heap.push { cls := .type "set", dict := none, data := .set #[] 0 (.fresh 0 0 (!w.params.followText "set-order")) } }) ⟨rfl, rfl⟩) fun r s1 hr => ?_
  cases r with
  | error e => exact hr
  | ok fl =>
    cases fl with
    | ret obj =>
      obtain ⟨e1, e2⟩ := hr
      subst e1 e2
      have ty : Shared.TypeIs { s with heap := s.heap.push { cls := .type "set", dict := none, data := .set #[] 0 (.fresh 0 0 (!w.params.followText "set-order")) } } (.ref s.heap.objs.size) "set" := ⟨_, Heap.get?_push_size _ rfl, rfl⟩
      have look := F.called_set.init.lookup
      have bnd := F.called_set.init.bind (.ref s.heap.objs.size)
      repeat (any_goals (first | assumption | wp_step))
      refine codeAny_mono (codeAny_call_builtin (R := wants (fun r s2 => r = .none ∧ SetMadeT P w s ks s2) E) F.called_set.init.plain F.entry_set_init (check_set_init_1 ty ?_)) fun r2 s2 hr2 => ?_
      · exact set_filledT ks (by simp [hh]) (by simp; omega) hl hit hb hk fun s2 h => wpAny_pure ⟨rfl, h⟩
      · cases r2 with
        | error e => exact hr2
        | ok fl2 =>
          cases fl2 with
          | ret v =>
            obtain ⟨e1, h2⟩ := hr2
            subst e1
            repeat (any_goals (first | assumption | wp_step))
            exact q _ h2
          | _ => exact hr2.elim
    | _ => exact hr.elim
end
end DL
namespace DL
open PySem PySem.Spec PyProof.Rows L2
theorem refs_of_vals {α : Type} (f : α → Addr) : ∀ {as : List α} {us : List Value}, Vals (as.map fun p => V.ref (f p)) us → us = as.map fun p => Value.ref (f p)
  | [], us, h => by cases h; rfl
  | a :: as, us, h => by
    rw [List.map_cons] at h
    cases h with
    | cons h1 h2 =>
      rw [refs_of_vals f h2]
      have : _ = Value.ref (f a) := h1
      rw [this]
      rfl
section
variable {X : Cx} {Tb : List (Addr × Str)}
/-- set(a), a tuple of tuples of ints -/
def tSetT (K : PySem.W.Frag) (P : Program) (w : World) (ta : TE) : TE := fun σ H Q => ta σ H fun x H1 => ∃ (l : Addr) (ks : List (Addr × List Int)), x = V.ref l ∧ SqT K H1 l (ks.map fun p => V.ref p.1) ∧ (∀ p ∈ ks, SqT K H1 p.1 (p.2.map V.int)) ∧ ks.length < 64 ∧
  ∀ (p : Addr) (L : List (Addr × List Int)), H1 p = none → (∀ p ∈ L, p ∈ ks) → (∀ p ∈ ks, p.2 ∈ L.map (·.2)) → Q (.ref p) (upd H1 p (SetTO P w p L))
theorem pe_setT {a : Expr} {ta : TE} {q pos : Pos} (calm : X.calm = true) (hu : X.A.units + 200 < cLine) (gs : Gl X "set") (ms : X.mg "set" = none) (ha : PE X a ta)
    (na : starEach [a] X.env = (false, eval a X.env) :: starEach [] X.env := by rfl) : PE X (.Call (.Name "set" q) [a] [] pos) (tSetT X.K X.prog X.w ta) := by
  constructor
  intro pins s σ H Q I h
  refine Call_ (ld_blt I gs ms boot_set ?_)
  refine callWith_type1 (args_cons (thn (ha.run pins s σ H _ I h) fun v s1 ⟨x, H1, I1, r1, q1⟩ => args_nil ?_) na) na rfl
  obtain ⟨l, ks, e1, hq, hks, hlen, q1⟩ := q1
  subst e1
  cases r1
  obtain ⟨its, rv, pl, hz⟩ := I1.tuple hq
  refine set_of_tuple ks (I1.ok.hd calm) (by omega) pl (by have := refs_of_vals (fun p : Addr × List Int => p.1) rv; simpa using this) hlen (fun p hp => I1.isT (hks p hp)) fun s2 ⟨h', tk, L, e2, R, c1, c2, k⟩ => ?_
  subst e2
  have fresh : H1 s1.heap.objs.size = none := I1.hok.fresh (Nat.le_refl _)
  exact ⟨.ref s1.heap.objs.size, _, I1.laid (t' := tk) k (Nat.le_refl _) (setTO_new R), rfl, q1 _ L fresh c1 c2⟩
end
end DL
/-! sorted(set(x)) of a tuple of pairs: the order. -/
namespace DL
open PySem PySem.Spec PyProof.Rows L2
def smallP (p : Int × Int) : Prop := 0 ≤ p.1 ∧ p.1 < 1000 ∧ 0 ≤ p.2 ∧ p.2 < 1000
theorem pairI_some {d : D} {p : Int × Int} (h : pairI d = some p) : d = pairD p ∧ smallP p := by
  unfold pairI at h
  split at h
  · rename_i a b
    split at h
    · rename_i c
      cases h
      exact ⟨rfl, c⟩
    · cases h
  · cases h
theorem pairsI_some : ∀ {ds : List D} {ps : List (Int × Int)}, pairsI ds = some ps → ds = ps.map pairD ∧ ∀ p ∈ ps, smallP p
  | [], ps, h => by
    have h : some [] = some ps := h
    cases h
    exact ⟨rfl, fun p hp => by cases hp⟩
  | d :: ds, ps, h => by
    unfold pairsI at h
    split at h
    · rename_i p qs h1 h2
      cases h
      obtain ⟨a, b⟩ := pairI_some h1
      obtain ⟨c, e⟩ := pairsI_some h2
      refine ⟨by rw [a, c]; rfl, fun q hq => ?_⟩
      rcases List.mem_cons.mp hq with rfl | hq
      · exact b
      · exact e q hq
    · cases h
theorem codeP_inj {p q : Int × Int} (hp : smallP p) (hq : smallP q) (h : codeP p = codeP q) : p = q := by
  unfold codeP at h
  obtain ⟨a, b⟩ := p
  obtain ⟨c, d⟩ := q
  unfold smallP at hp hq
  simp only at hp hq h
  rw [Prod.mk.injEq]
  omega
theorem mem_insP {p q : Int × Int} : ∀ {qs : List (Int × Int)}, q ∈ insP p qs ↔ q = p ∨ q ∈ qs
  | [] => by simp [insP]
  | r :: qs => by
    unfold insP
    split
    · simp
    · split
      · rename_i e
        subst e
        simp
      · rw [List.mem_cons, mem_insP, List.mem_cons]
        constructor
        · rintro (h | h | h) <;> simp [h]
        · rintro (h | h | h) <;> simp [h]
theorem mem_setP {q : Int × Int} : ∀ {ps : List (Int × Int)}, q ∈ setP ps ↔ q ∈ ps
  | [] => by simp [setP]
  | p :: ps => by
    show q ∈ insP p (setP ps) ↔ _
    rw [mem_insP, mem_setP, List.mem_cons]
theorem ins_sorted {p : Int × Int} (hp : smallP p) : ∀ {qs : List (Int × Int)}, (∀ q ∈ qs, smallP q) → qs.Pairwise (fun a b => codeP a < codeP b) → (insP p qs).Pairwise fun a b => codeP a < codeP b
  | [], _, _ => by simp [insP]
  | r :: qs, hs, h => by
    have hr := hs r List.mem_cons_self
    obtain ⟨h1, h2⟩ := List.pairwise_cons.mp h
    unfold insP
    split
    · rename_i c
      refine List.pairwise_cons.mpr ⟨fun a ha => ?_, h⟩
      rcases List.mem_cons.mp ha with rfl | ha
      · exact c
      · have := h1 a ha; omega
    · rename_i c
      split
      · exact h
      · rename_i c2
        refine List.pairwise_cons.mpr ⟨fun a ha => ?_, ins_sorted hp (fun q hq => hs q (List.mem_cons_of_mem _ hq)) h2⟩
        rcases mem_insP.mp ha with rfl | ha
        · have : codeP a ≠ codeP r := fun e => c2 (codeP_inj hp hr e)
          omega
        · exact h1 a ha
theorem set_sorted : ∀ {ps : List (Int × Int)}, (∀ q ∈ ps, smallP q) → (setP ps).Pairwise fun a b => codeP a < codeP b
  | [], _ => List.Pairwise.nil
  | p :: ps, h => ins_sorted (h p List.mem_cons_self) (fun q hq => h q (List.mem_cons_of_mem _ (mem_setP.mp hq))) (set_sorted fun q hq => h q (List.mem_cons_of_mem _ hq))
/-- the sorted list is the only one -/
theorem sorted_uniq : ∀ {as bs : List (Int × Int)}, as.Pairwise (fun a b => codeP a < codeP b) → bs.Pairwise (fun a b => codeP a < codeP b) → (∀ q, q ∈ as ↔ q ∈ bs) → as = bs
  | [], [], _, _, _ => rfl
  | [], b :: bs, _, _, h => absurd ((h b).mpr List.mem_cons_self) (by simp)
  | a :: as, [], _, _, h => absurd ((h a).mp List.mem_cons_self) (by simp)
  | a :: as, b :: bs, h1, h2, h => by
    obtain ⟨a1, a2⟩ := List.pairwise_cons.mp h1
    obtain ⟨b1, b2⟩ := List.pairwise_cons.mp h2
    have e : a = b := by
      rcases List.mem_cons.mp ((h a).mp List.mem_cons_self) with e | ha
      · exact e
      rcases List.mem_cons.mp ((h b).mpr List.mem_cons_self) with e | hb
      · exact e.symm
      have := b1 a ha
      have := a1 b hb
      omega
    subst e
    congr 1
    refine sorted_uniq a2 b2 fun q => ?_
    constructor
    · intro hq
      rcases List.mem_cons.mp ((h q).mp (List.mem_cons_of_mem _ hq)) with e | hq2
      · subst e; have := a1 q hq; omega
      · exact hq2
    · intro hq
      rcases List.mem_cons.mp ((h q).mpr (List.mem_cons_of_mem _ hq)) with e | hq2
      · subst e; have := b1 q hq; omega
      · exact hq2
section
variable {X : Cx} {Tb : List (Addr × Str)}
theorem rvs_pairs {K : PySem.W.Frag} {ad : List Addr} {H : Hp} : ∀ {xs : List V} {ps : List (Int × Int)}, RVs K ad H xs (ps.map pairD) → ∃ ks : List (Addr × List Int), xs = ks.map (fun p => V.ref p.1) ∧ ks.map (·.2) = ps.map (fun p => [p.1, p.2]) ∧ ∀ p ∈ ks, SqT K H p.1 (p.2.map V.int)
  | xs, [], h => by
    cases h
    exact ⟨[], rfl, rfl, fun p hp => by cases hp⟩
  | xs, p :: ps, h => by
    rw [List.map_cons] at h
    cases h with
    | cons h1 h2 =>
      obtain ⟨ks, rfl, e2, e3⟩ := rvs_pairs h2
      cases h1 with
      | @tup a vs ds g1 g2 =>
        have gi := ints_rv g2 (ns := [p.1, p.2]) rfl
        refine ⟨(a, [p.1, p.2]) :: ks, rfl, by rw [List.map_cons, List.map_cons, e2], fun q hq => ?_⟩
        rcases List.mem_cons.mp hq with rfl | hq
        · rw [gi.1] at g1
          exact g1
        · exact e3 q hq
def listP (p : Int × Int) : List Int := [p.1, p.2]
theorem code_pair (p : Int × Int) : TS.code 1000 (listP p) = codeP p := by
  unfold listP codeP
  simp [TS.code]
theorem picked {ps : List (Int × Int)} {ks : List (Addr × List Int)} (hk : ks.map (·.2) = ps.map listP) : ∀ {L : List (Addr × List Int)}, (∀ p ∈ L, p ∈ ks) → ∃ qs : List (Int × Int), L.map (·.2) = qs.map listP ∧ ∀ q ∈ qs, q ∈ ps
  | [], _ => ⟨[], rfl, fun q hq => by cases hq⟩
  | p :: L, h => by
    obtain ⟨qs, e1, e2⟩ := picked hk (L := L) fun q hq => h q (List.mem_cons_of_mem _ hq)
    have hp : p.2 ∈ ks.map (·.2) := List.mem_map.mpr ⟨p, h p List.mem_cons_self, rfl⟩
    rw [hk] at hp
    obtain ⟨q, hq, e⟩ := List.mem_map.mp hp
    refine ⟨q :: qs, by rw [List.map_cons, List.map_cons, e1, e], fun r hr => ?_⟩
    rcases List.mem_cons.mp hr with rfl | hr
    · exact hq
    · exact e2 r hr
theorem listP_inj {p q : Int × Int} (h : listP p = listP q) : p = q := by
  unfold listP at h
  obtain ⟨a, b⟩ := p
  obtain ⟨c, d⟩ := q
  simp at h
  rw [h.1, h.2]
/-- what sorted gives is setP -/
theorem sorted_is {ps : List (Int × Int)} (hs : ∀ p ∈ ps, smallP p) {ks L L' : List (Addr × List Int)} (hk : ks.map (·.2) = ps.map listP) (c1 : ∀ p ∈ L, p ∈ ks) (c2 : ∀ p ∈ ks, p.2 ∈ L.map (·.2)) (perm : L'.Perm L) (nd : (L'.map (·.2)).Nodup) (so : L'.Pairwise fun q r => TS.code 1000 q.2 ≤ TS.code 1000 r.2) : L'.map (·.2) = (setP ps).map listP := by
  have c1' : ∀ p ∈ L', p ∈ ks := fun p hp => c1 p (perm.mem_iff.mp hp)
  obtain ⟨qs, e1, e2⟩ := picked hk c1'
  rw [e1]
  congr 1
  have so2 : (L'.map (·.2)).Pairwise fun x y => TS.code 1000 x ≤ TS.code 1000 y := List.pairwise_map.mpr so
  rw [e1] at so2 nd
  have so3 := List.pairwise_map.mp so2
  have nd3 := List.pairwise_map.mp nd
  refine sorted_uniq ((so3.and nd3).imp_of_mem fun {a b} ha hb h => ?_) (set_sorted hs) fun q => ?_
  · have h1 := h.1
    rw [code_pair, code_pair] at h1
    have h2 : codeP a ≠ codeP b := fun e => h.2 (by rw [codeP_inj (hs a (e2 a ha)) (hs b (e2 b hb)) e])
    omega
  · rw [mem_setP]
    refine ⟨e2 q, fun hq => ?_⟩
    have h1 : listP q ∈ ks.map (·.2) := by rw [hk]; exact List.mem_map.mpr ⟨q, hq, rfl⟩
    obtain ⟨p, hp, e⟩ := List.mem_map.mp h1
    have h2 := c2 p hp
    rw [e] at h2
    have h3 : listP q ∈ L'.map (·.2) := by
      obtain ⟨r, hr, e3⟩ := List.mem_map.mp h2
      exact List.mem_map.mpr ⟨r, perm.mem_iff.mpr hr, e3⟩
    rw [e1] at h3
    obtain ⟨r, hr, e3⟩ := List.mem_map.mp h3
    rw [listP_inj e3] at hr
    exact hr
theorem pairs_rv {K : PySem.W.Frag} {ad : List Addr} {H : Hp} : ∀ {L : List (Addr × List Int)} {qs : List (Int × Int)}, L.map (·.2) = qs.map listP → (∀ p ∈ L, SqT K H p.1 (p.2.map V.int)) → RVs K ad H (L.map fun q => V.ref q.1) (qs.map pairD)
  | [], [], _, _ => .nil
  | [], q :: qs, h, _ => by cases h
  | p :: L, [], h, _ => by cases h
  | p :: L, q :: qs, h, hs => by
    rw [List.map_cons, List.map_cons] at h
    obtain ⟨h1, h2⟩ := List.cons.inj h
    rw [List.map_cons, List.map_cons]
    refine .cons ?_ (pairs_rv h2 fun r hr => hs r (List.mem_cons_of_mem _ hr))
    have := hs p List.mem_cons_self
    rw [h1] at this
    exact .tup this (rv_ints [q.1, q.2])
theorem dl_sortSP {a : Expr} {g : GE} {q p pos : Pos} {x y : Str} (hr : Room 0 X.A) (hx : x = "sorted") (hy : y = "set") (hm : X.mg x = none) (ms : X.mg y = none) (ha : PE X a (TD X.K Tb g)) (hg : Gl X x := by rfl) (gl : Gl X y := by rfl) (calm : X.calm = true := by rfl)
    (na : starEach [a] X.env = (false, eval a X.env) :: starEach [] X.env := by rfl) (he : starEach [.Call (.Name y q) [a] [] p] X.env = (false, eval (.Call (.Name y q) [a] [] p) X.env) :: starEach [] X.env := by rfl) (hdb : (x == ("__debug__" : Str)) = false := by decide) {p2 : Pos} :
    PE X (.Call (.Name x p2) [.Call (.Name y q) [a] [] p] [] pos) (TL X.K Tb (gSortSP g)) := by
  subst hx hy
  refine PE.of (pe_callB (id := "sorted") (cr_sortedT calm) hg hm (by decide +kernel) (pa_cons (pe_setT calm (by have := hr.un; omega) gl ms ha na) pa_nil he) (by decide) hdb he) fun σ H Q ⟨ad, ρ, st, R, S, w⟩ => ?_
  obtain ⟨d, s1, e1, w1⟩ := w.bind
  refine ⟨ad, ρ, st, R, S, ?_⟩
  rw [e1]
  intro ad1 H1 v x1 r1 S1
  cases r1 with
  | @tup l vs ds g1 g2 =>
    unfold sortSP at w1
    simp only at w1
    cases e2 : pairsI ds with
    | none => rw [e2] at w1; exact w1.elim
    | some ps =>
      rw [e2] at w1
      simp only at w1
      by_cases c : ps.length < 64
      · rw [if_pos c] at w1
        obtain ⟨rfl, hs⟩ := pairsI_some e2
        obtain ⟨ks, rfl, k1, k2⟩ := rvs_pairs g2
        have hlen : ks.length = ps.length := by
          have := congrArg List.length k1
          simpa using this
        refine ⟨l, ks, rfl, g1, k2, by omega, fun p L hp c1 c2 => ?_⟩
        have X2 : Ext X.K ad1 H1 ad1 (upd H1 p (SetTO X.prog X.w p L)) := ext_new hp
        have S2 := S1.upd_new (o := SetTO X.prog X.w p L) hp
        refine ⟨p, L, 2, 1000, rfl, upd_same, fun q hq => X2.tup _ _ (k2 q (c1 q hq)), by decide, fun q hq => ?_, fun L' r perm nd hL so hr2 => ?_⟩
        · have hq2 : q.2 ∈ ks.map (·.2) := List.mem_map.mpr ⟨q, c1 q hq, rfl⟩
          rw [k1] at hq2
          obtain ⟨pr, hpr, e⟩ := List.mem_map.mp hq2
          have hsm := hs pr hpr
          rw [← e]
          refine ⟨rfl, fun m hm => ?_⟩
          simp only [List.mem_cons, List.not_mem_nil, or_false] at hm
          unfold smallP at hsm
          rcases hm with rfl | rfl <;> omega
        · have hso := sorted_is hs k1 c1 c2 perm nd so
          have k3 : ∀ q ∈ L', SqT X.K (upd (upd H1 p (SetTO X.prog X.w p L)) r (.lst (L'.map fun q => V.ref q.1))) q.1 (q.2.map V.int) := fun q hq => (ext_new (K := X.K) (ad := ad1) hr2).tup _ _ (X2.tup _ _ (k2 q (c1 q (perm.mem_iff.mp hq))))
          exact w1 ad1 _ r _ ((x1.trans X2).trans (ext_new hr2)) ((x1.trans X2).none_of S2 hr2) (S2.not_mem hr2) upd_same (pairs_rv hso k3) (S2.upd_new hr2)
      · rw [if_neg c] at w1; exact w1.elim
  | _ => exact w1.elim
end
end DL
namespace DL
open PySem PySem.Spec PyProof.Rows L2
section
variable {K : PySem.W.Frag} {Tb : List (Addr × Str)} {X : Cx} {a b : Expr} {ga gb : GE} {pos : Pos}
theorem s_lenC : Snd1 K Tb (fun x H Q => (fun (xs : List V) (H : Hp) (Q : VK) => ∃ x n, xs = [x] ∧ LenV K x H n ∧ Q (.int n) H) [x] H Q) vLenC := by
  intro ad H st x d Q r S w
  cases r with
  | cl h1 rs =>
    rename_i q xs ds
    have w' : PostD K Tb ad H Q (.ok (.int ds.length) st) := w
    exact ⟨_, xs.length, rfl, .inl ⟨xs, h1.sql, rfl⟩, by rw [rs.length]; exact w' ad H _ Ext.refl (.int _) S⟩
  | _ => exact w.elim
theorem s_ixC : Snd2 K Tb (rIx K) vIxC := by
  intro ad H st x y d e Q rx ry S w
  cases rx with
  | cl h1 r1 =>
    rename_i a xs ds
    cases ry with
    | int i =>
      unfold vIxC at w
      simp only at w
      cases q : atD ds i with
      | none => simp only [q] at w; exact w.elim
      | some d =>
        simp only [q] at w
        obtain ⟨v, g1, g2⟩ := r1.atI q
        exact .inl ⟨a, xs, i, v, rfl, rfl, h1.sql, g1, w ad H v Ext.refl g2 S⟩
    | _ => exact w.elim
  | _ => cases ry <;> exact w.elim
theorem d_ixC (ha : PE X a (TD X.K Tb ga)) (hb : PE X b (TD X.K Tb gb)) (hs : PlainIx b := by exact fun _ _ => rfl) : PE X (.Subscript a b pos) (TD X.K Tb (gOp vIxC ga gb)) :=
  PE.of (pe_ix ix_seq ha hb hs) fun σ H Q w => run2 s_ixC w
end
end DL
/-! Running the language of values: what holds behind a run. -/
namespace DL
open PySem
def Run {α : Type} (m : M α) (st : Store) (Q : α → Store → Prop) : Prop := match m st with
  | .ok a s => Q a s
  | _ => False
section
variable {α β : Type} {m : M α} {f : α → M β} {st : Store} {Q : α → Store → Prop} {R : β → Store → Prop}
theorem Run.mono {P : α → Store → Prop} (h : Run m st P) (k : ∀ a s, P a s → Q a s) : Run m st Q := by
  unfold Run at h ⊢
  cases e : m st with
  | ok a s => rw [e] at h; exact k a s h
  | stuck => rw [e] at h; exact h
  | exc _ _ _ => rw [e] at h; exact h
theorem Run.get (h : Run m st Q) : ∃ a s, m st = .ok a s ∧ Q a s := by
  unfold Run at h
  cases e : m st with
  | ok a s => rw [e] at h; exact ⟨a, s, rfl, h⟩
  | stuck => rw [e] at h; exact h.elim
  | exc _ _ _ => rw [e] at h; exact h.elim
theorem Run.of {a : α} {s : Store} (e : m st = .ok a s) (h : Q a s) : Run m st Q := by
  unfold Run; rw [e]; exact h
theorem Run.det {P : α → Store → Prop} (h : Run m st Q) (g : Run m st P) : Run m st fun a s => Q a s ∧ P a s := by
  obtain ⟨a, s, e, q⟩ := h.get
  obtain ⟨a', s', e', q'⟩ := g.get
  rw [e] at e'
  injection e' with e1 e2
  subst e1 e2
  exact Run.of e ⟨q, q'⟩
@[simp] theorem run_ret {a : α} : Run (ret a) st Q ↔ Q a st := Iff.rfl
@[simp] theorem run_bad : Run (bad : M α) st Q ↔ False := Iff.rfl
@[simp] theorem run_then : Run (andThen m f) st R ↔ Run m st fun a s => Run (f a) s R := by
  unfold Run andThen
  cases m st <;> exact Iff.rfl
@[simp] theorem run_ite {c : Prop} [Decidable c] {a b : M α} : Run (if c then a else b) st Q ↔ if c then Run a st Q else Run b st Q := by
  by_cases h : c
  · rw [if_pos h, if_pos h]
  · rw [if_neg h, if_neg h]
end
section
variable {ρ : Env} {st : Store} {Q : D → Store → Prop} {QA : List D → Store → Prop} {QB : Bool → Store → Prop} {a b c : GE} {t u : GT} {gs r : GA}
@[simp] theorem run_gVar {i : Nat} : Run (gVar i ρ) st Q ↔ ∃ d, ρ[i]? = some (some d) ∧ Q d st := by
  unfold Run gVar
  cases e : ρ[i]? with
  | none => simp
  | some o => cases o <;> simp
@[simp] theorem run_gC {d : D} : Run (gC d ρ) st Q ↔ Q d st := Iff.rfl
@[simp] theorem run_gOp {h : O2} : Run (gOp h a b ρ) st Q ↔ Run (a ρ) st fun x s => Run (b ρ) s fun y s => Run (h x y) s Q := by
  unfold gOp; simp only [run_then]
@[simp] theorem run_gUn {h : D → M D} : Run (gUn h a ρ) st Q ↔ Run (a ρ) st fun x s => Run (h x) s Q := by
  unfold gUn; simp only [run_then]
@[simp] theorem run_gNil : Run (gNil ρ) st QA ↔ QA [] st := Iff.rfl
@[simp] theorem run_gCons : Run (gCons a r ρ) st QA ↔ Run (a ρ) st fun x s => Run (r ρ) s fun xs s => QA (x :: xs) s := by
  unfold gCons; simp only [run_then, run_ret]
@[simp] theorem run_gStar : Run (gStar a r ρ) st QA ↔ Run (a ρ) st fun x s => Run (vItems x) s fun xs s => Run (r ρ) s fun ys s => QA (xs ++ ys) s := by
  unfold gStar; simp only [run_then, run_ret]
@[simp] theorem run_small {ds : List D} : Run (small ds) st QA ↔ ds.length ≤ SZ ∧ QA ds st := by
  unfold small
  by_cases h : ds.length ≤ SZ
  · rw [if_pos h, run_ret]; simp [h]
  · rw [if_neg h, run_bad]; simp [h]
@[simp] theorem run_gTup : Run (gTup gs ρ) st Q ↔ Run (gs ρ) st fun ds s => ds.length ≤ SZ ∧ Q (.tup ds) s := by
  unfold gTup; simp only [run_then, run_ret, run_small]
@[simp] theorem run_newList {ds : List D} : Run (newList ds) st Q ↔ Q (.rf st.length) (st ++ [.lst ds]) := Iff.rfl
@[simp] theorem run_gNew : Run (gNew gs ρ) st Q ↔ Run (gs ρ) st fun ds s => Q (.rf s.length) (s ++ [.lst ds]) := by
  unfold gNew; simp only [run_then, run_newList]
@[simp] theorem run_gLst : Run (gLst gs ρ) st QA ↔ Run (gs ρ) st fun ds s => ds.length ≤ SZ ∧ QA ds s := by
  unfold gLst; simp only [run_then, run_small]
@[simp] theorem run_tB : Run (tB a ρ) st QB ↔ Run (a ρ) st fun d s => ∃ k, d = .bl k ∧ QB k s := by
  unfold tB; rw [run_then]
  constructor
  · intro h
    refine h.mono fun d s q => ?_
    cases d with
    | bl k => exact ⟨k, rfl, q⟩
    | _ => exact q.elim
  · intro h
    refine h.mono fun d s q => ?_
    obtain ⟨k, rfl, q⟩ := q
    exact q
@[simp] theorem run_tTru : Run (tTru a ρ) st QB ↔ Run (a ρ) st fun d s => ∃ k, tru d s = some k ∧ QB k s := by
  unfold tTru; rw [run_then]
  constructor
  · intro h
    refine h.mono fun d s q => ?_
    unfold Run at q
    cases e : tru d s with
    | none => simp only [e] at q
    | some k => simp only [e] at q; exact ⟨k, rfl, q⟩
  · intro h
    refine h.mono fun d s q => ?_
    obtain ⟨k, e, q⟩ := q
    unfold Run
    simp only [e]
    exact q
@[simp] theorem run_tNot : Run (tNot t ρ) st QB ↔ Run (t ρ) st fun k s => QB (!k) s := by
  unfold tNot; simp only [run_then, run_ret]
@[simp] theorem run_tAnd : Run (tAnd t u ρ) st QB ↔ Run (t ρ) st fun k s => if k = true then Run (u ρ) s QB else QB false s := by
  unfold tAnd; simp only [run_then, run_ret, run_ite]
@[simp] theorem run_tOr : Run (tOr t u ρ) st QB ↔ Run (t ρ) st fun k s => if k = true then QB true s else Run (u ρ) s QB := by
  unfold tOr; simp only [run_then, run_ret, run_ite]
@[simp] theorem run_tYes : Run (tYes ρ) st QB ↔ QB true st := Iff.rfl
@[simp] theorem run_gNot : Run (gNot a ρ) st Q ↔ Run (a ρ) st fun d s => ∃ k, d = .bl k ∧ Q (.bl (!k)) s := by
  unfold gNot; simp only [run_then, run_ret, run_tB]
@[simp] theorem run_gAnd : Run (gAnd a b ρ) st Q ↔ Run (a ρ) st fun d s => ∃ k, d = .bl k ∧ if k = true then Run (b ρ) s Q else Q (.bl false) s := by
  unfold gAnd; simp only [run_then, run_ret, run_tB, run_ite]
@[simp] theorem run_gOr : Run (gOr a b ρ) st Q ↔ Run (a ρ) st fun d s => ∃ k, d = .bl k ∧ if k = true then Q (.bl true) s else Run (b ρ) s Q := by
  unfold gOr; simp only [run_then, run_ret, run_tB, run_ite]
@[simp] theorem run_gIf : Run (gIf t a b ρ) st Q ↔ Run (t ρ) st fun k s => if k = true then Run (a ρ) s Q else Run (b ρ) s Q := by
  unfold gIf; simp only [run_then, run_ite]
@[simp] theorem run_asB {d : D} {QB : Bool → Store → Prop} : Run (asB d) st QB ↔ ∃ k, d = .bl k ∧ QB k st := by
  cases d <;> simp [asB, run_ret, run_bad]
@[simp] theorem run_gChain {h h' : O2} : Run (gChain h h' a b c ρ) st Q ↔ Run (a ρ) st fun x s => Run (b ρ) s fun y s => Run (h x y) s fun z s => ∃ k, z = .bl k ∧ if k = true then Run (c ρ) s fun w s => Run (h' y w) s Q else Q (.bl false) s := by
  unfold gChain; simp only [run_then, run_asB, run_ite, run_ret]
@[simp] theorem run_oNone {QO : Option Int → Store → Prop} : Run (oNone ρ) st QO ↔ QO none st := Iff.rfl
@[simp] theorem run_asInt {d : D} {QI : Int → Store → Prop} : Run (asInt d) st QI ↔ ∃ i, d = .int i ∧ QI i st := by
  cases d <;> simp [asInt, run_ret, run_bad]
@[simp] theorem run_oSome {QO : Option Int → Store → Prop} : Run (oSome a ρ) st QO ↔ Run (a ρ) st fun d s => ∃ i, d = .int i ∧ QO (some i) s := by
  unfold oSome; simp only [run_then, run_asInt, run_ret]
@[simp] theorem run_gSl {lo hi : Env → M (Option Int)} : Run (gSl a lo hi ρ) st Q ↔ Run (a ρ) st fun x s => Run (lo ρ) s fun l s => Run (hi ρ) s fun h s => Run (vSl x l h) s Q := by
  unfold gSl; simp only [run_then]
@[simp] theorem run_gList : Run (gList a ρ) st QA ↔ Run (a ρ) st fun x s => Run (vItems x) s QA := by
  unfold gList; simp only [run_then]
@[simp] theorem run_gTupOf : Run (gTupOf gs ρ) st Q ↔ Run (gs ρ) st fun ds s => Q (.tup ds) s := by
  unfold gTupOf; simp only [run_then, run_ret]
@[simp] theorem run_gAll : Run (gAll gs ρ) st Q ↔ Run (gs ρ) st fun ds s => ∃ bs, bools ds = some bs ∧ Q (.bl (bs.all id)) s := by
  unfold gAll; rw [run_then]
  constructor
  · intro h
    refine h.mono fun ds s q => ?_
    cases e : bools ds with
    | none => simp only [e] at q; exact q.elim
    | some bs => simp only [e] at q; exact ⟨bs, rfl, q⟩
  · intro h
    refine h.mono fun ds s q => ?_
    obtain ⟨bs, e, q⟩ := q
    simp only [e]; exact q
@[simp] theorem run_gAny : Run (gAny gs ρ) st Q ↔ Run (gs ρ) st fun ds s => ∃ bs, bools ds = some bs ∧ Q (.bl (bs.any id)) s := by
  unfold gAny; rw [run_then]
  constructor
  · intro h
    refine h.mono fun ds s q => ?_
    cases e : bools ds with
    | none => simp only [e] at q; exact q.elim
    | some bs => simp only [e] at q; exact ⟨bs, rfl, q⟩
  · intro h
    refine h.mono fun ds s q => ?_
    obtain ⟨bs, e, q⟩ := q
    simp only [e]; exact q
@[simp] theorem run_gIxL {i : GE} : Run (gIxL gs i ρ) st Q ↔ Run (gs ρ) st fun ds s => Run (i ρ) s fun x s => ∃ k d, x = .int k ∧ atD ds k = some d ∧ Q d s := by
  unfold gIxL; rw [run_then]
  constructor
  · intro h
    refine h.mono fun ds s q => ?_
    rw [run_then] at q
    refine q.mono fun x s q => ?_
    rw [run_then, run_asInt] at q
    obtain ⟨k, rfl, q⟩ := q
    cases e : atD ds k with
    | none => simp only [e] at q; exact q.elim
    | some d => simp only [e] at q; exact ⟨k, d, rfl, e, q⟩
  · intro h
    refine h.mono fun ds s q => ?_
    rw [run_then]
    refine q.mono fun x s q => ?_
    obtain ⟨k, d, rfl, e, q⟩ := q
    rw [run_then, run_asInt]
    refine ⟨k, rfl, ?_⟩
    simp only [e]; exact q
@[simp] theorem run_gCall {g : GF} : Run (gCall g gs ρ) st Q ↔ Run (gs ρ) st fun ds s => Run (g ds) s Q := by
  unfold gCall; simp only [run_then]
end
/-! ### values -/
section
variable {st : Store} {Q : D → Store → Prop}
@[simp] theorem run_addI {i j : Int} : Run (vAdd (.int i) (.int j)) st Q ↔ Q (.int (i + j)) st := Iff.rfl
@[simp] theorem run_addT {a b : List D} : Run (vAdd (.tup a) (.tup b)) st Q ↔ a.length + b.length ≤ SZ ∧ Q (.tup (a ++ b)) st := by
  show Run (if a.length + b.length ≤ SZ then ret (.tup (a ++ b)) else bad) st Q ↔ _
  rw [run_ite]
  by_cases h : a.length + b.length ≤ SZ
  · rw [if_pos h]; simp [h, run_ret]
  · rw [if_neg h]; simp [h, run_bad]
@[simp] theorem run_addS {a b : Str} : Run (vAdd (.str a) (.str b)) st Q ↔ a.length + b.length ≤ SZ ∧ Q (.str (a ++ b)) st := by
  show Run (if a.length + b.length ≤ SZ then ret (.str (a ++ b)) else bad) st Q ↔ _
  rw [run_ite]
  by_cases h : a.length + b.length ≤ SZ
  · rw [if_pos h]; simp [h, run_ret]
  · rw [if_neg h]; simp [h, run_bad]
@[simp] theorem run_subI {i j : Int} : Run (vSub (.int i) (.int j)) st Q ↔ Q (.int (i - j)) st := Iff.rfl
@[simp] theorem run_mulI {i j : Int} : Run (vMul (.int i) (.int j)) st Q ↔ mulOk i j = true ∧ Q (.int (i * j)) st := by
  show Run (if mulOk i j = true then ret (.int (i * j)) else bad) st Q ↔ _
  rw [run_ite]
  by_cases h : mulOk i j = true
  · rw [if_pos h]; simp [h, run_ret]
  · rw [if_neg h]; simp [h, run_bad]
@[simp] theorem run_divI {i j : Int} : Run (vDiv (.int i) (.int j)) st Q ↔ (0 < j ∧ j.natAbs < 2 ^ 400) ∧ Q (.int (i / j)) st := by
  show Run (if 0 < j ∧ j.natAbs < 2 ^ 400 then ret (.int (i / j)) else bad) st Q ↔ _
  rw [run_ite]
  by_cases h : 0 < j ∧ j.natAbs < 2 ^ 400
  · rw [if_pos h]; simp [h, run_ret]
  · rw [if_neg h, run_bad]
    exact ⟨False.elim, fun q => h q.1⟩
@[simp] theorem run_modI {i j : Int} : Run (vMod (.int i) (.int j)) st Q ↔ 0 < j ∧ Q (.int (i % j)) st := by
  show Run (if 0 < j then ret (.int (i % j)) else bad) st Q ↔ _
  rw [run_ite]
  by_cases h : 0 < j
  · rw [if_pos h]; simp [h, run_ret]
  · rw [if_neg h]; simp [h, run_bad]
@[simp] theorem run_shrI {i j : Int} : Run (vShr (.int i) (.int j)) st Q ↔ 0 ≤ j ∧ Q (.int (i / 2 ^ j.toNat)) st := by
  show Run (if 0 ≤ j then ret (.int (i / 2 ^ j.toNat)) else bad) st Q ↔ _
  rw [run_ite]
  by_cases h : 0 ≤ j
  · rw [if_pos h]; simp [h, run_ret]
  · rw [if_neg h]; simp [h, run_bad]
@[simp] theorem run_ltI {i j : Int} : Run (vLt (.int i) (.int j)) st Q ↔ Q (.bl (decide (i < j))) st := Iff.rfl
@[simp] theorem run_leI {i j : Int} : Run (vLe (.int i) (.int j)) st Q ↔ Q (.bl (decide (i ≤ j))) st := Iff.rfl
@[simp] theorem run_gtI {i j : Int} : Run (vGt (.int i) (.int j)) st Q ↔ Q (.bl (decide (j < i))) st := Iff.rfl
@[simp] theorem run_geI {i j : Int} : Run (vGe (.int i) (.int j)) st Q ↔ Q (.bl (decide (j ≤ i))) st := Iff.rfl
@[simp] theorem run_vEq {a b : D} : Run (vEq a b) st Q ↔ ∃ k, eqPy a b st = some k ∧ Q (.bl k) st := by
  unfold Run vEq
  cases e : eqPy a b st <;> simp
@[simp] theorem run_vNe {a b : D} : Run (vNe a b) st Q ↔ ∃ k, eqPy a b st = some k ∧ Q (.bl (!k)) st := by
  unfold Run vNe
  cases e : eqPy a b st <;> simp
@[simp] theorem run_vIn {a b : D} : Run (vIn a b) st Q ↔ ∃ k, inB a b st = some k ∧ Q (.bl k) st := by
  unfold Run vIn
  cases e : inB a b st <;> simp
@[simp] theorem run_vNotIn {a b : D} : Run (vNotIn a b) st Q ↔ ∃ k, inB a b st = some k ∧ Q (.bl (!k)) st := by
  unfold Run vNotIn
  cases e : inB a b st <;> simp
@[simp] theorem run_vIs {a b : D} : Run (vIs a b) st Q ↔ ∃ k, isB a b = some k ∧ Q (.bl k) st := by
  unfold vIs
  cases e : isB a b <;> simp [run_bad, run_ret]
@[simp] theorem run_vIsNot {a b : D} : Run (vIsNot a b) st Q ↔ ∃ k, isB a b = some k ∧ Q (.bl (!k)) st := by
  unfold vIsNot
  cases e : isB a b <;> simp [run_bad, run_ret]
@[simp] theorem run_ixT {ds : List D} {i : Int} : Run (vIx (.tup ds) (.int i)) st Q ↔ ∃ d, atD ds i = some d ∧ Q d st := by
  unfold vIx
  simp only
  cases e : atD ds i <;> simp [run_bad, run_ret]
@[simp] theorem run_ixL {n : Nat} {i : Int} : Run (vIx (.rf n) (.int i)) st Q ↔ ∃ ds d, cellItems st n = some ds ∧ atD ds i = some d ∧ Q d st := by
  unfold Run vIx
  simp only
  cases e : cellItems st n with
  | none => simp
  | some ds => cases e2 : atD ds i <;> simp [Option.bind, e2]
@[simp] theorem run_negI {i : Int} : Run (vNeg (.int i)) st Q ↔ Q (.int (-i)) st := Iff.rfl
@[simp] theorem run_absI {i : Int} : Run (vAbs (.int i)) st Q ↔ Q (.int (if i < 0 then -i else i)) st := Iff.rfl
@[simp] theorem run_intI {i : Int} : Run (vInt (.int i)) st Q ↔ Q (.int i) st := Iff.rfl
@[simp] theorem run_lenT {ds : List D} : Run (vLen (.tup ds)) st Q ↔ Q (.int ds.length) st := Iff.rfl
@[simp] theorem run_lenL {n : Nat} : Run (vLen (.rf n)) st Q ↔ ∃ ds, cellItems st n = some ds ∧ Q (.int ds.length) st := by
  unfold Run vLen
  simp only
  cases e : cellItems st n <;> simp
@[simp] theorem run_tupleT {ds : List D} : Run (vTuple (.tup ds)) st Q ↔ Q (.tup ds) st := Iff.rfl
@[simp] theorem run_tupleL {n : Nat} : Run (vTuple (.rf n)) st Q ↔ ∃ ds, cellItems st n = some ds ∧ Q (.tup ds) st := by
  unfold Run vTuple
  simp only
  cases e : cellItems st n <;> simp
@[simp] theorem run_itemsT {ds : List D} {QA : List D → Store → Prop} : Run (vItems (.tup ds)) st QA ↔ QA ds st := Iff.rfl
@[simp] theorem run_itemsL {n : Nat} {QA : List D → Store → Prop} : Run (vItems (.rf n)) st QA ↔ ∃ ds, cellItems st n = some ds ∧ QA ds st := by
  unfold Run vItems
  simp only
  cases e : cellItems st n <;> simp
@[simp] theorem run_slT {ds : List D} {l h : Option Int} : Run (vSl (.tup ds) l h) st Q ↔ Q (.tup (cutD ds l h)) st := Iff.rfl
@[simp] theorem run_slS {z : Str} {l h : Option Int} : Run (vSl (.str z) l h) st Q ↔ z.length ≤ SZ ∧ Q (.str (cutS z l h)) st := by
  show Run (if z.length ≤ SZ then ret (.str (cutS z l h)) else bad) st Q ↔ _
  rw [run_ite]
  by_cases h : z.length ≤ SZ
  · rw [if_pos h]; simp [h]
  · rw [if_neg h]; simp [h]
@[simp] theorem run_upper {z : Str} : Run (vUpper (.str z)) st Q ↔ z.length ≤ 1000 ∧ Q (.str (Txt.upper z)) st := by
  show Run (if z.length ≤ 1000 then ret (.str (Txt.upper z)) else bad) st Q ↔ _
  rw [run_ite]
  by_cases h : z.length ≤ 1000
  · rw [if_pos h]; simp [h]
  · rw [if_neg h]; simp [h]
@[simp] theorem run_slL {n : Nat} {l h : Option Int} : Run (vSl (.rf n) l h) st Q ↔ ∃ ds, cellItems st n = some ds ∧ Q (.rf st.length) (st ++ [.lst (cutD ds l h)]) := by
  unfold Run vSl
  simp only
  cases e : cellItems st n <;> simp [newList]
/-- what may be asked for its type: no list that is not there -/
def Has (st : Store) : D → Prop
  | .rf n => ∃ ds, cellItems st n = some ds
  | .cl _ => False
  | .dr _ => False
  | .ob _ => False
  | _ => True
@[simp] theorem isB_bl {a b : Bool} : isB (.bl a) (.bl b) = some (a == b) := rfl
@[simp] theorem isB_non : isB .non .non = some true := rfl
@[simp] theorem isB_int {i : Int} : isB (.int i) .non = some false := rfl
@[simp] theorem isB_tup {ds : List D} : isB (.tup ds) .non = some false := rfl
@[simp] theorem isB_str {x : Str} : isB (.str x) .non = some false := rfl
@[simp] theorem isB_rf {n : Nat} : isB (.rf n) .non = some false := rfl
@[simp] theorem isB_ob {n : Nat} : isB (.ob n) .non = some false := rfl
@[simp] theorem isB_bln {a : Bool} : isB (.bl a) .non = some false := rfl
@[simp] theorem tru_bl {b : Bool} : tru (.bl b) st = some b := rfl
@[simp] theorem tru_non : tru .non st = some false := rfl
@[simp] theorem tru_tup {ds : List D} : tru (.tup ds) st = some (!ds.isEmpty) := rfl
@[simp] theorem tru_int {i : Int} : tru (.int i) st = some (i != 0) := rfl
theorem run_isi {t : Ty} {d : D} : Run (vIsi t d) st Q ↔ Has st d ∧ Q (.bl (isTy t d)) st := by
  cases d with
  | rf n =>
    unfold Run vIsi Has
    simp only
    cases e : cellItems st n <;> simp
  | cl ds => simp [vIsi, Has, run_bad]
  | dr n => simp [vIsi, Has, run_bad]
  | ob n => simp [vIsi, Has, run_bad]
  | _ => simp [vIsi, Has, run_ret]
end
/-! ### statements -/
section
variable {ρ : Env} {st : Store} {Q : Fl → Store → Prop} {a : GE} {t : GT} {p q : GS} {g : GG}
def fl (Q : Fl → Store → Prop) (q : GS) : Fl → Store → Prop
  | .nx ρ', s => Run (q ρ') s Q
  | f, s => Q f s
@[simp] theorem run_gSeq : Run (gSeq p q ρ) st Q ↔ Run (p ρ) st (fl Q q) := by
  unfold gSeq; rw [run_then]
  constructor
  · intro h; refine h.mono fun f s x => ?_; cases f <;> exact x
  · intro h; refine h.mono fun f s x => ?_; cases f <;> exact x
@[simp] theorem fl_nx {ρ' : Env} {s : Store} : fl Q q (.nx ρ') s ↔ Run (q ρ') s Q := Iff.rfl
@[simp] theorem fl_rt {d : D} {s : Store} : fl Q q (.rt d) s ↔ Q (.rt d) s := Iff.rfl
@[simp] theorem run_gNext : Run (gNext ρ) st Q ↔ Q (.nx ρ) st := Iff.rfl
@[simp] theorem run_gDrop : Run (gDrop a ρ) st Q ↔ Run (a ρ) st fun _ s => Q (.nx ρ) s := by
  unfold gDrop; simp only [run_then, run_ret]
@[simp] theorem run_gRet : Run (gRet a ρ) st Q ↔ Run (a ρ) st fun d s => Q (.rt d) s := by
  unfold gRet; simp only [run_then, run_ret]
@[simp] theorem run_gIfS : Run (gIfS t p q ρ) st Q ↔ Run (t ρ) st fun k s => if k = true then Run (p ρ) s Q else Run (q ρ) s Q := by
  unfold gIfS; simp only [run_then, run_ite]
@[simp] theorem run_gAsg : Run (gAsg a g ρ) st Q ↔ Run (a ρ) st fun d s => Run (g d ρ) s fun ρ' s => Q (.nx ρ') s := by
  unfold gAsg; simp only [run_then, run_ret]
@[simp] theorem run_gName {i : Nat} {d : D} {QE : Env → Store → Prop} : Run (gName i d ρ) st QE ↔ QE (ρ.set i (some d)) st := Iff.rfl
@[simp] theorem run_unpack {n : Nat} {r : GGs} {ds : List D} {QE : Env → Store → Prop} : Run (gUnpack n r (.tup ds) ρ) st QE ↔ ds.length = n ∧ Run (r ds ρ) st QE := by
  show Run (if ds.length = n then r ds ρ else bad) st QE ↔ _
  rw [run_ite]
  by_cases h : ds.length = n
  · rw [if_pos h]; simp [h]
  · rw [if_neg h]; simp [h, run_bad]
@[simp] theorem run_ggNil {QE : Env → Store → Prop} : Run (ggNil [] ρ) st QE ↔ QE ρ st := Iff.rfl
@[simp] theorem run_ggCons {g : GG} {r : GGs} {d : D} {ds : List D} {QE : Env → Store → Prop} : Run (ggCons g r (d :: ds) ρ) st QE ↔ Run (g d ρ) st fun ρ' s => Run (r ds ρ') s QE := by
  show Run (andThen (g d ρ) fun ρ' => r ds ρ') st QE ↔ _
  rw [run_then]
@[simp] theorem run_set {n : Nat} {k : Int} {v : D} {QU : Unit → Store → Prop} : Run (vSet (.rf n) (.int k) v) st QU ↔ ∃ ds j, st[n]? = some (.lst ds) ∧ ixOf ds.length k = some j ∧ QU () (st.set n (.lst (ds.set j v))) := by
  unfold Run vSet
  simp only
  cases e : st[n]? with
  | none => simp
  | some c =>
    cases c with
    | lst ds => cases e2 : ixOf ds.length k <;> simp [e2]
    | dct _ _ => simp
    | oth _ => simp
@[simp] theorem run_gSet {e o i : GE} : Run (gSet e o i ρ) st Q ↔ Run (e ρ) st fun v s => Run (o ρ) s fun x s => Run (i ρ) s fun y s => Run (vSet x y v) s fun _ s => Q (.nx ρ) s := by
  unfold gSet; simp only [run_then, run_ret]
@[simp] theorem run_app {n : Nat} {v : D} {QD : D → Store → Prop} : Run (vApp (.rf n) v) st QD ↔ ∃ ds, st[n]? = some (.lst ds) ∧ ds.length < SZ ∧ QD .non (st.set n (.lst (ds ++ [v]))) := by
  unfold Run vApp
  simp only
  cases e : st[n]? with
  | none => simp
  | some c =>
    cases c with
    | lst ds => by_cases h : ds.length < SZ <;> simp [h]
    | dct _ _ => simp
    | oth _ => simp
@[simp] theorem run_gApp {o e : GE} {QD : D → Store → Prop} : Run (gApp o e ρ) st QD ↔ Run (o ρ) st fun x s => Run (e ρ) s fun v s => Run (vApp x v) s QD := by
  unfold gApp; simp only [run_then]
def fnQ (Q : D → Store → Prop) : Fl → Store → Prop
  | .nx _, s => Q .non s
  | .rt d, s => Q d s
  | _, _ => False
@[simp] theorem fnQ_nx {QD : D → Store → Prop} : fnQ QD (.nx ρ) st ↔ QD .non st := Iff.rfl
@[simp] theorem fnQ_rt {QD : D → Store → Prop} {d : D} : fnQ QD (.rt d) st ↔ QD d st := Iff.rfl
theorem run_gFn {np n : Nat} {b : GS} {ds : List D} {QD : D → Store → Prop} (h : ds.length = np) : Run (gFn np n b ds) st QD ↔ Run (b (startE n ds)) st (fnQ QD) := by
  unfold gFn
  rw [if_pos h, run_then]
  constructor
  · intro x; refine x.mono fun f s y => ?_; cases f <;> exact y
  · intro x; refine x.mono fun f s y => ?_; cases f <;> exact y
/-! ### walks -/
variable {QW : Walk → Store → Prop} {gs : GA}
@[simp] theorem run_seqT {ds : List D} {Q : Walk → Store → Prop} : Run (wSeq (gC (.tup ds)) ρ) st Q ↔ Q ⟨ds, fun _ => True⟩ st := Iff.rfl
def seqW : D → Store → (Walk → Store → Prop) → Prop
  | .tup ds, s, Q => Q ⟨ds, fun _ => True⟩ s
  | .cl ds, s, Q => Q ⟨ds, fun _ => True⟩ s
  | .rf n, s, Q => ∃ ds, cellItems s n = some ds ∧ Q ⟨ds, fun st' => cellItems st' n = some ds⟩ s
  | _, _, _ => False
@[simp] theorem seqW_tup {ds : List D} {s : Store} {Q : Walk → Store → Prop} : seqW (.tup ds) s Q ↔ Q ⟨ds, fun _ => True⟩ s := Iff.rfl
@[simp] theorem seqW_cl {ds : List D} {s : Store} {Q : Walk → Store → Prop} : seqW (.cl ds) s Q ↔ Q ⟨ds, fun _ => True⟩ s := Iff.rfl
@[simp] theorem seqW_rf {n : Nat} {s : Store} {Q : Walk → Store → Prop} : seqW (.rf n) s Q ↔ ∃ ds, cellItems s n = some ds ∧ Q ⟨ds, fun st' => cellItems st' n = some ds⟩ s := Iff.rfl
@[simp] theorem run_wSeq : Run (wSeq a ρ) st QW ↔ Run (a ρ) st fun d s => seqW d s QW := by
  unfold wSeq; rw [run_then]
  have key : ∀ (d : D) (s : Store), Run ((match d with
    | .tup ds => ret ⟨ds, fun _ => True⟩
    | .cl ds => ret ⟨ds, fun _ => True⟩
    | .rf n => fun st => match cellItems st n with
      | some ds => .ok ⟨ds, fun st' => cellItems st' n = some ds⟩ st
      | none => .stuck
    | _ => bad : M Walk)) s QW ↔ seqW d s QW := by
    intro d s
    cases d with
    | rf n =>
      unfold Run seqW
      simp only
      cases e : cellItems s n <;> simp
    | _ => exact Iff.rfl
  constructor
  · intro h; exact h.mono fun d s q => (key d s).mp q
  · intro h; exact h.mono fun d s q => (key d s).mpr q
@[simp] theorem run_wNew : Run (wNew gs ρ) st QW ↔ Run (gs ρ) st fun ds s => QW ⟨ds, fun _ => True⟩ s := by
  unfold wNew; simp only [run_then, run_ret]
@[simp] theorem run_wRange : Run (wRange a ρ) st QW ↔ Run (a ρ) st fun d s => ∃ j, d = .int j ∧ smallI j = true ∧ QW ⟨fromTo 0 j.toNat, fun _ => True⟩ s := by
  unfold wRange
  rw [run_then]
  constructor
  · intro h
    refine h.mono fun d s q => ?_
    rw [run_then, run_asInt] at q
    obtain ⟨j, rfl, q⟩ := q
    rw [run_ite] at q
    by_cases c : smallI j = true
    · rw [if_pos c] at q; exact ⟨j, rfl, c, q⟩
    · rw [if_neg c] at q; exact q.elim
  · intro h
    refine h.mono fun d s q => ?_
    obtain ⟨j, rfl, c, q⟩ := q
    rw [run_then, run_asInt]
    refine ⟨j, rfl, ?_⟩
    rw [run_ite, if_pos c]; exact q
@[simp] theorem run_wRange2 {b : GE} : Run (wRange2 a b ρ) st QW ↔ Run (a ρ) st fun x s => Run (b ρ) s fun y s => ∃ i j, x = .int i ∧ y = .int j ∧ (smallI i && smallI j) = true ∧ QW ⟨fromTo i (j - i).toNat, fun _ => True⟩ s := by
  unfold wRange2
  rw [run_then]
  constructor
  · intro h
    refine h.mono fun x s q0 => ?_
    rw [run_then] at q0
    refine q0.mono fun y s' q1 => ?_
    rw [run_then, run_asInt] at q1
    obtain ⟨i, rfl, q2⟩ := q1
    rw [run_then, run_asInt] at q2
    obtain ⟨j, rfl, q3⟩ := q2
    rw [run_ite] at q3
    by_cases c : (smallI i && smallI j) = true
    · rw [if_pos c] at q3; exact ⟨i, j, rfl, rfl, c, q3⟩
    · rw [if_neg c] at q3; exact q3.elim
  · intro h
    refine h.mono fun x s q => ?_
    rw [run_then]
    refine q.mono fun y s q => ?_
    obtain ⟨i, j, rfl, rfl, c, q⟩ := q
    rw [run_then, run_asInt]
    refine ⟨i, rfl, ?_⟩
    rw [run_then, run_asInt]
    refine ⟨j, rfl, ?_⟩
    rw [run_ite, if_pos c]; exact q
theorem run_gFor {w : GI} {b : GS} : Run (gFor w g b ρ) st Q ↔ Run (w ρ) st fun k s => Run (gLoop k.guard g b k.items ρ) s Q := by
  unfold gFor; simp only [run_then]
/-- what is wanted behind one turn -/
def turnQ (Q : Fl → Store → Prop) (N : Env → Store → Prop) : Fl → Store → Prop
  | .nx ρ, s => N ρ s
  | .ct ρ, s => N ρ s
  | .bk ρ, s => Q (.nx ρ) s
  | .rt d, s => Q (.rt d) s
/-- a for by its invariant: I of the items still to come -/
@[simp] theorem run_loop_nil {b : GS} : Run (gLoop (fun _ => True) g b [] ρ) st Q ↔ Q (.nx ρ) st := by
  unfold gLoop Run walkC
  rw [if_pos trivial]; exact Iff.rfl
@[simp] theorem run_loop_cons {b : GS} {d : D} {l : List D} : Run (gLoop (fun _ => True) g b (d :: l) ρ) st Q ↔ Run (g d ρ) st fun ρ1 s1 => Run (b ρ1) s1 (turnQ Q fun ρ2 s2 => Run (gLoop (fun _ => True) g b l ρ2) s2 Q) := by
  conv => lhs; unfold gLoop
  have e : ∀ (m : Store → Res Fl), Run (walkC (fun _ => True) m) st Q ↔ Run m st Q := fun m => by
    unfold Run walkC; rw [if_pos trivial]
  rw [e]
  simp only [run_then]
  have k : ∀ (f : Fl) (s : Store), Run (match f with
    | .nx ρ2 => gLoop (fun _ => True) g b l ρ2
    | .ct ρ2 => gLoop (fun _ => True) g b l ρ2
    | .bk ρ2 => ret (.nx ρ2)
    | .rt d => ret (.rt d)) s Q ↔ turnQ Q (fun ρ2 s2 => Run (gLoop (fun _ => True) g b l ρ2) s2 Q) f s := fun f s => by cases f <;> exact Iff.rfl
  constructor
  · intro h; exact h.mono fun ρ1 s1 h1 => h1.mono fun f s h2 => (k f s).mp h2
  · intro h; exact h.mono fun ρ1 s1 h1 => h1.mono fun f s h2 => (k f s).mpr h2
@[simp] theorem turn_nx {N : Env → Store → Prop} : turnQ Q N (.nx ρ) st ↔ N ρ st := Iff.rfl
@[simp] theorem turn_ct {N : Env → Store → Prop} : turnQ Q N (.ct ρ) st ↔ N ρ st := Iff.rfl
@[simp] theorem turn_bk {N : Env → Store → Prop} : turnQ Q N (.bk ρ) st ↔ Q (.nx ρ) st := Iff.rfl
@[simp] theorem turn_rt {N : Env → Store → Prop} {d : D} : turnQ Q N (.rt d) st ↔ Q (.rt d) st := Iff.rfl
theorem run_loop {gd : Store → Prop} {b : GS} (I : List D → Env → Store → Prop) (hg : ∀ l ρ s, I l ρ s → gd s) (step : ∀ d l ρ s, I (d :: l) ρ s → Run (g d ρ) s fun ρ1 s1 => Run (b ρ1) s1 (turnQ Q (I l)))
    (fin : ∀ ρ s, I [] ρ s → Q (.nx ρ) s) : ∀ (l : List D) (ρ : Env) (s : Store), I l ρ s → Run (gLoop gd g b l ρ) s Q
  | [], ρ, s, h => by
    unfold gLoop Run walkC
    rw [if_pos (hg _ _ _ h)]
    exact fin ρ s h
  | d :: l, ρ, s, h => by
    have h1 := step d l ρ s h
    unfold gLoop
    have e : ∀ (m : Store → Res Fl), Run (walkC gd m) s Q ↔ Run m s Q := fun m => by
      unfold Run walkC; rw [if_pos (hg _ _ _ h)]
    rw [e, run_then]
    refine h1.mono fun ρ1 s1 h2 => ?_
    rw [run_then]
    refine h2.mono fun f s2 h3 => ?_
    cases f with
    | nx ρ2 => exact run_loop I hg step fin l ρ2 s2 h3
    | ct ρ2 => exact run_loop I hg step fin l ρ2 s2 h3
    | bk ρ2 => exact h3
    | rt d => exact h3
@[simp] theorem run_gLc {w : GI} {e : GE} {vs : List Nat} {QA : List D → Store → Prop} {t : GT} : Run (gLc w g t e vs ρ) st QA ↔ Run (w ρ) st fun k s => Run (gComp k.guard g t e (wipeE ρ vs) k.items) s fun ds s => ds.length ≤ SZ ∧ QA ds s := by
  unfold gLc; simp only [run_then, run_small]
/-- a comprehension by its invariant: I of the items done, what is made of them, the store -/
theorem run_comp {gd : Store → Prop} {t : GT} {e : GE} (J : List D → List D → Store → Prop) (hg : ∀ l acc s, J l acc s → gd s)
    (step : ∀ d l acc s, J (d :: l) acc s → Run (g d ρ) s fun ρ1 s1 => Run (t ρ1) s1 fun k s2 => if k = true then Run (e ρ1) s2 fun x s3 => J l (acc ++ [x]) s3 else J l acc s2) :
    ∀ (l : List D) (acc : List D) (s : Store), J l acc s → Run (gComp gd g t e ρ l) s fun ds s' => J [] (acc ++ ds) s'
  | [], acc, s, h => by
    unfold gComp Run walkC
    rw [if_pos (hg _ _ _ h)]
    show J [] (acc ++ []) s
    rw [List.append_nil]; exact h
  | d :: l, acc, s, h => by
    have h1 := step d l acc s h
    unfold gComp
    have ee : ∀ {QQ} (m : Store → Res (List D)), Run (walkC gd m) s QQ ↔ Run m s QQ := fun m => by
      unfold Run walkC; rw [if_pos (hg _ _ _ h)]
    rw [ee, run_then]
    refine h1.mono fun ρ1 s1 h2 => ?_
    rw [run_then]
    refine h2.mono fun k s2 h3 => ?_
    rw [run_ite]
    by_cases c : k = true
    · rw [if_pos c] at h3 ⊢
      rw [run_then]
      refine h3.mono fun x s3 h4 => ?_
      rw [run_then]
      refine (run_comp J hg step l (acc ++ [x]) s3 h4).mono fun ds s5 h5 => ?_
      rw [run_ret]
      rw [List.append_assoc] at h5
      exact h5
    · rw [if_neg c] at h3 ⊢
      exact run_comp J hg step l acc s2 h3
/-- a comprehension over items whose turn asks the store for nothing -/
theorem run_comp_map {gd : Store → Prop} {e : GE} (hd : gd st) (f : D → D) {l : List D} {QA : List D → Store → Prop} {t : GT}
    (step : ∀ d ∈ l, Run (g d ρ) st fun ρ1 s1 => s1 = st ∧ Run (t ρ1) st fun k s2 => k = true ∧ s2 = st ∧ Run (e ρ1) st fun x s3 => x = f d ∧ s3 = st) (q : QA (l.map f) st) : Run (gComp gd g t e ρ l) st QA := by
  refine (run_comp (fun l' acc s => s = st ∧ (∀ d ∈ l', d ∈ l) ∧ acc ++ l'.map f = l.map f) (fun _ _ s h => by rw [h.1]; exact hd) ?_ l [] st ⟨rfl, fun _ h => h, rfl⟩).mono ?_
  · rintro d l' acc s ⟨rfl, hm, ha⟩
    refine (step d (hm d List.mem_cons_self)).mono ?_
    rintro ρ1 s1 ⟨rfl, h⟩
    refine h.mono ?_
    rintro k s2 ⟨rfl, rfl, h⟩
    rw [if_pos rfl]
    refine h.mono ?_
    rintro x s3 ⟨rfl, rfl⟩
    exact ⟨rfl, fun y hy => hm y (List.mem_cons_of_mem _ hy), by rw [← ha]; simp⟩
  · rintro ds s ⟨rfl, _, h⟩
    simp at h
    rw [h]; exact q
end
end DL
/-! Running the further parts of the language of values. -/
namespace DL
open PySem
section
variable {ρ : Env} {st : Store} {Q : D → Store → Prop} {QA : List D → Store → Prop} {QW : Walk → Store → Prop} {a b : GE} {gs : GA}
def enumW : D → Store → (Walk → Store → Prop) → Prop
  | .tup ds, s, Q => Q ⟨enumD ds, fun _ => True⟩ s
  | .rf n, s, Q => ∃ ds, cellItems s n = some ds ∧ Q ⟨enumD ds, fun st' => cellItems st' n = some ds⟩ s
  | _, _, _ => False
@[simp] theorem enumW_tup {ds : List D} {s : Store} : enumW (.tup ds) s QW ↔ QW ⟨enumD ds, fun _ => True⟩ s := Iff.rfl
@[simp] theorem enumW_rf {n : Nat} {s : Store} : enumW (.rf n) s QW ↔ ∃ ds, cellItems s n = some ds ∧ QW ⟨enumD ds, fun st' => cellItems st' n = some ds⟩ s := Iff.rfl
@[simp] theorem run_wEnum : Run (wEnum a ρ) st QW ↔ Run (a ρ) st fun d s => enumW d s QW := by
  unfold wEnum
  rw [run_then]
  refine ⟨fun h => h.mono fun d s k => ?_, fun h => h.mono fun d s k => ?_⟩
  · cases d with
    | tup ds => exact k
    | rf n =>
      simp only [Run] at k
      cases e : cellItems s n with
      | none => rw [e] at k; exact k.elim
      | some ds => rw [e] at k; exact ⟨ds, e, k⟩
    | _ => exact k
  · cases d with
    | tup ds => exact k
    | rf n =>
      obtain ⟨ds, e, k⟩ := k
      simp only [Run]
      rw [e]
      exact k
    | _ => exact k
def zipW : D → D → Store → (Walk → Store → Prop) → Prop
  | .tup xs, .tup ys, s, Q => Q ⟨zipD xs ys, fun _ => True⟩ s
  | .rf n, .rf m, s, Q => ∃ xs ys, cellItems s n = some xs ∧ cellItems s m = some ys ∧ Q ⟨zipD xs ys, fun st' => cellItems st' n = some xs ∧ cellItems st' m = some ys⟩ s
  | _, _, _, _ => False
@[simp] theorem zipW_tup {xs ys : List D} {s : Store} : zipW (.tup xs) (.tup ys) s QW ↔ QW ⟨zipD xs ys, fun _ => True⟩ s := Iff.rfl
@[simp] theorem zipW_rf {n m : Nat} {s : Store} : zipW (.rf n) (.rf m) s QW ↔ ∃ xs ys, cellItems s n = some xs ∧ cellItems s m = some ys ∧ QW ⟨zipD xs ys, fun st' => cellItems st' n = some xs ∧ cellItems st' m = some ys⟩ s := Iff.rfl
theorem run_zip0 {x y : D} {s : Store} : Run ((match x, y with
  | .tup xs, .tup ys => ret ⟨zipD xs ys, fun _ => True⟩
  | .rf n, .rf m => fun st => match cellItems st n, cellItems st m with
    | some xs, some ys => .ok ⟨zipD xs ys, fun st' => cellItems st' n = some xs ∧ cellItems st' m = some ys⟩ st
    | _, _ => .stuck
  | _, _ => bad : M Walk)) s QW ↔ zipW x y s QW := by
  cases x with
  | tup xs => cases y <;> exact Iff.rfl
  | rf n =>
    cases y with
    | rf m =>
      simp only [Run, zipW]
      cases e1 : cellItems s n with
      | none => simp
      | some xs =>
        cases e2 : cellItems s m with
        | none => simp
        | some ys => simp
    | _ => exact Iff.rfl
  | _ => exact Iff.rfl
@[simp] theorem run_wZip : Run (wZip a b ρ) st QW ↔ Run (a ρ) st fun x s => Run (b ρ) s fun y s => zipW x y s QW := by
  unfold wZip
  rw [run_then]
  have : ∀ x s, Run (andThen (b ρ) fun y => (match x, y with
    | .tup xs, .tup ys => ret ⟨zipD xs ys, fun _ => True⟩
    | .rf n, .rf m => fun st => match cellItems st n, cellItems st m with
      | some xs, some ys => .ok ⟨zipD xs ys, fun st' => cellItems st' n = some xs ∧ cellItems st' m = some ys⟩ st
      | _, _ => .stuck
    | _, _ => bad : M Walk)) s QW ↔ Run (b ρ) s fun y s => zipW x y s QW := fun x s => by
    rw [run_then]
    exact ⟨fun h => h.mono fun y s k => run_zip0.mp k, fun h => h.mono fun y s k => run_zip0.mpr k⟩
  exact ⟨fun h => h.mono fun x s k => (this x s).mp k, fun h => h.mono fun x s k => (this x s).mpr k⟩
def seenW : D → Store → (List D → Store → Prop) → Prop
  | .rf n, s, Q => ∃ ds, cellItems s n = some ds ∧ Q ds s
  | .cl ds, s, Q => Q ds s
  | _, _, _ => False
@[simp] theorem seenW_rf {n : Nat} {s : Store} : seenW (.rf n) s QA ↔ ∃ ds, cellItems s n = some ds ∧ QA ds s := Iff.rfl
@[simp] theorem run_gSeen : Run (gSeen a ρ) st QA ↔ Run (a ρ) st fun d s => seenW d s QA := by
  unfold gSeen
  rw [run_then]
  have : ∀ d s, Run (vSeen d) s QA ↔ seenW d s QA := fun d s => by
    cases d with
    | rf n =>
      simp only [Run, vSeen, seenW]
      cases e : cellItems s n with
      | none => simp
      | some ds => simp
    | _ => exact Iff.rfl
  exact ⟨fun h => h.mono fun x s k => (this x s).mp k, fun h => h.mono fun x s k => (this x s).mpr k⟩
@[simp] theorem run_gSortK {k : Int} : Run (gSortK k gs ρ) st QA ↔ Run (gs ρ) st fun ds s => ∃ kz, keysD k ds = some kz ∧ kz.Nodup ∧ QA ((sortZ (kz.zip ds)).map Prod.snd) s := by
  unfold gSortK
  rw [run_then]
  have : ∀ ds s, Run (sortKD k ds) s QA ↔ ∃ kz, keysD k ds = some kz ∧ kz.Nodup ∧ QA ((sortZ (kz.zip ds)).map Prod.snd) s := fun ds s => by
    unfold sortKD
    cases e : keysD k ds with
    | none => simp
    | some kz =>
      by_cases c : kz.Nodup
      · simp [c]
      · simp [c]
  exact ⟨fun h => h.mono fun x s k => (this x s).mp k, fun h => h.mono fun x s k => (this x s).mpr k⟩
def sortW (ds : List D) (s : Store) (Q : List D → Store → Prop) : Prop := match intsD ds with
  | some ns => Q ((sortI ns).map D.int) s
  | none => match tupsD ds with
    | some nss => Q ((sortT nss).map fun ns => D.tup (ns.map D.int)) s
    | none => ∃ kz, keysD 0 ds = some kz ∧ kz.Nodup ∧ Q ((sortZ (kz.zip ds)).map Prod.snd) s
@[simp] theorem run_gSort : Run (gSort gs ρ) st QA ↔ Run (gs ρ) st fun ds s => sortW ds s QA := by
  unfold gSort
  rw [run_then]
  have : ∀ ds s, Run (sortD ds) s QA ↔ sortW ds s QA := fun ds s => by
    unfold sortD sortW
    cases e : intsD ds with
    | some ns => simp
    | none =>
      cases e2 : tupsD ds with
      | none =>
        simp only
        unfold sortKD
        cases e3 : keysD 0 ds with
        | none => simp
        | some kz =>
          by_cases c : kz.Nodup
          · simp [c]
          · simp [c]
      | some nss => simp
  exact ⟨fun h => h.mono fun x s k => (this x s).mp k, fun h => h.mono fun x s k => (this x s).mpr k⟩
@[simp] theorem run_repT {ds : List D} {k : Int} : Run (vRep (.tup ds) (.int k)) st Q ↔ (!ds.isEmpty && decide (1 ≤ k) && decide (k ≤ 1000) && decide (ds.length ≤ 1000)) = true ∧ Q (.tup (List.replicate k.toNat ds).flatten) st := by
  show Run (if _ then _ else _ : M D) st Q ↔ _
  rw [run_ite]
  split
  · rename_i c; simp [c]
  · rename_i c; simp [c]
@[simp] theorem run_repL {n : Nat} {k : Int} : Run (vRep (.rf n) (.int k)) st Q ↔ ∃ ds, cellItems st n = some ds ∧ (decide (0 ≤ k) && decide (k ≤ 1000000) && decide (ds.length * k.toNat ≤ SZ)) = true ∧ Q (.rf st.length) (st ++ [.lst (List.replicate k.toNat ds).flatten]) := by
  simp only [Run, vRep]
  cases e : cellItems st n with
  | none => simp
  | some ds =>
    by_cases c : (decide (0 ≤ k) && decide (k ≤ 1000000) && decide (ds.length * k.toNat ≤ SZ)) = true
    · simp only [c, if_true]
      constructor
      · intro h; exact ⟨ds, rfl, c, h⟩
      · rintro ⟨ds', hd, _, h⟩; cases hd; exact h
    · simp only [c, if_false]
      constructor
      · intro h; exact h.elim
      · rintro ⟨ds', hd, h, _⟩; cases hd; exact absurd h c
@[simp] theorem run_tupRg {k : Int} : Run (vTupRg (.int k)) st Q ↔ (smallI k = true ∧ k ≤ 1000000) ∧ Q (.tup (fromTo 0 k.toNat)) st := by
  show Run (if _ then _ else _ : M D) st Q ↔ _
  rw [run_ite]
  split
  · rename_i c; simp [c]
  · rename_i c
    constructor
    · intro h; exact h.elim
    · rintro ⟨h, _⟩; exact (c h).elim
@[simp] theorem run_maxI {i j : Int} : Run (vMax (.int i) (.int j)) st Q ↔ Q (.int (if j > i then j else i)) st := Iff.rfl
@[simp] theorem run_minI {i j : Int} : Run (vMin (.int i) (.int j)) st Q ↔ Q (.int (if j < i then j else i)) st := Iff.rfl
@[simp] theorem run_divmod {i j : Int} : Run (vDivmod (.int i) (.int j)) st Q ↔ (0 < j ∧ j < 1073741824) ∧ Q (.tup [.int (i / j), .int (i % j)]) st := by
  show Run (if _ then _ else _ : M D) st Q ↔ _
  rw [run_ite]
  split
  · rename_i c; simp [c]
  · rename_i c
    constructor
    · intro h; exact h.elim
    · rintro ⟨h, _⟩; exact (c h).elim
theorem run_isiTL {d : D} : Run (vIsiTL d) st Q ↔ Has st d ∧ Q (.bl (isTL d)) st := by
  cases d with
  | rf n =>
    simp only [Run, vIsiTL, Has]
    cases e : cellItems st n with
    | none => simp
    | some ds => simp [isTL]
  | cl ds =>
    constructor
    · intro h; exact h.elim
    · rintro ⟨h, _⟩; exact h.elim
  | dr ds =>
    constructor
    · intro h; exact h.elim
    · rintro ⟨h, _⟩; exact h.elim
  | ob ds =>
    constructor
    · intro h; exact h.elim
    · rintro ⟨h, _⟩; exact h.elim
  | _ => exact ⟨fun h => ⟨trivial, h⟩, fun h => h.2⟩
end
end DL
/-! The pure proofs' rules for what DL0c and DL0d add. -/
namespace DL
open PySem
section
variable {st : Store} {a b c : GE} {ρ : Env} {Q : D → Store → Prop}
@[simp] theorem run_gOp3 {h : D → D → D → M D} : Run (gOp3 h a b c ρ) st Q ↔ Run (a ρ) st fun x s => Run (b ρ) s fun y s => Run (c ρ) s fun z s => Run (h x y z) s Q := by
  unfold gOp3
  simp only [run_then]
@[simp] theorem run_min3 {i j k : Int} : Run (vMin3 (.int i) (.int j) (.int k)) st Q ↔ Q (.int (min3 i j k)) st := Iff.rfl
theorem run_isi2 {t u : Ty} {d : D} : Run (vIsi2 t u d) st Q ↔ Has st d ∧ Q (.bl (isTy t d || isTy u d)) st := by
  cases d with
  | rf n =>
    unfold Run vIsi2 Has
    simp only
    cases e : cellItems st n <;> simp
  | cl _ => simp [Run, vIsi2, Has, bad]
  | dr _ => simp [Run, vIsi2, Has, bad]
  | ob _ => simp [Run, vIsi2, Has, bad]
  | _ => simp [Run, vIsi2, Has, ret]
theorem run_popAt {n : Nat} {k : Int} : Run (vPopAt (.rf n) (.int k)) st Q ↔ ∃ ds y, st[n]? = some (.lst ds) ∧ (0 ≤ k ∧ k < ds.length ∧ smallI k = true) ∧ ds[k.toNat]? = some y ∧ Q y (st.set n (.lst (ds.eraseIdx k.toNat))) := by
  unfold Run vPopAt
  simp only
  cases e : st[n]? with
  | none => simp
  | some cl =>
    cases cl with
    | dct _ _ => simp
    | oth _ => simp
    | lst ds =>
      simp only
      by_cases c : 0 ≤ k ∧ k < (ds.length : Int) ∧ smallI k = true
      · rw [if_pos c]
        cases e2 : ds[k.toNat]? with
        | none => simp [e2]
        | some y =>
          simp only
          constructor
          · intro h; exact ⟨ds, y, rfl, c, e2, h⟩
          · rintro ⟨ds', y', h1, h2, h3, h4⟩
            cases h1
            rw [e2] at h3
            cases h3
            exact h4
      · rw [if_neg c]
        constructor
        · intro h; exact h.elim
        · rintro ⟨ds', y', h1, h2, _⟩
          cases h1
          exact absurd h2 c
end
end DL
/-! The pure proofs' rules for dicts of the store. -/
namespace DL
open PySem
section
variable {st : Store} {a b c o k : GE} {ρ : Env} {Q : D → Store → Prop} {QA : List D → Store → Prop} {n : Nat} {i : Int}
@[simp] theorem run_gDNew : Run (gDNew ρ) st Q ↔ Q (.dr st.length) (st ++ [.dct false []]) := Iff.rfl
theorem dLook_i : dLook (.dr n) (.int i) st = (cellDict st n).map fun kvs => getD' kvs (.inl i) := by
  unfold dLook
  simp only [kD]
  cases cellDict st n <;> rfl
@[simp] theorem run_ixD : Run (vIxD (.dr n) (.int i)) st Q ↔ ∃ kvs v, cellDict st n = some kvs ∧ getD' kvs (.inl i) = some v ∧ Q v st := by
  unfold Run vIxD
  rw [dLook_i]
  cases e : cellDict st n with
  | none => simp
  | some kvs =>
    cases e2 : getD' kvs (.inl i) with
    | none => simp [e2]
    | some v => simp [e2]
@[simp] theorem runInD : Run (vInD (.int i) (.dr n)) st Q ↔ ∃ kvs, cellDict st n = some kvs ∧ Q (.bl (getD' kvs (.inl i)).isSome) st := by
  unfold Run vInD
  rw [dLook_i]
  cases e : cellDict st n with
  | none => simp
  | some kvs => simp
@[simp] theorem run_notInD : Run (vNotInD (.int i) (.dr n)) st Q ↔ ∃ kvs, cellDict st n = some kvs ∧ Q (.bl (!(getD' kvs (.inl i)).isSome)) st := by
  unfold Run vNotInD
  rw [dLook_i]
  cases e : cellDict st n with
  | none => simp
  | some kvs => simp
@[simp] theorem run_lenD : Run (vLenD (.dr n)) st Q ↔ ∃ kvs, st[n]? = some (.dct false kvs) ∧ Q (.int kvs.length) st := by
  unfold Run vLenD
  simp only
  cases e : st[n]? with
  | none => simp
  | some cl =>
    cases cl with
    | lst _ => simp
    | oth _ => simp
    | dct lk kvs => cases lk <;> simp
@[simp] theorem run_gSetD {QF : Fl → Store → Prop} : Run (gSetD a o k ρ) st QF ↔ Run (a ρ) st fun v s => Run (o ρ) s fun x s => Run (k ρ) s fun y s => Run (vSetD x y v) s fun _ s => QF (.nx ρ) s := by
  unfold gSetD
  simp only [run_then, run_ret]
@[simp] theorem run_setD {v : D} {QU : Unit → Store → Prop} : Run (vSetD (.dr n) (.int i) v) st QU ↔ ∃ kvs, st[n]? = some (.dct false kvs) ∧ kvs.length < SZ ∧ QU () (st.set n (.dct false (putD' kvs (.inl i) v))) := by
  unfold Run vSetD
  simp only [kD]
  cases e : st[n]? with
  | none => simp
  | some cl =>
    cases cl with
    | lst _ => simp
    | oth _ => simp
    | dct lk kvs =>
      cases lk with
      | true => simp
      | false =>
        simp only
        by_cases h : kvs.length < SZ
        · rw [if_pos h]; simp [h]
        · rw [if_neg h]; simp [h]
@[simp] theorem run_isDict {QU : Unit → Store → Prop} : Run (isDict (.dr n)) st QU ↔ ∃ kvs, cellDict st n = some kvs ∧ QU () st := by
  unfold Run isDict
  simp only
  cases e : cellDict st n <;> simp
@[simp] theorem run_popD : Run (vPopD (.dr n) (.int i)) st Q ↔ ∃ kvs v, st[n]? = some (.dct false kvs) ∧ getD' kvs (.inl i) = some v ∧ Q v (st.set n (.dct false (dropD' kvs (.inl i)))) := by
  unfold Run vPopD
  simp only [kD]
  cases e : st[n]? with
  | none => simp
  | some cl =>
    cases cl with
    | lst _ => simp
    | oth _ => simp
    | dct lk kvs =>
      cases lk with
      | true => simp
      | false =>
        simp only
        cases e2 : getD' kvs (.inl i) with
        | none => simp [e2]
        | some v => simp [e2]
@[simp] theorem run_gPopD : Run (gPopD o k ρ) st Q ↔ Run (o ρ) st fun d s => Run (isDict d) s fun _ s => Run (k ρ) s fun y s => Run (vPopD d y) s Q := by
  unfold gPopD
  simp only [run_then]
@[simp] theorem run_gKeys : Run (gKeys o ρ) st QA ↔ Run (o ρ) st fun d s => Run (vKeys d) s QA := by
  unfold gKeys
  simp only [run_then]
@[simp] theorem run_vKeys : Run (vKeys (.dr n)) st QA ↔ ∃ kvs, st[n]? = some (.dct false kvs) ∧ QA (keysOf kvs) st := by
  unfold Run vKeys
  simp only
  cases e : st[n]? with
  | none => simp
  | some cl =>
    cases cl with
    | lst _ => simp
    | oth _ => simp
    | dct lk kvs => cases lk <;> simp
/-- a comprehension over a dict whose turns only make further cells -/
theorem run_lcKr {i : Nat} {g : GG} {t : GT} {e : GE} {vs : List Nat} {kvs : Ents} (h : ρ[i]? = some (some (.dr n))) (hn : st[n]? = some (.dct false kvs))
    (hr : Run (gComp (fun s => s[n]? = some (.dct true kvs)) g t e (wipeE ρ vs) (keysOf kvs)) (st.set n (.dct true kvs)) fun ds s' => ds.length ≤ SZ ∧ ∃ m, s' = st.set n (.dct true kvs) ++ m ∧ QA ds (st ++ m)) : Run (gLcK i g t e vs ρ) st QA := by
  have hl : n < st.length := (List.getElem?_eq_some_iff.mp hn).1
  unfold Run gLcK lockC
  rw [h]
  simp only [hn]
  have key : Run (andThen (gComp (fun s => s[n]? = some (.dct true kvs)) g t e (wipeE ρ vs) (keysOf kvs)) small) (st.set n (.dct true kvs)) fun ds s' => ∃ m, s' = st.set n (.dct true kvs) ++ m ∧ QA ds (st ++ m) := by
    rw [run_then]
    exact hr.mono fun ds s' h => run_small.mpr h
  unfold Run at key
  cases e2 : andThen (gComp (fun s => s[n]? = some (.dct true kvs)) g t e (wipeE ρ vs) (keysOf kvs)) small (st.set n (.dct true kvs)) with
  | ok ds s' =>
    rw [e2] at key
    obtain ⟨m, rfl, q⟩ := key
    have e3 : (st.set n (.dct true kvs) ++ m)[n]? = some (.dct true kvs) := by
      rw [List.getElem?_append_left (by simpa using hl), List.getElem?_set_self hl]
    simp only [e3]
    have e4 : (st.set n (.dct true kvs) ++ m).set n (.dct false kvs) = st ++ m := by
      rw [List.set_append_left _ _ (by simpa using hl), List.set_set]
      congr 1
      refine List.ext_getElem? fun j => ?_
      by_cases hj : j = n
      · subst hj; rw [List.getElem?_set_self hl, hn]
      · rw [List.getElem?_set_ne (Ne.symm hj)]
    rw [e4]
    exact q
  | stuck => rw [e2] at key; exact key.elim
  | exc _ _ _ => rw [e2] at key; exact key.elim
@[simp] theorem run_gListRg : Run (gListRg a b ρ) st QA ↔ Run (a ρ) st fun x s => Run (b ρ) s fun y s => ∃ i j, x = .int i ∧ y = .int j ∧ rgOk i j = true ∧ QA (fromTo i (j - i).toNat) s := by
  unfold gListRg
  simp only [run_then, run_asInt]
  constructor
  · intro h
    refine h.mono fun x s h => h.mono fun y s h => ?_
    obtain ⟨i, hi, j, hj, h⟩ := h
    by_cases c : rgOk i j = true
    · rw [if_pos c] at h; exact ⟨i, j, hi, hj, c, h⟩
    · rw [if_neg c] at h; exact h.elim
  · intro h
    refine h.mono fun x s h => h.mono fun y s h => ?_
    obtain ⟨i, j, hi, hj, c, h⟩ := h
    exact ⟨i, hi, j, hj, by rw [if_pos c]; exact h⟩
end
end DL
namespace DL
open PySem
section
variable {ρ : Env} {st : Store} {r : GGs} {QE : Env → Store → Prop}
@[simp] theorem run_unpackT {n : Nat} {ds : List D} : Run (gUnpackA n r (.tup ds) ρ) st QE ↔ ds.length = n ∧ Run (r ds ρ) st QE := by
  show Run (if ds.length = n then r ds ρ else bad) st QE ↔ _
  rw [run_ite]
  by_cases c : ds.length = n
  · rw [if_pos c]; simp [c]
  · rw [if_neg c]; simp [c]
theorem run_unpackL {n a : Nat} : Run (gUnpackA n r (.rf a) ρ) st QE ↔ ∃ ds, cellItems st a = some ds ∧ ds.length = n ∧ Run (r ds ρ) st QE := by
  unfold Run gUnpackA
  simp only
  cases e : cellItems st a with
  | none => simp
  | some ds =>
    by_cases c : ds.length = n
    · simp [c]
    · simp [c]
end
end DL
namespace DL
open PySem
theorem intsD_ints : ∀ ns : List Int, intsD (ns.map D.int) = some ns
  | [] => rfl
  | n :: ns => by
    show (intsD (ns.map D.int)).map (n :: ·) = _
    rw [intsD_ints ns]; rfl
section
variable {ρ : Env} {st : Store} {QA : List D → Store → Prop} {a : GE}
@[simp] theorem run_gSortTI : Run (gSortTI a ρ) st QA ↔ Run (a ρ) st fun d s => Run (sortTI d) s QA := by
  unfold gSortTI
  rw [run_then]
theorem run_sortTI {ns : List Int} : Run (sortTI (.tup (ns.map D.int))) st QA ↔ QA ((sortI ns).map D.int) st := by
  unfold sortTI
  simp only
  rw [intsD_ints]
  exact Iff.rfl
end
end DL
namespace DL
open PySem
theorem run_lenSet {ns : List Int} {st : Store} {Q : D → Store → Prop} : Run (vLenSet (.tup (ns.map D.int))) st Q ↔ (ns.Nodup ∧ ns.length < 64) ∧ Q (.int ns.length) st := by
  unfold vLenSet
  simp only
  rw [intsD_ints]
  simp only
  rw [run_ite]
  by_cases c : ns.Nodup ∧ ns.length < 64
  · rw [if_pos c]; simp [c]
  · rw [if_neg c, run_bad]
    exact ⟨False.elim, fun h => c h.1⟩
end DL
/-! Running enumerate with a start. -/
namespace DL
open PySem
section
variable {ρ : Env} {st : Store} {QW : Walk → Store → Prop} {a : GE}
def enumFW (k : Int) : D → Store → (Walk → Store → Prop) → Prop
  | .rf n, s, Q => ∃ ds, cellItems s n = some ds ∧ Q ⟨enumFD k ds, fun st' => cellItems st' n = some ds⟩ s
  | _, _, _ => False
@[simp] theorem enumFW_rf {k : Int} {n : Nat} {s : Store} : enumFW k (.rf n) s QW ↔ ∃ ds, cellItems s n = some ds ∧ QW ⟨enumFD k ds, fun st' => cellItems st' n = some ds⟩ s := Iff.rfl
@[simp] theorem run_wEnumF {k : Int} : Run (wEnumF k a ρ) st QW ↔ Run (a ρ) st fun d s => enumFW k d s QW := by
  unfold wEnumF
  rw [run_then]
  refine ⟨fun h => h.mono fun d s k => ?_, fun h => h.mono fun d s k => ?_⟩
  · cases d with
    | rf n =>
      simp only [Run] at k
      cases e : cellItems s n with
      | none => rw [e] at k; exact k.elim
      | some ds => rw [e] at k; exact ⟨ds, e, k⟩
    | _ => exact k
  · cases d with
    | rf n =>
      obtain ⟨ds, e, k⟩ := k
      simp only [Run]
      rw [e]
      exact k
    | _ => exact k
end
section
variable {ρ : Env} {st : Store} {Q : D → Store → Prop} {o k e : GE}
def getW (d y z : D) (s : Store) (Q : D → Store → Prop) : Prop := match dLook d y s with
  | some o => Q (o.getD z) s
  | none => False
@[simp] theorem run_gGet2 : Run (gGet2 o k e ρ) st Q ↔ Run (o ρ) st fun d s => Run (isDict d) s fun _ s => Run (k ρ) s fun y s => Run (e ρ) s fun z s => getW d y z s Q := by
  unfold gGet2
  simp only [run_then]
  constructor
  · intro h
    refine h.mono fun d s h => h.mono fun _ s h => h.mono fun y s h => h.mono fun z s h => ?_
    unfold getW
    cases e : dLook d y s with
    | none => simp only [Run, e] at h
    | some v => simp only [Run, e] at h; exact h
  · intro h
    refine h.mono fun d s h => h.mono fun _ s h => h.mono fun y s h => h.mono fun z s h => ?_
    unfold getW at h
    cases e : dLook d y s with
    | none => rw [e] at h; exact h.elim
    | some v => rw [e] at h; simp only [Run, e]; exact h
@[simp] theorem getW_dr {n : Nat} {i : Int} {z : D} {s : Store} : getW (.dr n) (.int i) z s Q ↔ ∃ kvs, cellDict s n = some kvs ∧ Q ((getD' kvs (.inl i)).getD z) s := by
  unfold getW
  rw [dLook_i]
  cases e : cellDict s n with
  | none => simp
  | some kvs => simp
end
end DL
/-! The pure proofs' rules for texts. -/
namespace DL
open PySem
section
variable {st : Store} {Q : D → Store → Prop} {ρ : Env} {a b : GE} {g : GE} {gs : List GE}
theorem txtsD_map : ∀ ys : List Str, txtsD (ys.map D.str) = some ys
  | [] => rfl
  | y :: ys => by show (txtsD (ys.map D.str)).map (y :: ·) = _; rw [txtsD_map ys]; rfl
theorem run_join {s : Str} {n : Nat} {ys : List Str} (hc : cellItems st n = some (ys.map D.str)) (hj : joinOk s ys = true) (q : Q (.str (Txt.join s ys)) st) : Run (vJoin (.str s) (.rf n)) st Q := by
  unfold Run vJoin
  simp only [hc, Option.bind, txtsD_map, if_pos hj]
  exact q
@[simp] theorem run_split {s t : Str} : Run (vSplit (.str s) (.str t)) st Q ↔ ((t.length == 0) = false ∧ s.length + 2 ≤ SZ) ∧ Q (.rf st.length) (st ++ [.lst ((Txt.split s t).map D.str)]) := by
  show Run (if ((t.length == 0) = false ∧ s.length + 2 ≤ SZ) then newList ((Txt.split s t).map D.str) else bad) st Q ↔ _
  rw [run_ite]
  by_cases h : ((t.length == 0) = false ∧ s.length + 2 ≤ SZ)
  · rw [if_pos h, run_newList]
    exact ⟨fun q => ⟨h, q⟩, fun q => q.2⟩
  · rw [if_neg h, run_bad]
    exact ⟨False.elim, fun q => h q.1⟩
@[simp] theorem run_strI {i : Int} : Run (vStrI (.int i)) st Q ↔ i.natAbs.log2 < 1920 ∧ Q (.str (Str.ofString (toString i))) st := by
  show Run (if i.natAbs.log2 < 1920 then ret (.str (Str.ofString (toString i))) else bad) st Q ↔ _
  rw [run_ite]
  by_cases h : i.natAbs.log2 < 1920
  · rw [if_pos h, run_ret]; exact ⟨fun q => ⟨h, q⟩, fun q => q.2⟩
  · rw [if_neg h, run_bad]; exact ⟨False.elim, fun q => h q.1⟩
theorem run_intS {s : Str} {n : Int} (h : intText? s = some n) (hl : s.length ≤ 640) (q : Q (.int n) st) : Run (vIntS (.str s)) st Q := by
  unfold Run vIntS
  simp only [h, if_pos hl]
  exact q
@[simp] theorem run_inS {c : Nat} {z : Str} : Run (vInS (.str ⟨#[c]⟩) (.str z)) st Q ↔ Q (.bl (decide (c ∈ z.cps.toList))) st := Iff.rfl
@[simp] theorem run_gOrV : Run (gOrV a b ρ) st Q ↔ Run (a ρ) st fun d s => ∃ k, tru d s = some k ∧ if k = true then Q d s else Run (b ρ) s Q := by
  unfold gOrV
  rw [run_then]
  constructor
  · intro h
    refine h.mono fun d s q => ?_
    unfold Run at q
    cases e : tru d s with
    | none => simp only [e] at q
    | some k => cases k <;> simp only [e] at q <;> exact ⟨_, rfl, q⟩
  · intro h
    refine h.mono fun d s q => ?_
    obtain ⟨k, e, q⟩ := q
    unfold Run
    cases k <;> simp only [e] <;> exact q
@[simp] theorem run_fmtS {s : Str} : Run (vFmt (.str s)) st Q ↔ s.length ≤ SZ ∧ Q (.str s) st := by
  show Run (if s.length ≤ SZ then ret (.str s) else bad) st Q ↔ _
  rw [run_ite]
  by_cases h : s.length ≤ SZ
  · rw [if_pos h, run_ret]; exact ⟨fun q => ⟨h, q⟩, fun q => q.2⟩
  · rw [if_neg h, run_bad]; exact ⟨False.elim, fun q => h q.1⟩
@[simp] theorem run_fmtI {i : Int} : Run (vFmt (.int i)) st Q ↔ i.natAbs.log2 < 1920 ∧ Q (.str (Str.ofString (toString i))) st := by
  show Run (if i.natAbs.log2 < 1920 then ret (.str (Str.ofString (toString i))) else bad) st Q ↔ _
  rw [run_ite]
  by_cases h : i.natAbs.log2 < 1920
  · rw [if_pos h, run_ret]; exact ⟨fun q => ⟨h, q⟩, fun q => q.2⟩
  · rw [if_neg h, run_bad]; exact ⟨False.elim, fun q => h q.1⟩
@[simp] theorem run_gJs_nil {acc : Str} : Run (gJs [] acc ρ) st Q ↔ Q (.str acc) st := Iff.rfl
@[simp] theorem run_gJs_cons {acc : Str} : Run (gJs (g :: gs) acc ρ) st Q ↔ Run (g ρ) st fun d s => ∃ y, d = .str y ∧ (acc ++ y).length ≤ SZ ∧ Run (gJs gs (acc ++ y) ρ) s Q := by
  show Run (andThen (g ρ) _) st Q ↔ _
  rw [run_then]
  constructor
  · intro h
    refine h.mono fun d s q => ?_
    cases d with
    | str y =>
      simp only [run_ite, run_bad] at q
      by_cases c : (acc ++ y).length ≤ SZ
      · rw [if_pos c] at q; exact ⟨y, rfl, c, q⟩
      · rw [if_neg c] at q; exact q.elim
    | _ => exact q.elim
  · intro h
    refine h.mono fun d s q => ?_
    obtain ⟨y, rfl, c, q⟩ := q
    simp only [run_ite]
    rw [if_pos c]; exact q
@[simp] theorem run_gJoined : Run (gJoined gs ρ) st Q ↔ Run (gJs gs Str.empty ρ) st Q := Iff.rfl
def seqSW : D → Store → (Walk → Store → Prop) → Prop
  | .str x, s, Q => Q ⟨charsD x, fun _ => True⟩ s
  | .tup ds, s, Q => Q ⟨ds, fun _ => True⟩ s
  | .rf n, s, Q => ∃ ds, cellItems s n = some ds ∧ Q ⟨ds, fun st' => cellItems st' n = some ds⟩ s
  | _, _, _ => False
variable {QW : Walk → Store → Prop}
@[simp] theorem run_wSeqS : Run (wSeqS a ρ) st QW ↔ Run (a ρ) st fun d s => seqSW d s QW := by
  unfold wSeqS
  rw [run_then]
  have key : ∀ (d : D) (s : Store), Run ((match d with
    | .str x => ret ⟨charsD x, fun _ => True⟩
    | .tup ds => ret ⟨ds, fun _ => True⟩
    | .rf n => fun st => match cellItems st n with
      | some ds => .ok ⟨ds, fun st' => cellItems st' n = some ds⟩ st
      | none => .stuck
    | _ => bad : M Walk)) s QW ↔ seqSW d s QW := by
    intro d s
    cases d with
    | rf n =>
      unfold Run seqSW
      simp only
      cases e : cellItems s n <;> simp
    | _ => exact Iff.rfl
  exact ⟨fun h => h.mono fun d s q => (key d s).mp q, fun h => h.mono fun d s q => (key d s).mpr q⟩
end
end DL
/-! Running what may raise. -/
namespace DL
open PySem
abbrev EX := Str → D → Store → Prop
def RunX {α : Type} (m : M α) (st : Store) (Q : α → Store → Prop) (E : EX) : Prop := match m st with
  | .ok a s => Q a s
  | .exc c a s => E c a s
  | .stuck => False
section
variable {α β : Type} {m : M α} {f : α → M β} {st : Store} {Q : α → Store → Prop} {R : β → Store → Prop} {E : EX}
theorem RunX.mono {P : α → Store → Prop} {F : EX} (h : RunX m st P F) (k : ∀ a s, P a s → Q a s) (l : ∀ c a s, F c a s → E c a s) : RunX m st Q E := by
  unfold RunX at h ⊢
  cases e : m st with
  | ok a s => rw [e] at h; exact k a s h
  | stuck => rw [e] at h; exact h
  | exc c a s => rw [e] at h; exact l c a s h
theorem RunX.same {P : α → Store → Prop} (h : RunX m st P E) (k : ∀ a s, P a s → Q a s) : RunX m st Q E := h.mono k fun _ _ _ h => h
theorem runX_of (h : Run m st Q) : RunX m st Q E := by
  unfold Run at h
  unfold RunX
  cases e : m st with
  | ok a s => rw [e] at h; exact h
  | stuck => rw [e] at h; exact h
  | exc _ _ _ => rw [e] at h; exact h.elim
theorem run_iffX : Run m st Q ↔ RunX m st Q (fun _ _ _ => False) := by
  unfold Run RunX
  cases m st <;> exact Iff.rfl
theorem runX_cong {P : α → Store → Prop} (h : ∀ a s, P a s ↔ Q a s) : RunX m st P E ↔ RunX m st Q E := ⟨fun x => x.same fun a s => (h a s).mp, fun x => x.same fun a s => (h a s).mpr⟩
@[simp] theorem runX_ret {a : α} : RunX (ret a) st Q E ↔ Q a st := Iff.rfl
@[simp] theorem runX_bad : RunX (bad : M α) st Q E ↔ False := Iff.rfl
@[simp] theorem runX_then : RunX (andThen m f) st R E ↔ RunX m st (fun a s => RunX (f a) s R E) E := by
  unfold RunX andThen
  cases m st <;> exact Iff.rfl
@[simp] theorem runX_ite {c : Prop} [Decidable c] {a b : M α} : RunX (if c then a else b) st Q E ↔ if c then RunX a st Q E else RunX b st Q E := by
  by_cases h : c
  · rw [if_pos h, if_pos h]
  · rw [if_neg h, if_neg h]
@[simp] theorem runX_xP : RunX (xP m) st Q E ↔ Run m st Q := by
  unfold RunX xP Run
  cases m st <;> exact Iff.rfl
@[simp] theorem run_xP : Run (xP m) st Q ↔ Run m st Q := by
  unfold xP Run
  simp only
  cases m st <;> exact Iff.rfl
@[simp] theorem runX_xE {g : Env → M α} {ρ : Env} : RunX (xE g ρ) st Q E ↔ Run (g ρ) st Q := runX_xP
@[simp] theorem run_xE {g : Env → M α} {ρ : Env} : Run (xE g ρ) st Q ↔ Run (g ρ) st Q := run_xP
end
section
variable {ρ : Env} {st : Store} {Q : Fl → Store → Prop} {QD : D → Store → Prop} {QA : List D → Store → Prop} {QB : Bool → Store → Prop} {E : EX} {a b : GE} {t u : GT} {p q : GS} {g : GG} {gs : GA} {f : GF}
@[simp] theorem runX_xO {h : O2} {x y : D} : RunX (xO h x y) st QD E ↔ Run (h x y) st QD := runX_xP
@[simp] theorem run_xO {h : O2} {x y : D} : Run (xO h x y) st QD ↔ Run (h x y) st QD := run_xP
@[simp] theorem runX_xF {ds : List D} : RunX (xF f ds) st QD E ↔ Run (f ds) st QD := runX_xP
@[simp] theorem run_xF {ds : List D} : Run (xF f ds) st QD ↔ Run (f ds) st QD := run_xP
@[simp] theorem runX_xG {d : D} {QE : Env → Store → Prop} : RunX (xG g d ρ) st QE E ↔ Run (g d ρ) st QE := runX_xP
@[simp] theorem run_xG {d : D} {QE : Env → Store → Prop} : Run (xG g d ρ) st QE ↔ Run (g d ρ) st QE := run_xP
def flX (Q : Fl → Store → Prop) (E : EX) (q : GS) : Fl → Store → Prop
  | .nx ρ', s => RunX (q ρ') s Q E
  | f, s => Q f s
@[simp] theorem runX_gSeq : RunX (gSeq p q ρ) st Q E ↔ RunX (p ρ) st (flX Q E q) E := by
  unfold gSeq; rw [runX_then]
  constructor
  · intro h; refine h.same fun f s x => ?_; cases f <;> exact x
  · intro h; refine h.same fun f s x => ?_; cases f <;> exact x
@[simp] theorem flX_nx {ρ' : Env} {s : Store} : flX Q E q (.nx ρ') s ↔ RunX (q ρ') s Q E := Iff.rfl
@[simp] theorem flX_rt {d : D} {s : Store} : flX Q E q (.rt d) s ↔ Q (.rt d) s := Iff.rfl
@[simp] theorem flX_bk {ρ' : Env} {s : Store} : flX Q E q (.bk ρ') s ↔ Q (.bk ρ') s := Iff.rfl
@[simp] theorem flX_ct {ρ' : Env} {s : Store} : flX Q E q (.ct ρ') s ↔ Q (.ct ρ') s := Iff.rfl
@[simp] theorem runX_gNext : RunX (gNext ρ) st Q E ↔ Q (.nx ρ) st := Iff.rfl
@[simp] theorem runX_gDrop : RunX (gDrop a ρ) st Q E ↔ RunX (a ρ) st (fun _ s => Q (.nx ρ) s) E := by
  unfold gDrop; simp only [runX_then, runX_ret]
@[simp] theorem runX_gRet : RunX (gRet a ρ) st Q E ↔ RunX (a ρ) st (fun d s => Q (.rt d) s) E := by
  unfold gRet; simp only [runX_then, runX_ret]
@[simp] theorem runX_gIfS : RunX (gIfS t p q ρ) st Q E ↔ RunX (t ρ) st (fun k s => if k = true then RunX (p ρ) s Q E else RunX (q ρ) s Q E) E := by
  unfold gIfS; simp only [runX_then, runX_ite]
@[simp] theorem runX_gAsg : RunX (gAsg a (xG g) ρ) st Q E ↔ RunX (a ρ) st (fun d s => Run (g d ρ) s fun ρ' s => Q (.nx ρ') s) E := by
  unfold gAsg; simp only [runX_then, runX_ret, runX_xG]
@[simp] theorem runX_gRaise {c : Str} : RunX (gRaise c ρ) st Q E ↔ E c .non st := Iff.rfl
@[simp] theorem runX_gRaiseF {c f : Str} : RunX (gRaiseF c f a ρ) st Q E ↔ Run (a ρ) st fun v s => E c (.tup [.str f, v]) s := by
  unfold gRaiseF
  rw [runX_then, runX_xP]
  exact Iff.rfl
@[simp] theorem runX_gCall : RunX (gCall f gs ρ) st QD E ↔ RunX (gs ρ) st (fun ds s => RunX (f ds) s QD E) E := by
  unfold gCall; rw [runX_then]
@[simp] theorem runX_gNil : RunX (gNil ρ) st QA E ↔ QA [] st := Iff.rfl
@[simp] theorem runX_gCons : RunX (gCons a gs ρ) st QA E ↔ RunX (a ρ) st (fun x s => RunX (gs ρ) s (fun xs s => QA (x :: xs) s) E) E := by
  unfold gCons; simp only [runX_then, runX_ret]
@[simp] theorem runX_gOp {h : O2} : RunX (gOp (xO h) a b ρ) st QD E ↔ RunX (a ρ) st (fun x s => RunX (b ρ) s (fun y s => Run (h x y) s QD) E) E := by
  unfold gOp; simp only [runX_then, runX_xO]
@[simp] theorem runX_tB : RunX (tB a ρ) st QB E ↔ RunX (a ρ) st (fun d s => ∃ k, d = .bl k ∧ QB k s) E := by
  unfold tB
  rw [runX_then]
  refine runX_cong fun d s => ?_
  cases d with
  | bl k => exact ⟨fun h => ⟨k, rfl, h⟩, fun ⟨k', e, h⟩ => by cases e; exact h⟩
  | _ => exact ⟨fun h => h.elim, fun ⟨k', e, h⟩ => by cases e⟩
@[simp] theorem runX_tNot : RunX (tNot t ρ) st QB E ↔ RunX (t ρ) st (fun k s => QB (!k) s) E := by
  unfold tNot; simp only [runX_then, runX_ret]
@[simp] theorem runX_tOr : RunX (tOr t u ρ) st QB E ↔ RunX (t ρ) st (fun k s => if k = true then QB true s else RunX (u ρ) s QB E) E := by
  unfold tOr; simp only [runX_then, runX_ite, runX_ret]
@[simp] theorem runX_tAnd : RunX (tAnd t u ρ) st QB E ↔ RunX (t ρ) st (fun k s => if k = true then RunX (u ρ) s QB E else QB false s) E := by
  unfold tAnd; simp only [runX_then, runX_ite, runX_ret]
theorem runX_gFn {np n : Nat} {b : GS} {ds : List D} (h : ds.length = np) : RunX (gFn np n b ds) st QD E ↔ RunX (b (startE n ds)) st (fnQ QD) E := by
  unfold gFn
  rw [if_pos h, runX_then]
  constructor
  · intro x; refine x.same fun f s y => ?_; cases f <;> exact y
  · intro x; refine x.same fun f s y => ?_; cases f <;> exact y
/-- behind a suite -/
def goneQ (i : Nat) (Q : Fl → Store → Prop) : Fl → Store → Prop
  | .nx ρ, s => Q (.nx (ρ.set i none)) s
  | .bk ρ, s => Q (.bk (ρ.set i none)) s
  | .ct ρ, s => Q (.ct (ρ.set i none)) s
  | .rt d, s => Q (.rt d) s
@[simp] theorem goneQ_nx {i : Nat} {s : Store} : goneQ i Q (.nx ρ) s ↔ Q (.nx (ρ.set i none)) s := Iff.rfl
@[simp] theorem goneQ_rt {i : Nat} {d : D} {s : Store} : goneQ i Q (.rt d) s ↔ Q (.rt d) s := Iff.rfl
@[simp] theorem goneQ_bk {i : Nat} {s : Store} : goneQ i Q (.bk ρ) s ↔ Q (.bk (ρ.set i none)) s := Iff.rfl
@[simp] theorem goneQ_ct {i : Nat} {s : Store} : goneQ i Q (.ct ρ) s ↔ Q (.ct (ρ.set i none)) s := Iff.rfl
/-- what a clause wants of an exception -/
def tryQ (ts : List (Str × Bool)) (Y : EX) (E : EX) : EX := fun c a s => match ts.lookup c with
  | some true => Y c a s
  | some false => E c a s
  | none => False
theorem tryQ_true {ts : List (Str × Bool)} {Y E : EX} {c : Str} {a : D} {s : Store} (h : ts.lookup c = some true) : tryQ ts Y E c a s ↔ Y c a s := by
  unfold tryQ; rw [h]
theorem tryQ_false {ts : List (Str × Bool)} {Y E : EX} {c : Str} {a : D} {s : Store} (h : ts.lookup c = some false) : tryQ ts Y E c a s ↔ E c a s := by
  unfold tryQ; rw [h]
theorem runX_gTry {ts : List (Str × Bool)} {i : Nat} : RunX (gTry ts i p q ρ) st Q E ↔ RunX (p ρ) st Q (tryQ ts (fun c a s => Run (q (ρ.set i (some (.ob s.length)))) (s ++ [.oth (.exn c (fsOf a))]) (goneQ i Q)) E) := by
  unfold RunX gTry tryQ
  cases p ρ st with
  | ok f s => exact Iff.rfl
  | stuck => exact Iff.rfl
  | exc c a s =>
    simp only
    cases ts.lookup c with
    | none => exact Iff.rfl
    | some b =>
      cases b with
      | false => exact Iff.rfl
      | true =>
        simp only
        have k : RunX (andThen (xP (q (ρ.set i (some (.ob s.length))))) (goneS i)) (s ++ [.oth (.exn c (fsOf a))]) Q E ↔ Run (q (ρ.set i (some (.ob s.length)))) (s ++ [.oth (.exn c (fsOf a))]) (goneQ i Q) := by
          rw [runX_then, runX_xP]
          constructor
          · intro h; refine h.mono fun f s x => ?_; cases f <;> exact x
          · intro h; refine h.mono fun f s x => ?_; cases f <;> exact x
        exact k
theorem run_gTry {ts : List (Str × Bool)} {i : Nat} : Run (gTry ts i p q ρ) st Q ↔ RunX (p ρ) st Q (tryQ ts (fun c a s => Run (q (ρ.set i (some (.ob s.length)))) (s ++ [.oth (.exn c (fsOf a))]) (goneQ i Q)) fun _ _ _ => False) := by
  rw [run_iffX, runX_gTry]
theorem runX_gTry0 {ts : List (Str × Bool)} : RunX (gTry0 ts p q ρ) st Q E ↔ RunX (p ρ) st Q (tryQ ts (fun c a s => Run (q ρ) s Q) E) := by
  unfold RunX gTry0 tryQ
  cases p ρ st with
  | ok f s => exact Iff.rfl
  | stuck => exact Iff.rfl
  | exc c a s =>
    simp only
    cases ts.lookup c with
    | none => exact Iff.rfl
    | some b =>
      cases b with
      | false => exact Iff.rfl
      | true => exact runX_xP
theorem run_gTry0 {ts : List (Str × Bool)} : Run (gTry0 ts p q ρ) st Q ↔ RunX (p ρ) st Q (tryQ ts (fun c a s => Run (q ρ) s Q) fun _ _ _ => False) := by
  rw [run_iffX, runX_gTry0]
@[simp] theorem run_isX {l : List (Str × Bool)} {n : Nat} : Run (vIsX l (.ob n)) st QD ↔ ∃ c fs b, st[n]? = some (.oth (.exn c fs)) ∧ l.lookup c = some b ∧ QD (.bl b) st := by
  unfold Run vIsX
  simp only
  cases e : st[n]? with
  | none => simp
  | some cl =>
    cases cl with
    | lst _ => simp
    | dct _ _ => simp
    | oth o =>
      cases o with
      | ins _ _ => simp
      | exn c fs =>
        simp only
        cases e2 : l.lookup c with
        | none => simp [e2]
        | some b => simp [e2, -Bool.exists_bool]
@[simp] theorem run_fldX {cs : List Str} {f : Str} {n : Nat} : Run (vFldX cs f (.ob n)) st QD ↔ ∃ c fs d, st[n]? = some (.oth (.exn c fs)) ∧ c ∈ cs ∧ fs.lookup f = some d ∧ QD d st := by
  unfold Run vFldX
  simp only
  cases e : st[n]? with
  | none => simp
  | some cl =>
    cases cl with
    | lst _ => simp
    | dct _ _ => simp
    | oth o =>
      cases o with
      | ins _ _ => simp
      | exn c fs =>
        simp only
        by_cases h : c ∈ cs
        · rw [if_pos h]
          cases e2 : fs.lookup f with
          | none => simp [e2, h]
          | some b =>
            constructor
            · intro q; exact ⟨c, fs, b, rfl, h, e2, q⟩
            · rintro ⟨c', fs', d, g1, g2, g3, q⟩
              injection g1 with g1
              injection g1 with g1
              injection g1 with g4 g5
              subst g4 g5
              rw [e2] at g3
              injection g3 with g3
              subst g3
              exact q
        · rw [if_neg h]
          simp [h]
@[simp] theorem run_addLs {n m : Nat} : Run (vAdd (.rf n) (.rf m)) st QD ↔ ∃ a b, st[n]? = some (.lst a) ∧ st[m]? = some (.lst b) ∧ a.length + b.length ≤ SZ ∧ QD (.rf st.length) (st ++ [.lst (a ++ b)]) := by
  unfold Run vAdd
  simp only
  cases e1 : st[n]? with
  | none => simp
  | some c1 =>
    cases e2 : st[m]? with
    | none => cases c1 <;> simp
    | some c2 =>
      cases c1 with
      | dct _ _ => simp
      | oth _ => simp
      | lst a =>
        cases c2 with
        | dct _ _ => simp
        | oth _ => simp
        | lst b =>
          by_cases h : a.length + b.length ≤ SZ
          · simp [h, newList]
          · simp [h]
/-- a for whose body may raise, by its invariant -/
theorem runX_gFor {w : GI} {b : GS} : RunX (gFor (xE w) (xG g) b ρ) st Q E ↔ Run (w ρ) st fun k s => RunX (gLoop k.guard (xG g) b k.items ρ) s Q E := by
  unfold gFor; rw [runX_then, runX_xE]
theorem runX_loop {gd : Store → Prop} {b : GS} (I : List D → Env → Store → Prop) (hg : ∀ l ρ s, I l ρ s → gd s) (step : ∀ d l ρ s, I (d :: l) ρ s → Run (g d ρ) s fun ρ1 s1 => RunX (b ρ1) s1 (turnQ Q (I l)) E)
    (fin : ∀ ρ s, I [] ρ s → Q (.nx ρ) s) : ∀ (l : List D) (ρ : Env) (s : Store), I l ρ s → RunX (gLoop gd (xG g) b l ρ) s Q E
  | [], ρ, s, h => by
    unfold gLoop RunX walkC
    rw [if_pos (hg _ _ _ h)]
    exact fin ρ s h
  | d :: l, ρ, s, h => by
    have h1 := step d l ρ s h
    unfold gLoop
    have e : ∀ (m : Store → Res Fl), RunX (walkC gd m) s Q E ↔ RunX m s Q E := fun m => by
      unfold RunX walkC; rw [if_pos (hg _ _ _ h)]
    rw [e, runX_then, runX_xG]
    refine h1.mono fun ρ1 s1 h2 => ?_
    rw [runX_then]
    refine h2.same fun f s2 h3 => ?_
    cases f with
    | nx ρ2 => exact runX_loop I hg step fin l ρ2 s2 h3
    | ct ρ2 => exact runX_loop I hg step fin l ρ2 s2 h3
    | bk ρ2 => exact h3
    | rt d => exact h3
end
end DL
namespace DL
open PySem
section
variable {ρ : Env} {st : Store} {Q : D → Store → Prop} {n : Nat}
@[simp] theorem run_gSum {a : GA} : Run (gSum a ρ) st Q ↔ Run (a ρ) st fun ds s => ∃ ns, intsD ds = some ns ∧ Q (.int ns.sum) s := by
  unfold gSum
  rw [run_then]
  have k : ∀ (ds : List D) (s : Store), Run (match intsD ds with | some ns => ret (.int ns.sum) | none => (bad : M D)) s Q ↔ ∃ ns, intsD ds = some ns ∧ Q (.int ns.sum) s := fun ds s => by
    cases intsD ds <;> simp
  exact ⟨fun h => h.mono fun ds s => (k ds s).mp, fun h => h.mono fun ds s => (k ds s).mpr⟩
@[simp] theorem run_pop0 : Run (vPop (.rf n)) st Q ↔ ∃ ds y, st[n]? = some (.lst ds) ∧ ds[ds.length - 1]? = some y ∧ Q y (st.set n (.lst ds.dropLast)) := by
  unfold Run vPop
  simp only
  cases e : st[n]? with
  | none => simp
  | some c =>
    cases c with
    | lst ds =>
      simp only
      cases e2 : ds[ds.length - 1]? with
      | none =>
        constructor
        · intro h; exact h.elim
        · rintro ⟨ds', y, g1, g2, _⟩
          injection g1 with g1
          injection g1 with g1
          subst g1
          rw [e2] at g2
          cases g2
      | some y =>
        constructor
        · intro h; exact ⟨ds, y, rfl, e2, h⟩
        · rintro ⟨ds', y', g1, g2, h⟩
          injection g1 with g1
          injection g1 with g1
          subst g1
          rw [e2] at g2
          cases g2
          exact h
    | dct _ _ => simp
    | oth _ => simp
@[simp] theorem run_gExt {o : GE} {a : GA} : Run (gExt o a ρ) st Q ↔ Run (o ρ) st fun x s => Run (a ρ) s fun es s => Run (vExt x es) s Q := by
  unfold gExt; simp only [run_then]
@[simp] theorem run_ext {es : List D} : Run (vExt (.rf n) es) st Q ↔ ∃ ds, st[n]? = some (.lst ds) ∧ ds.length + es.length ≤ SZ ∧ Q .non (st.set n (.lst (ds ++ es))) := by
  unfold Run vExt
  simp only
  cases e : st[n]? with
  | none => simp
  | some c =>
    cases c with
    | lst ds => by_cases h : ds.length + es.length ≤ SZ <;> simp [h]
    | dct _ _ => simp
    | oth _ => simp
@[simp] theorem run_pow {a b : Int} : Run (vPow (.int a) (.int b)) st Q ↔ (0 ≤ b ∧ b ≤ 1000000 ∧ a.natAbs < 2 ^ 64) ∧ Q (.int (a ^ b.toNat)) st := by
  show Run (if 0 ≤ b ∧ b ≤ 1000000 ∧ a.natAbs < 2 ^ 64 then ret (.int (a ^ b.toNat)) else bad) st Q ↔ _
  rw [run_ite]
  by_cases h : 0 ≤ b ∧ b ≤ 1000000 ∧ a.natAbs < 2 ^ 64
  · rw [if_pos h]; simp [h]
  · rw [if_neg h]; simp [h]
@[simp] theorem run_rev : Run (vRev (.rf n)) st Q ↔ ∃ ds, cellItems st n = some ds ∧ Q (.rf st.length) (st ++ [.lst ds.reverse]) := by
  unfold Run vRev
  simp only
  cases e : cellItems st n <;> simp [newList]
@[simp] theorem run_cntB {b : Bool} : Run (vCntB (.rf n) (.bl b)) st Q ↔ ∃ ds bs, cellItems st n = some ds ∧ bools ds = some bs ∧ Q (.int (bs.count b : Nat)) st := by
  unfold Run vCntB
  simp only
  cases e : cellItems st n with
  | none => simp
  | some ds =>
    simp only [Option.bind_some]
    cases e2 : bools ds <;> simp [e2]
@[simp] theorem run_wRange2B {a b : GE} {QW : Walk → Store → Prop} : Run (wRange2B a b ρ) st QW ↔ Run (a ρ) st fun x s => Run (b ρ) s fun y s => ∃ i j, x = .int i ∧ y = .int j ∧ QW ⟨fromTo i (j - i).toNat, fun _ => True⟩ s := by
  unfold wRange2B
  simp only [run_then, run_asInt]
  constructor
  · intro h
    refine h.mono fun x s h => h.mono fun y s h => ?_
    obtain ⟨i, hi, j, hj, h⟩ := h
    exact ⟨i, j, hi, hj, h⟩
  · intro h
    refine h.mono fun x s h => h.mono fun y s h => ?_
    obtain ⟨i, j, hi, hj, h⟩ := h
    exact ⟨i, hi, j, hj, h⟩
theorem run_idxB {n : Nat} {b : Bool} {bs : List Bool} {ds : List D} {i : Nat} {Q : D → Store → Prop} (h : cellItems st n = some ds) (h1 : bools ds = some bs) (h2 : idxBn b bs 0 = some i) (q : Q (.int (i : Nat)) st) : Run (vIdxB (.rf n) (.bl b)) st Q := by
  unfold Run vIdxB
  simp only [h, Option.bind_some, h1, h2]
  exact q
end
end DL
namespace DL
open PySem
section
variable {st : Store} {Q : D → Store → Prop}
@[simp] theorem run_isXN_non {l : List (Str × Bool)} : Run (vIsXN l .non) st Q ↔ Q (.bl false) st := by
  show Run (ret (D.bl false)) st Q ↔ _
  simp
@[simp] theorem run_isXN_ob {l : List (Str × Bool)} {n : Nat} : Run (vIsXN l (.ob n)) st Q ↔ Run (vIsX l (.ob n)) st Q := Iff.rfl
end
end DL
namespace DL
open PySem
section
variable {st : Store} {Q : D → Store → Prop}
@[simp] theorem run_lenC {ds : List D} : Run (vLenC (.cl ds)) st Q ↔ Q (.int ds.length) st := by
  show Run (ret (D.int ds.length)) st Q ↔ _
  simp
theorem run_ixC {ds : List D} {i : Int} {d : D} (h : atD ds i = some d) : Run (vIxC (.cl ds) (.int i)) st Q ↔ Q d st := by
  unfold vIxC
  simp only [h]
  simp
end
end DL
namespace DL
open PySem
def lt_BadProgram : List (Str × Bool) := [("BadProgram", true), ("BadRule", false), ("BadSpot", false)]
def lt_BadQuestion : List (Str × Bool) := [("BadProgram", false), ("BadRule", false), ("BadSpot", false)]
def lt_BadRule : List (Str × Bool) := [("BadProgram", false), ("BadRule", true), ("BadSpot", false)]
def lt_BadSpot : List (Str × Bool) := [("BadProgram", false), ("BadRule", false), ("BadSpot", true)]
def lt_BadStep : List (Str × Bool) := [("BadProgram", false), ("BadRule", false), ("BadSpot", false)]
def lt_NotEnough : List (Str × Bool) := [("BadProgram", false), ("BadRule", false), ("BadSpot", false)]
def lt_TooMany : List (Str × Bool) := [("BadProgram", false), ("BadRule", false), ("BadSpot", false)]
def lt_ValueError : List (Str × Bool) := [("BadProgram", true), ("BadRule", true), ("BadSpot", true)]
def lts_0 : List (Str × Bool) := [("BadProgram", false), ("BadRule", false), ("BadSpot", false)]
def lts_1 : List (Str × Bool) := [("BadProgram", false), ("BadRule", false), ("BadSpot", false)]
def lm_GatherError : List (Str × Bool) := [("BadProgram", true), ("BadRule", true), ("BadSpot", true)]
noncomputable def r__law_pool_1 : GS := (gSeq (gIfS (tB (gOp vGe (gVar 2) (gC (.int 1000000000000000000)))) (gRet (gNew (gLst (gCons (gOp vSub (gVar 2) (gC (.int 1000000000000000000))) (gCons (gC (.int 1)) (gCons (gC (.int 0)) (gCons (gVar 1) gNil))))))) gNext) (gRet (gNew (gLst (gCons (gVar 2) (gCons (gC (.int 0)) (gCons (gC (.int 0)) (gCons (gVar 1) gNil))))))))
noncomputable def r__law_pool_2 : GS := (gSeq (gIfS (tB (gOp vLt (gVar 1) (gUn vLenC (gVar 0)))) (gAsg (gUn vInt (gOp vIxC (gVar 0) (gVar 1))) (gName 2)) gNext) r__law_pool_1)
noncomputable def r__law_pool_3 : GS := (gSeq (gAsg (gC (.int 0)) (gName 2)) r__law_pool_2)
noncomputable def b__law_pool : GS :=
    r__law_pool_3
noncomputable def g__law_pool : GF := gFn 2 3 b__law_pool
noncomputable def r__law_draw_1 : GS := (gSeq (gSet (gOp vDiv (gOp vIx (gVar 0) (gC (.int 0))) (gVar 1)) (gVar 0) (gC (.int 0))) (gRet (gVar 2)))
noncomputable def r__law_draw_2 : GS := (gSeq (gAsg (gOp vMod (gUn vInt (gOp vIx (gVar 0) (gC (.int 0)))) (gVar 1)) (gName 2)) r__law_draw_1)
noncomputable def r__law_draw_3 : GS := (gSeq (gAsg (gOp vMod (gUn vInt (gOp vMul (gVar 3) (gOp vAdd (gVar 3) (gC (.int 8121))))) (gC (.int 1999999973))) (gName 3)) (gRet (gOp vMod (gUn vInt (gOp vDiv (gVar 3) (gC (.int 97)))) (gVar 1))))
noncomputable def r__law_draw_4 : GS := (gSeq (gAsg (gOp vMod (gUn vInt (gOp vAdd (gOp vMul (gVar 3) (gVar 3)) (gOp vMul (gC (.int 977)) (gVar 4)))) (gC (.int 2147483587))) (gName 3)) r__law_draw_3)
noncomputable def r__law_draw_5 : GS := (gSeq (gAsg (gOp vMod (gUn vInt (gOp vAdd (gOp vMul (gOp vMul (gVar 3) (gOp vAdd (gOp vMul (gC (.int 2)) (gVar 4)) (gC (.int 1)))) (gC (.int 69069))) (gOp vMul (gOp vMul (gVar 4) (gVar 4)) (gC (.int 40503))))) (gC (.int 2147483629))) (gName 3)) r__law_draw_4)
noncomputable def r__law_draw_6 : GS := (gSeq (gAsg (gOp vIx (gVar 0) (gC (.int 2))) (gName 4)) r__law_draw_5)
noncomputable def r__law_draw_7 : GS := (gSeq (gAsg (gOp vAdd (gOp vMod (gUn vInt (gOp vAdd (gOp vAdd (gOp vMul (gOp vIx (gVar 0) (gC (.int 0))) (gC (.int 7))) (gOp vIx (gVar 0) (gC (.int 3)))) (gC (.int 1)))) (gC (.int 1000000007))) (gC (.int 3))) (gName 3)) r__law_draw_6)
noncomputable def r__law_draw_8 : GS := (gSeq (gSet (gOp vAdd (gOp vIx (gVar 0) (gC (.int 2))) (gC (.int 1))) (gVar 0) (gC (.int 2))) r__law_draw_7)
noncomputable def r__law_draw_9 : GS := (gSeq (gIfS (tB (gOp vEq (gOp vIx (gVar 0) (gC (.int 1))) (gC (.int 1)))) r__law_draw_2 gNext) r__law_draw_8)
noncomputable def b__law_draw : GS :=
    r__law_draw_9
noncomputable def g__law_draw : GF := gFn 2 5 b__law_draw
noncomputable def b__law_part : GS :=
    (gRet (gTupOf (gLc (wRange (gVar 1)) (gName 2) (tB (gOp vEq (gOp vMod (gUn vInt (gOp vDiv (gVar 0) (gIxL (gLst (gCons (gC (.int 1)) (gCons (gC (.int 2)) (gCons (gC (.int 4)) (gCons (gC (.int 8)) (gCons (gC (.int 16)) (gCons (gC (.int 32)) (gCons (gC (.int 64)) (gCons (gC (.int 128)) gNil))))))))) (gVar 2)))) (gC (.int 2))) (gC (.int 1)))) (gVar 2) [2])))
noncomputable def g__law_part : GF := gFn 2 3 b__law_part
noncomputable def r__law_rule_1 : GS := (gSeq (gAsg (gNew (gLc (wRange (gCall g__law_draw (gCons (gVar 0) (gCons (gC (.int 3)) gNil)))) (gName 9) tYes (gCall g__law_draw (gCons (gVar 0) (gCons (gOp vMul (gVar 2) (gVar 3)) gNil))) [9])) (gName 10)) (gRet (gTup (gCons (gVar 2) (gCons (gVar 3) (gCons (gVar 4) (gCons (gVar 5) (gCons (gVar 6) (gCons (gVar 7) (gCons (gUn vTuple (gVar 8)) (gCons (gTupOf (gSortS (gSeen (gVar 10)))) gNil)))))))))))
noncomputable def r__law_rule_2 : GS := (gSeq (gFor (wRange (gCall g__law_draw (gCons (gVar 0) (gCons (gC (.int 4)) gNil)))) (gName 9) (gDrop (gApp (gVar 8) (gCall g__law_part (gCons (gOp vAdd (gC (.int 1)) (gCall g__law_draw (gCons (gVar 0) (gCons (gIxL (gLst (gCons (gC (.int 1)) (gCons (gC (.int 3)) (gCons (gC (.int 7)) gNil)))) (gOp vSub (gVar 3) (gC (.int 1)))) gNil)))) (gCons (gVar 3) gNil)))))) r__law_rule_1)
noncomputable def r__law_rule_3 : GS := (gSeq (gAsg (gNew (gLst gNil)) (gName 8)) r__law_rule_2)
noncomputable def r__law_rule_4 : GS := (gSeq (gAsg (gIxL (gLst (gCons (gC (.str (Str.ofString "into"))) (gCons (gC (.str (Str.ofString "past"))) (gCons (gC (.str (Str.ofString "first"))) gNil)))) (gCall g__law_draw (gCons (gVar 0) (gCons (gC (.int 3)) gNil)))) (gName 7)) r__law_rule_3)
noncomputable def r__law_rule_5 : GS := (gSeq (gAsg (gOp vEq (gCall g__law_draw (gCons (gVar 0) (gCons (gC (.int 3)) gNil))) (gC (.int 1))) (gName 6)) r__law_rule_4)
noncomputable def r__law_rule_6 : GS := (gSeq (gAsg (gIxL (gLst (gCons (gC (.str (Str.ofString "whole"))) (gCons (gC (.str (Str.ofString "parts"))) (gCons (gC (.str (Str.ofString "filled"))) gNil)))) (gCall g__law_draw (gCons (gVar 0) (gCons (gC (.int 3)) gNil)))) (gName 5)) r__law_rule_5)
noncomputable def r__law_rule_7 : GS := (gSeq (gAsg (gOp vAdd (gC (.int 1)) (gCall g__law_draw (gCons (gVar 0) (gCons (gC (.int 3)) gNil)))) (gName 4)) r__law_rule_6)
noncomputable def r__law_rule_8 : GS := (gSeq (gAsg (gOp vAdd (gC (.int 1)) (gCall g__law_draw (gCons (gVar 0) (gCons (gC (.int 3)) gNil)))) (gName 3)) r__law_rule_7)
noncomputable def r__law_rule_9 : GS := (gSeq (gAsg (gOp vAdd (gC (.int 1)) (gCall g__law_draw (gCons (gVar 0) (gCons (gVar 1) gNil)))) (gName 2)) r__law_rule_8)
noncomputable def b__law_rule : GS :=
    r__law_rule_9
noncomputable def g__law_rule : GF := gFn 2 11 b__law_rule
noncomputable def r__law_row_1 : GS := (gSeq (gIfS (tB (gOp vEq (gCall g__law_draw (gCons (gVar 0) (gCons (gC (.int 4)) gNil))) (gC (.int 1)))) (gAsg (gCall g__law_part (gCons (gCall g__law_draw (gCons (gVar 0) (gCons (gIxL (gLst (gCons (gC (.int 2)) (gCons (gC (.int 4)) (gCons (gC (.int 8)) (gCons (gC (.int 16)) (gCons (gC (.int 32)) (gCons (gC (.int 64)) (gCons (gC (.int 128)) (gCons (gC (.int 256)) gNil))))))))) (gOp vSub (gVar 4) (gC (.int 1)))) gNil))) (gCons (gVar 4) gNil))) (gName 8)) gNext) (gRet (gTup (gCons (gVar 6) (gCons (gVar 7) (gCons (gVar 8) gNil))))))
noncomputable def r__law_row_2 : GS := (gSeq (gIfS (tB (gOp vLt (gOp vAdd (gVar 3) (gC (.int 1))) (gVar 4))) (gAsg (gTup (gCons (gOp vAdd (gVar 3) (gC (.int 1))) gNil)) (gName 8)) gNext) r__law_row_1)
noncomputable def r__law_row_3 : GS := (gSeq (gAsg (gTup gNil) (gName 8)) r__law_row_2)
noncomputable def r__law_row_4 : GS := (gSeq (gIfS (tB (gOp vEq (gCall g__law_draw (gCons (gVar 0) (gCons (gC (.int 3)) gNil))) (gC (.int 1)))) (gAsg (gCall g__law_part (gCons (gCall g__law_draw (gCons (gVar 0) (gCons (gIxL (gLst (gCons (gC (.int 1)) (gCons (gC (.int 2)) (gCons (gC (.int 4)) (gCons (gC (.int 8)) gNil))))) (gUn vLen (gOp vIx (gVar 1) (gC (.int 6))))) gNil))) (gCons (gUn vLen (gOp vIx (gVar 1) (gC (.int 6)))) gNil))) (gName 7)) gNext) r__law_row_3)
noncomputable def r__law_row_5 : GS := (gSeq (gAsg (gTup gNil) (gName 7)) r__law_row_4)
noncomputable def r__law_row_6 : GS := (gSeq (gIfS (tB (gOp vEq (gVar 5) (gC (.str (Str.ofString "pass"))))) (gAsg (gTup (gCons (gC (.str (Str.ofString "pass"))) gNil)) (gName 6)) gNext) r__law_row_5)
noncomputable def r__law_row_7 : GS := (gSeq (gAsg (gTup (gCons (gVar 5) (gCons (gOp vIx (gOp vAdd (gOp vAdd (gVar 2) (gVar 2)) (gNew (gLst (gCons (gCall g__law_draw (gCons (gVar 0) (gCons (gOp vMul (gOp vIx (gVar 1) (gC (.int 0))) (gOp vIx (gVar 1) (gC (.int 1)))) gNil))) gNil)))) (gCall g__law_draw (gCons (gVar 0) (gCons (gC (.int 5)) gNil)))) gNil))) (gName 6)) r__law_row_6)
noncomputable def r__law_row_8 : GS := (gSeq (gAsg (gIxL (gLst (gCons (gC (.str (Str.ofString "write"))) (gCons (gC (.str (Str.ofString "put"))) (gCons (gC (.str (Str.ofString "read"))) (gCons (gC (.str (Str.ofString "write"))) (gCons (gC (.str (Str.ofString "pass"))) (gCons (gC (.str (Str.ofString "write"))) gNil))))))) (gCall g__law_draw (gCons (gVar 0) (gCons (gC (.int 6)) gNil)))) (gName 5)) r__law_row_7)
noncomputable def b__law_row : GS :=
    r__law_row_8
noncomputable def g__law_row : GF := gFn 5 9 b__law_row
noncomputable def r__law_program_1 : GS := (gSeq (gAsg (gNew (gLst (gCons (gCall g__law_draw (gCons (gVar 0) (gCons (gOp vMul (gOp vIx (gVar 1) (gC (.int 0))) (gOp vIx (gVar 1) (gC (.int 1)))) gNil))) (gCons (gCall g__law_draw (gCons (gVar 0) (gCons (gOp vMul (gOp vIx (gVar 1) (gC (.int 0))) (gOp vIx (gVar 1) (gC (.int 1)))) gNil))) gNil)))) (gName 4)) (gRet (gTupOf (gLc (wRange (gVar 3)) (gName 5) tYes (gCall g__law_row (gCons (gVar 0) (gCons (gVar 1) (gCons (gVar 4) (gCons (gVar 5) (gCons (gVar 3) gNil)))))) [5]))))
noncomputable def r__law_program_2 : GS := (gSeq (gAsg (gIxL (gLst (gCons (gOp vAdd (gC (.int 1)) (gCall g__law_draw (gCons (gVar 0) (gCons (gVar 2) gNil)))) (gCons (gVar 2) gNil))) (gCall g__law_draw (gCons (gVar 0) (gCons (gC (.int 2)) gNil)))) (gName 3)) r__law_program_1)
noncomputable def b__law_program : GS :=
    r__law_program_2
noncomputable def g__law_program : GF := gFn 3 6 b__law_program
noncomputable def b_is_tuple_of : GS :=
    (gRet (gAnd (gUn (vIsi .tuple) (gVar 0)) (gChain vLe vLe (gVar 1) (gUn vLen (gVar 0)) (gVar 2))))
noncomputable def g_is_tuple_of : GF := gFn 3 3 b_is_tuple_of
noncomputable def b_is_integer : GS :=
    (gRet (gAnd (gUn (vIsi .int) (gVar 0)) (gNot (gUn (vIsi .bool) (gVar 0)))))
noncomputable def g_is_integer : GF := gFn 1 1 b_is_integer
noncomputable def b_is_integer_within : GS :=
    (gRet (gAnd (gCall g_is_integer (gCons (gVar 0) gNil)) (gChain vLe vLe (gVar 1) (gVar 0) (gVar 2))))
noncomputable def g_is_integer_within : GF := gFn 3 3 b_is_integer_within
noncomputable def r_are_numbers_below_1 : GS := (gSeq (gIfS (tNot (tTru (gCall g_is_integer_within (gCons (gVar 3) (gCons (gVar 2) (gCons (gOp vSub (gVar 1) (gC (.int 1))) gNil)))))) (gRet (gC (.bl false))) gNext) (gAsg (gOp vAdd (gVar 3) (gC (.int 1))) (gName 2)))
noncomputable def r_are_numbers_below_2 : GS := (gSeq (gFor (wSeq (gVar 0)) (gName 3) r_are_numbers_below_1) (gRet (gC (.bl true))))
noncomputable def r_are_numbers_below_3 : GS := (gSeq (gAsg (gC (.int 0)) (gName 2)) r_are_numbers_below_2)
noncomputable def r_are_numbers_below_4 : GS := (gSeq (gIfS (tNot (tTru (gUn (vIsi .tuple) (gVar 0)))) (gRet (gC (.bl false))) gNext) r_are_numbers_below_3)
noncomputable def b_are_numbers_below : GS :=
    r_are_numbers_below_4
noncomputable def g_are_numbers_below : GF := gFn 2 4 b_are_numbers_below
noncomputable def b_is_word_of : GS :=
    (gRet (gAnd (gUn (vIsi .str) (gVar 0)) (gOp vIn (gVar 0) (gVar 1))))
noncomputable def g_is_word_of : GF := gFn 2 2 b_is_word_of
noncomputable def b_is_kind : GS :=
    (gRet (gAnd (gCall g_is_tuple_of (gCons (gVar 0) (gCons (gC (.int 1)) (gCons (gVar 1) gNil)))) (gCall g_are_numbers_below (gCons (gVar 0) (gCons (gVar 1) gNil)))))
noncomputable def g_is_kind : GF := gFn 2 2 b_is_kind
noncomputable def b_places_of : GS :=
    (gRet (gOp vMul (gOp vIx (gVar 0) (gC (.int 0))) (gOp vIx (gVar 0) (gC (.int 1)))))
noncomputable def g_places_of : GF := gFn 1 1 b_places_of
noncomputable def r_is_rule_1 : GS := (gSeq (gAsg (gAll (gLc (wSeq (gOp vIx (gVar 0) (gC (.int 6)))) (gName 3) tYes (gCall g_is_kind (gCons (gVar 3) (gCons (gOp vIx (gVar 0) (gC (.int 1))) gNil))) [3])) (gName 2)) (gRet (gAnd (gVar 2) (gCall g_are_numbers_below (gCons (gOp vIx (gVar 0) (gC (.int 7))) (gCons (gCall g_places_of (gCons (gVar 0) gNil)) gNil))))))
noncomputable def r_is_rule_2 : GS := (gSeq (gIfS (tOr (tNot (tTru (gCall g_is_tuple_of (gCons (gOp vIx (gVar 0) (gC (.int 6))) (gCons (gC (.int 0)) (gCons (gC (.int 3)) gNil)))))) (tNot (tTru (gCall g_is_tuple_of (gCons (gOp vIx (gVar 0) (gC (.int 7))) (gCons (gC (.int 0)) (gCons (gC (.int 2)) gNil))))))) (gRet (gC (.bl false))) gNext) r_is_rule_1)
noncomputable def r_is_rule_3 : GS := (gSeq (gIfS (tNot (tTru (gUn (vIsi .bool) (gOp vIx (gVar 0) (gC (.int 4)))))) (gRet (gC (.bl false))) gNext) r_is_rule_2)
noncomputable def r_is_rule_4 : GS := (gSeq (gIfS (tOr (tNot (tTru (gCall g_is_word_of (gCons (gOp vIx (gVar 0) (gC (.int 3))) (gCons (gC (.tup [(.str (Str.ofString "whole")), (.str (Str.ofString "parts")), (.str (Str.ofString "filled"))])) gNil))))) (tNot (tTru (gCall g_is_word_of (gCons (gOp vIx (gVar 0) (gC (.int 5))) (gCons (gC (.tup [(.str (Str.ofString "into")), (.str (Str.ofString "past")), (.str (Str.ofString "first"))])) gNil)))))) (gRet (gC (.bl false))) gNext) r_is_rule_3)
noncomputable def r_is_rule_5 : GS := (gSeq (gFor (wSeq (gTup (gCons (gC (.int 0)) (gCons (gC (.int 1)) (gCons (gC (.int 2)) gNil))))) (gName 1) (gIfS (tNot (tTru (gCall g_is_integer_within (gCons (gOp vIx (gVar 0) (gVar 1)) (gCons (gC (.int 1)) (gCons (gC (.int 3)) gNil)))))) (gRet (gC (.bl false))) gNext)) r_is_rule_4)
noncomputable def r_is_rule_6 : GS := (gSeq (gIfS (tNot (tTru (gCall g_is_tuple_of (gCons (gVar 0) (gCons (gC (.int 8)) (gCons (gC (.int 8)) gNil)))))) (gRet (gC (.bl false))) gNext) r_is_rule_5)
noncomputable def b_is_rule : GS :=
    r_is_rule_6
noncomputable def g_is_rule : GF := gFn 1 4 b_is_rule
noncomputable def b_check_rule : GS :=
    (gIfS (xE (tNot (tTru (gCall g_is_rule (gCons (gVar 0) gNil))))) (gRaise "BadRule") gNext)
noncomputable def g_check_rule : GF := gFn 1 1 b_check_rule
noncomputable def r_is_operation_1 : GS := (gSeq (gIfS (tB (gOp vEq (gUn vLen (gVar 1)) (gC (.int 1)))) (gRet (gCall g_is_word_of (gCons (gOp vIx (gVar 1) (gC (.int 0))) (gCons (gTup (gCons (gC (.str (Str.ofString "pass"))) gNil)) gNil)))) gNext) (gRet (gAnd (gCall g_is_word_of (gCons (gOp vIx (gVar 1) (gC (.int 0))) (gCons (gC (.tup [(.str (Str.ofString "write")), (.str (Str.ofString "put")), (.str (Str.ofString "read"))])) gNil))) (gCall g_is_integer_within (gCons (gOp vIx (gVar 1) (gC (.int 1))) (gCons (gC (.int 0)) (gCons (gOp vSub (gCall g_places_of (gCons (gVar 0) gNil)) (gC (.int 1))) gNil)))))))
noncomputable def r_is_operation_2 : GS := (gSeq (gIfS (tNot (tTru (gCall g_is_tuple_of (gCons (gVar 1) (gCons (gC (.int 1)) (gCons (gC (.int 2)) gNil)))))) (gRet (gC (.bl false))) gNext) r_is_operation_1)
noncomputable def b_is_operation : GS :=
    r_is_operation_2
noncomputable def g_is_operation : GF := gFn 2 2 b_is_operation
noncomputable def r_is_fenced_operation_1 : GS := (gSeq (gAsg (gVar 1) (gUnpack 2 (ggCons (gName 2) (ggCons (gName 3) ggNil)))) (gRet (gAnd (gCall g_is_operation (gCons (gVar 0) (gCons (gVar 2) gNil))) (gCall g_are_numbers_below (gCons (gVar 3) (gCons (gUn vLen (gOp vIx (gVar 0) (gC (.int 6)))) gNil))))))
noncomputable def r_is_fenced_operation_2 : GS := (gSeq (gIfS (tNot (tTru (gCall g_is_tuple_of (gCons (gVar 1) (gCons (gC (.int 2)) (gCons (gC (.int 2)) gNil)))))) (gRet (gC (.bl false))) gNext) r_is_fenced_operation_1)
noncomputable def b_is_fenced_operation : GS :=
    r_is_fenced_operation_2
noncomputable def g_is_fenced_operation : GF := gFn 2 4 b_is_fenced_operation
noncomputable def r_is_row_1 : GS := (gSeq (gAsg (gVar 1) (gUnpack 3 (ggCons (gName 3) (ggCons (gName 4) (ggCons (gName 5) ggNil))))) (gRet (gAnd (gCall g_is_fenced_operation (gCons (gVar 0) (gCons (gTup (gCons (gVar 3) (gCons (gVar 4) gNil))) gNil))) (gCall g_are_numbers_below (gCons (gVar 5) (gCons (gVar 2) gNil))))))
noncomputable def r_is_row_2 : GS := (gSeq (gIfS (tNot (tTru (gCall g_is_tuple_of (gCons (gVar 1) (gCons (gC (.int 3)) (gCons (gC (.int 3)) gNil)))))) (gRet (gC (.bl false))) gNext) r_is_row_1)
noncomputable def b_is_row : GS :=
    r_is_row_2
noncomputable def g_is_row : GF := gFn 3 6 b_is_row
noncomputable def b_has_rows : GS :=
    (gRet (gAnd (gCall g_is_tuple_of (gCons (gVar 1) (gCons (gC (.int 1)) (gCons (gC (.int 8)) gNil)))) (gAll (gLc (wSeq (gVar 1)) (gName 2) tYes (gCall g_is_row (gCons (gVar 0) (gCons (gVar 2) (gCons (gUn vLen (gVar 1)) gNil)))) [2]))))
noncomputable def g_has_rows : GF := gFn 2 3 b_has_rows
noncomputable def r_check_program_1 : GS := (gSeq (gDrop (gCall g_check_rule (xE (gCons (gVar 0) gNil)))) (gIfS (xE (tNot (tTru (gCall g_has_rows (gCons (gVar 0) (gCons (gVar 1) gNil)))))) (gRaise "BadProgram") gNext))
noncomputable def b_check_program : GS :=
    r_check_program_1
noncomputable def g_check_program : GF := gFn 2 2 b_check_program
noncomputable def r_is_spot_1 : GS := (gSeq (gAsg (gVar 2) (gUnpack 2 (ggCons (gName 3) (ggCons (gName 4) ggNil)))) (gRet (gAnd (gCall g_is_integer_within (gCons (gVar 3) (gCons (gC (.int 0)) (gCons (gOp vSub (gUn vLen (gVar 1)) (gC (.int 1))) gNil)))) (gCall g_is_integer_within (gCons (gVar 4) (gCons (gC (.int 0)) (gCons (gOp vSub (gUn vLen (gOp vIx (gVar 0) (gC (.int 6)))) (gC (.int 1))) gNil)))))))
noncomputable def r_is_spot_2 : GS := (gSeq (gIfS (tOr (tNot (tTru (gUn (vIsi .tuple) (gVar 2)))) (tB (gOp vNe (gUn vLen (gVar 2)) (gC (.int 2))))) (gRet (gC (.bl false))) gNext) r_is_spot_1)
noncomputable def b_is_spot : GS :=
    r_is_spot_2
noncomputable def g_is_spot : GF := gFn 3 5 b_is_spot
noncomputable def r_check_lot_1 : GS := (gSeq (gIfS (xE (tOr (tNot (tTru (gUn (vIsi .tuple) (gVar 2)))) (tNot (tTru (gAll (gLc (wSeq (gVar 2)) (gName 3) tYes (gCall g_is_spot (gCons (gVar 0) (gCons (gVar 1) (gCons (gVar 3) gNil)))) [3])))))) (gRaise "BadSpot") gNext) (gIfS (xE (tB (gOp vNe (gVar 2) (gTupOf (gSortSP (gVar 2)))))) (gRaise "BadSpot") gNext))
noncomputable def b_check_lot : GS :=
    r_check_lot_1
noncomputable def g_check_lot : GF := gFn 3 4 b_check_lot
noncomputable def r_program_with_1 : GS := (gSeq (gAsg (gNew (gLc (wSeq (gVar 1)) (gUnpack 2 (ggCons (gName 8) (ggCons (gName 9) ggNil))) (tB (gOp vEq (gVar 8) (gVar 3))) (gVar 9) [8, 9])) (gName 4)) (gDrop (gApp (gVar 2) (gTup (gCons (gVar 5) (gCons (gTupOf (gSortS (gLst (gStar (gVar 6) (gStar (gVar 4) gNil))))) (gCons (gVar 7) gNil)))))))
noncomputable def r_program_with_2 : GS := (gSeq (gFor (wEnum (gVar 0)) (gUnpack 2 (ggCons (gName 3) (ggCons (gUnpack 3 (ggCons (gName 5) (ggCons (gName 6) (ggCons (gName 7) ggNil)))) ggNil))) r_program_with_1) (gRet (gUn vTuple (gVar 2))))
noncomputable def r_program_with_3 : GS := (gSeq (gAsg (gNew (gLst gNil)) (gName 2)) r_program_with_2)
noncomputable def b_program_with : GS :=
    r_program_with_3
noncomputable def g_program_with : GF := gFn 2 10 b_program_with
noncomputable def r_with_fences_1 : GS := (gSeq (gDrop (gCall g_check_lot (xE (gCons (gVar 0) (gCons (gVar 1) (gCons (gVar 2) gNil)))))) (xE (gRet (gCall g_program_with (gCons (gVar 1) (gCons (gVar 2) gNil))))))
noncomputable def r_with_fences_2 : GS := (gSeq (gDrop (gCall g_check_program (xE (gCons (gVar 0) (gCons (gVar 1) gNil))))) r_with_fences_1)
noncomputable def b_with_fences : GS :=
    r_with_fences_2
noncomputable def g_with_fences : GF := gFn 3 3 b_with_fences
noncomputable def r__law_only_1 : GS := (gSeq (gIfS (tOr (tNot (tTru (gUn (vIsX lt_ValueError) (gVar 0)))) (tTru (gUn (vIsX lts_0) (gVar 0)))) (gRet (gC (.bl false))) gNext) (gRet (gAnd (gOp vEq (gVar 2) (gNew (gLc (wRange (gC (.int 7))) (gName 3) tYes (gOp vEq (gVar 3) (gVar 1)) [3]))) (gNot (gUn (vIsX lts_1) (gVar 0))))))
noncomputable def r__law_only_2 : GS := (gSeq (gDrop (gApp (gVar 2) (gUn (vIsX lt_NotEnough) (gVar 0)))) r__law_only_1)
noncomputable def r__law_only_3 : GS := (gSeq (gAsg (gOp vAdd (gVar 2) (gNew (gLst (gCons (gUn (vIsX lt_BadQuestion) (gVar 0)) (gCons (gUn (vIsX lt_BadSpot) (gVar 0)) (gCons (gUn (vIsX lt_TooMany) (gVar 0)) gNil)))))) (gName 2)) r__law_only_2)
noncomputable def r__law_only_4 : GS := (gSeq (gAsg (gNew (gLst (gCons (gUn (vIsX lt_BadRule) (gVar 0)) (gCons (gUn (vIsX lt_BadProgram) (gVar 0)) (gCons (gUn (vIsX lt_BadStep) (gVar 0)) gNil))))) (gName 2)) r__law_only_3)
noncomputable def b__law_only : GS :=
    r__law_only_4
noncomputable def g__law_only : GF := gFn 2 4 b__law_only
noncomputable def r__law_refused_1 : GS := (gSeq (gTry lm_GatherError 4 (gDrop (gCall g_with_fences (xE (gCons (gVar 0) (gCons (gVar 1) (gCons (gVar 2) gNil)))))) (gAsg (gVar 4) (gName 3))) (gRet (gAnd (gOp vIsNot (gVar 3) (gC .non)) (gCall g__law_only (gCons (gVar 3) (gCons (gC (.int 4)) gNil))))))
noncomputable def r__law_refused_2 : GS := (gSeq (gAsg (gC .non) (gName 3)) r__law_refused_1)
noncomputable def b__law_refused : GS :=
    r__law_refused_2
noncomputable def g__law_refused : GF := gFn 3 5 b__law_refused
noncomputable def r__law_plain_1 : GS := (gSeq (gIfS (tOr (tNot (tTru (gUn (vIsi .tuple) (gVar 0)))) (tB (gOp vNe (gNew (gLc (wSeq (gVar 0)) (gName 1) (tNot (tTru (gUn (vIsi .tuple) (gVar 1)))) (gVar 1) [1])) (gNew (gLst gNil))))) (gRet (gC (.bl false))) gNext) (gRet (gOp vEq (gNew (gLc (wSeq (gVar 0)) (gName 1) (tOr (tNot (tTru (gUn (vIsi .tuple) (gOp vIx (gVar 1) (gC (.int 1)))))) (tNot (tTru (gUn (vIsi .tuple) (gOp vIx (gVar 1) (gC (.int 2))))))) (gVar 1) [1])) (gNew (gLst gNil)))))
noncomputable def b__law_plain : GS :=
    r__law_plain_1
noncomputable def g__law_plain : GF := gFn 1 2 b__law_plain
noncomputable def r__law_fenced_1 : GS := (gSeq (gAsg (gNew (gLc (wSeq (gVar 1)) (gUnpack 2 (ggCons (gName 5) (ggCons (gName 6) ggNil))) (tB (gOp vEq (gVar 5) (gVar 3))) (gVar 6) [5, 6])) (gName 4)) (gDrop (gApp (gVar 2) (gTup (gCons (gOp vIx (gOp vIx (gVar 0) (gVar 3)) (gC (.int 0))) (gCons (gTupOf (gSortS (gSeen (gOp vAdd (gNew (gList (gOp vIx (gOp vIx (gVar 0) (gVar 3)) (gC (.int 1))))) (gVar 4))))) (gCons (gOp vIx (gOp vIx (gVar 0) (gVar 3)) (gC (.int 2))) gNil)))))))
noncomputable def r__law_fenced_2 : GS := (gSeq (gFor (wRange (gUn vLen (gVar 0))) (gName 3) r__law_fenced_1) (gRet (gUn vTuple (gVar 2))))
noncomputable def r__law_fenced_3 : GS := (gSeq (gAsg (gNew (gLst gNil)) (gName 2)) r__law_fenced_2)
noncomputable def b__law_fenced : GS :=
    r__law_fenced_3
noncomputable def g__law_fenced : GF := gFn 2 7 b__law_fenced
noncomputable def r__law_no_lot_1 : GS := (gSeq (gAsg (gIxL (gLst (gCons (gTup (gCons (gVar 6) (gCons (gVar 7) gNil))) (gCons (gTup (gCons (gC (.int 0)) (gCons (gC (.int 0)) gNil))) gNil))) (gOp vSub (gVar 5) (gC (.int 1)))) (gName 8)) (gRet (gOp vAdd (gOp vAdd (gSl (gVar 3) oNone (oSome (gVar 4))) (gTup (gCons (gTup (gCons (gVar 6) (gCons (gVar 7) gNil))) (gCons (gVar 8) gNil)))) (gSl (gVar 3) (oSome (gOp vAdd (gVar 4) (gC (.int 1)))) oNone))))
noncomputable def r__law_no_lot_2 : GS := (gSeq (gAsg (gNew (gLst (gCons (gTup (gCons (gUn vLen (gVar 2)) (gCons (gVar 7) gNil))) (gCons (gTup (gCons (gVar 6) (gCons (gUn vLen (gOp vIx (gVar 1) (gC (.int 6)))) gNil))) (gCons (gTup (gCons (gUn vNeg (gC (.int 1))) (gCons (gVar 7) gNil))) (gCons (gTup (gCons (gVar 6) (gCons (gUn vNeg (gC (.int 1))) gNil))) (gCons (gNew (gLst (gCons (gVar 6) (gCons (gVar 7) gNil)))) (gCons (gTup (gCons (gVar 6) (gCons (gVar 7) (gCons (gC (.int 0)) gNil)))) (gCons (gTup (gCons (gC (.bl true)) (gCons (gUn vNeg (gC (.int 1))) gNil))) gNil))))))))) (gName 9)) (gRet (gOp vAdd (gOp vAdd (gSl (gVar 3) oNone (oSome (gVar 4))) (gTup (gCons (gOp vIx (gVar 9) (gOp vSub (gVar 5) (gC (.int 3)))) gNil))) (gSl (gVar 3) (oSome (gOp vAdd (gVar 4) (gC (.int 1)))) oNone))))
noncomputable def r__law_no_lot_3 : GS := (gSeq (gIfS (tB (gOp vLt (gVar 5) (gC (.int 3)))) r__law_no_lot_1 gNext) r__law_no_lot_2)
noncomputable def r__law_no_lot_4 : GS := (gSeq (gIfS (tB (gOp vEq (gVar 5) (gC (.int 0)))) (gRet (gNew (gList (gVar 3)))) gNext) r__law_no_lot_3)
noncomputable def r__law_no_lot_5 : GS := (gSeq (gAsg (gOp vIx (gOp vAdd (gVar 3) (gTup (gCons (gTup (gCons (gC (.int 0)) (gCons (gC (.int 0)) gNil))) gNil))) (gVar 4)) (gUnpack 2 (ggCons (gName 6) (ggCons (gName 7) ggNil)))) r__law_no_lot_4)
noncomputable def r__law_no_lot_6 : GS := (gSeq (gAsg (gCall g__law_draw (gCons (gVar 0) (gCons (gC (.int 10)) gNil))) (gName 5)) r__law_no_lot_5)
noncomputable def r__law_no_lot_7 : GS := (gSeq (gAsg (gCall g__law_draw (gCons (gVar 0) (gCons (gOp vAdd (gUn vLen (gVar 3)) (gC (.int 1))) gNil))) (gName 4)) r__law_no_lot_6)
noncomputable def b__law_no_lot : GS :=
    r__law_no_lot_7
noncomputable def g__law_no_lot : GF := gFn 4 10 b__law_no_lot
noncomputable def r__law_spots_1 : GS := (gSeq (gFor (wRange (gUn vLen (gVar 1))) (gName 3) (gDrop (gExt (gVar 2) (gLc (wRange (gUn vLen (gOp vIx (gVar 0) (gC (.int 6))))) (gName 4) tYes (gTup (gCons (gVar 3) (gCons (gVar 4) gNil))) [4])))) (gRet (gVar 2)))
noncomputable def r__law_spots_2 : GS := (gSeq (gAsg (gNew (gLst gNil)) (gName 2)) r__law_spots_1)
noncomputable def b__law_spots : GS :=
    r__law_spots_2
noncomputable def g__law_spots : GF := gFn 2 5 b__law_spots
noncomputable def r_law_1 : GS := (gSeq (gIfS (tNot (tTru (gCall g__law_refused (gCons (gVar 4) (gCons (gVar 5) (gCons (gCall g__law_no_lot (gCons (gVar 2) (gCons (gVar 4) (gCons (gVar 5) (gCons (gVar 6) gNil))))) gNil)))))) (gRet (gC (.bl false))) gNext) (gIfS (tNot (tTru (gCall g__law_refused (gCons (gVar 4) (gCons (gVar 5) (gCons (gIxL (gLst (gCons (gC .non) (gCons (gC (.bl true)) (gCons (gC (.str (Str.ofString ""))) (gCons (gTup (gCons (gC .non) gNil)) (gCons (gTup (gCons (gTup (gCons (gC (.int 0)) gNil)) gNil)) (gCons (gTup (gCons (gTup (gCons (gC (.int 0)) (gCons (gC (.bl false)) gNil))) gNil)) gNil))))))) (gCall g__law_draw (gCons (gVar 2) (gCons (gC (.int 6)) gNil)))) gNil)))))) (gRet (gC (.bl false))) gNext))
noncomputable def r_law_2 : GS := (gSeq (gIfS (tOr (tB (gOp vNe (gCall g_with_fences (gCons (gVar 4) (gCons (gVar 7) (gCons (gVar 6) gNil)))) (gVar 7))) (tB (gOp vNe (gCall g_with_fences (gCons (gVar 4) (gCons (gVar 5) (gCons (gTup gNil) gNil)))) (gVar 5)))) (gRet (gC (.bl false))) gNext) r_law_1)
noncomputable def r_law_3 : GS := (gSeq (gIfS (tOr (tNot (tTru (gCall g__law_plain (gCons (gVar 7) gNil)))) (tB (gOp vNe (gVar 7) (gCall g__law_fenced (gCons (gVar 5) (gCons (gVar 6) gNil)))))) (gRet (gC (.bl false))) gNext) r_law_2)
noncomputable def r_law_4 : GS := (gSeq (gAsg (gCall g_with_fences (gCons (gVar 4) (gCons (gVar 5) (gCons (gVar 6) gNil)))) (gName 7)) r_law_3)
noncomputable def r_law_5 : GS := (gSeq (gAsg (gTupOf (gLc (wSeq (gCall g__law_spots (gCons (gVar 4) (gCons (gVar 5) gNil)))) (gName 8) (tB (gOp vEq (gCall g__law_draw (gCons (gVar 2) (gCons (gC (.int 3)) gNil))) (gC (.int 1)))) (gVar 8) [8])) (gName 6)) r_law_4)
noncomputable def r_law_6 : GS := (gSeq (gAsg (gCall g__law_program (gCons (gVar 2) (gCons (gVar 4) (gCons (gC (.int 8)) gNil)))) (gName 5)) r_law_5)
noncomputable def r_law_7 : GS := (gSeq (gIfS (tNot (tTru (gVar 3))) (gAsg (gOp vAdd (gOp vAdd (gSl (gVar 4) oNone (oSome (gC (.int 6)))) (gTup (gCons (gOp vAdd (gSl (gOp vIx (gVar 4) (gC (.int 6))) oNone (oSome (gC (.int 2)))) (gTup (gCons (gUn vTupRg (gOp vIx (gVar 4) (gC (.int 1)))) gNil))) gNil))) (gSl (gVar 4) (oSome (gC (.int 7))) oNone)) (gName 4)) gNext) r_law_6)
noncomputable def r_law_8 : GS := (gSeq (gAsg (gCall g__law_rule (gCons (gVar 2) (gCons (gC (.int 3)) gNil))) (gName 4)) r_law_7)
noncomputable def r_law_9 : GS := (gSeq (gAsg (gOp vEq (gCall g__law_draw (gCons (gVar 2) (gCons (gC (.int 4)) gNil))) (gC (.int 0))) (gName 3)) r_law_8)
noncomputable def r_law_10 : GS := (gSeq (gAsg (gCall g__law_pool (gCons (gVar 0) (gCons (gVar 1) gNil))) (gName 2)) r_law_9)
noncomputable def r_law_11 : GS := (gSeq (gFor (wRange (gOp vMax (gC (.int 1)) (gOp vMin (gC (.int 4)) (gUn vLenC (gVar 0))))) (gName 1) r_law_10) (gRet (gC (.bl true))))
noncomputable def b_law : GS :=
    r_law_11
noncomputable def g_law : GF := gFn 1 9 b_law
end DL
namespace DL
open PySem
theorem has_rf {st : Store} {n : Nat} : Has st (.rf n) ↔ ∃ ds, st[n]? = some (.lst ds) := by
  show (∃ ds, cellItems st n = some ds) ↔ _
  unfold cellItems
  cases e : st[n]? with
  | none => simp
  | some c => cases c <;> simp
theorem sp_is_integer {d : D} {st : Store} {Q : D → Store → Prop} (h : Has st d) (q : Q (.bl (isTy .int d && !isTy .bool d)) st) : Run (g_is_integer [d]) st Q := by
  unfold g_is_integer b_is_integer
  refine (run_gFn (by rfl)).mpr ?_
  simp [-Bool.exists_bool, startE, run_isi, h]
  cases d <;> simp_all [isTy]
def intIn (lo hi : Int) : D → Bool
  | .int i => decide (lo ≤ i) && decide (i ≤ hi)
  | _ => false
theorem sp_is_integer_within {d : D} {lo hi : Int} {st : Store} {Q : D → Store → Prop} (h : Has st d) (q : Q (.bl (intIn lo hi d)) st) : Run (g_is_integer_within [d, .int lo, .int hi]) st Q := by
  unfold g_is_integer_within b_is_integer_within
  refine (run_gFn (by rfl)).mpr ?_
  simp [startE]
  refine sp_is_integer h ?_
  cases d with
  | int i =>
    simp_all [isTy, intIn]
    by_cases c : lo ≤ i <;> simp_all
  | _ => simp_all [isTy, intIn]
def wordB (ws : List D) : D → Bool
  | .str x => ws.any fun z => eqF z (.str x)
  | _ => false
theorem sp_is_word_of {d : D} {ws : List D} (hw : ws.all flat = true) {st : Store} {Q : D → Store → Prop} (h : Has st d) (q : Q (.bl (wordB ws d)) st) : Run (g_is_word_of [d, .tup ws]) st Q := by
  unfold g_is_word_of b_is_word_of
  refine (run_gFn (by rfl)).mpr ?_
  simp [-Bool.exists_bool, startE, run_isi, h]
  cases d with
  | str x =>
    have e : inB (.str x) (.tup ws) st = some (ws.any fun z => eqF z (.str x)) := by
      show (if (true && ws.all flat) = true then _ else _) = _
      rw [hw]; rfl
    simp [-Bool.exists_bool, isTy, e]
    exact q
  | _ => simp_all [-Bool.exists_bool, isTy, wordB]
def lenB (lo hi : Int) : D → Bool
  | .tup ds => decide (lo ≤ (ds.length : Int)) && decide ((ds.length : Int) ≤ hi)
  | _ => false
theorem sp_is_tuple_of {d : D} {lo hi : Int} {st : Store} {Q : D → Store → Prop} (h : Has st d) (q : Q (.bl (lenB lo hi d)) st) : Run (g_is_tuple_of [d, .int lo, .int hi]) st Q := by
  unfold g_is_tuple_of b_is_tuple_of
  refine (run_gFn (by rfl)).mpr ?_
  simp [-Bool.exists_bool, startE, run_isi, h]
  cases d with
  | tup ds =>
    simp_all [isTy, lenB]
    by_cases c : lo ≤ (ds.length : Int) <;> simp_all
  | _ => simp_all [isTy, lenB]
def ascB (lim : Int) : Int → List D → Bool
  | _, [] => true
  | least, d :: ds => intIn least (lim - 1) d && (match d with
    | .int i => ascB lim (i + 1) ds
    | _ => false)
def numsB (lim : Int) : D → Bool
  | .tup ds => ascB lim 0 ds
  | _ => false
def Has2 (st : Store) (d : D) : Prop := Has st d ∧ ∀ ds, d = .tup ds → ∀ x ∈ ds, Has st x
def invA (st : Store) (ds : List D) (lim : Int) : List D → Env → Store → Prop := fun l ρ s => s = st ∧ (∀ x ∈ l, Has st x) ∧ ∃ least v, ρ = [some (.tup ds), some (.int lim), some (.int least), v] ∧ ascB lim 0 ds = ascB lim least l
theorem sp_are_numbers_below {d : D} {lim : Int} {st : Store} {Q : D → Store → Prop} (h : Has2 st d) (q : Q (.bl (numsB lim d)) st) : Run (g_are_numbers_below [d, .int lim]) st Q := by
  unfold g_are_numbers_below b_are_numbers_below r_are_numbers_below_4 r_are_numbers_below_3 r_are_numbers_below_2 r_are_numbers_below_1
  refine (run_gFn (by rfl)).mpr ?_
  cases d with
  | tup ds =>
    simp [startE, run_isi, h.1, isTy, run_gFor]
    refine run_loop (I := invA st ds lim) (fun _ _ _ _ => trivial) ?_ ?_ ds _ st ⟨rfl, h.2 ds rfl, 0, none, rfl, rfl⟩
    · rintro d l ρ s ⟨rfl, hl, least, v, rfl, e⟩
      simp
      refine sp_is_integer_within (hl d List.mem_cons_self) ?_
      by_cases c : intIn least (lim - 1) d = true
      · cases d with
        | int i =>
          simp [c, turnQ]
          refine ⟨rfl, fun x hx => hl x (List.mem_cons_of_mem _ hx), i + 1, _, rfl, ?_⟩
          rw [e]
          simp [ascB, c]
        | _ => simp [intIn] at c
      · simp [c, turnQ]
        have e2 : numsB lim (.tup ds) = false := by
          show ascB lim 0 ds = false
          rw [e]
          simp [ascB, c]
        rw [e2] at q
        exact q
    · rintro ρ s ⟨rfl, _, least, v, rfl, e⟩
      simp
      have e2 : numsB lim (.tup ds) = true := by
        show ascB lim 0 ds = true
        rw [e]
        rfl
      rw [e2] at q
      exact q
  | cl ds => exact h.1.elim
  | _ => simp_all [startE, run_isi, h.1, isTy, numsB]
def kindB (lines : Int) (d : D) : Bool := lenB 1 lines d && numsB lines d
theorem sp_is_kind {d : D} {lines : Int} {st : Store} {Q : D → Store → Prop} (h : Has2 st d) (q : Q (.bl (kindB lines d)) st) : Run (g_is_kind [d, .int lines]) st Q := by
  unfold g_is_kind b_is_kind
  refine (run_gFn (by rfl)).mpr ?_
  simp [startE]
  refine sp_is_tuple_of h.1 ?_
  unfold kindB at q
  by_cases c : lenB 1 lines d = true
  · simp [c]
    refine sp_are_numbers_below h ?_
    simpa [c] using q
  · simp [c]
    simpa [c] using q
def SW : List D := [.str (Str.ofString "whole"), .str (Str.ofString "parts"), .str (Str.ofString "filled")]
def LW : List D := [.str (Str.ofString "into"), .str (Str.ofString "past"), .str (Str.ofString "first")]
theorem sp_places_of {w l : Int} {rs : List D} {st : Store} {Q : D → Store → Prop} (hw : 1 ≤ w ∧ w ≤ 3) (q : Q (.int (w * l)) st) : Run (g_places_of [.tup (.int w :: .int l :: rs)]) st Q := by
  unfold g_places_of b_places_of
  refine (run_gFn (by rfl)).mpr ?_
  have e0 : atD (.int w :: .int l :: rs : List D) 0 = some (.int w) := by
    unfold atD ixOf
    rw [if_pos (by decide), if_pos (by simp; omega)]; rfl
  have e1 : atD (.int w :: .int l :: rs : List D) 1 = some (.int l) := by
    unfold atD ixOf
    rw [if_pos (by decide), if_pos (by simp; omega)]; rfl
  simp [startE, e0, e1]
  refine ⟨?_, q⟩
  unfold mulOk
  have : w.natAbs < 2 ^ 64 := by omega
  simp only [this, decide_true, Bool.true_or]
def kindsB : D → D → Bool
  | .int l, .tup ks => ks.all (kindB l)
  | _, _ => false
def actB : D → D → D → Bool
  | .int w, .int l, ac => numsB (w * l) ac
  | _, _, _ => false
def ruleB : D → Bool
  | .tup [w, l, r, s, e, k, ks, ac] => intIn 1 3 w && (intIn 1 3 l && (intIn 1 3 r && (wordB SW s && (wordB LW k && (isTy .bool e && (lenB 0 3 ks && (lenB 0 2 ac && (kindsB l ks && actB w l ac))))))))
  | _ => false
/-- what a rule's parts may be asked -/
def WfR (st : Store) (d : D) : Prop := Has st d ∧ ∀ ds, d = .tup ds → ∀ x ∈ ds, Has2 st x ∧ ∀ es, x = .tup es → ∀ y ∈ es, Has2 st y
def invP (st : Store) (ds : List D) : List D → Env → Store → Prop := fun l ρ s => s = st ∧ (∃ i : Nat, i ≤ 3 ∧ l = (fromTo 0 3).drop i ∧ ∀ j : Nat, j < i → ∀ d, ds[j]? = some d → intIn 1 3 d = true) ∧ ∃ v, ρ = [some (.tup ds), v, none, none]
theorem atD_nat {α : Type} {xs : List α} {j : Nat} (h : j < xs.length) : atD xs (j : Int) = xs[j]? := by
  unfold atD ixOf
  rw [if_pos (by omega), if_pos (by omega)]
  simp
theorem bools_map (f : D → Bool) : ∀ ks : List D, bools (ks.map fun d => .bl (f d)) = some (ks.map f)
  | [] => rfl
  | d :: r => by
    show (bools (r.map fun d => .bl (f d))).map (f d :: ·) = _
    rw [bools_map f r]; rfl
def invK (st : Store) (ks0 : List D) (lines : Int) (l acc : List D) (s : Store) : Prop := s = st ∧ (∀ x ∈ l, Has2 st x) ∧ acc ++ l.map (fun d => .bl (kindB lines d)) = ks0.map fun d => .bl (kindB lines d)
theorem intIn_elim {lo hi : Int} {d : D} (h : intIn lo hi d = true) : ∃ i, d = .int i ∧ lo ≤ i ∧ i ≤ hi := by
  cases d with
  | int i => simp [intIn] at h; exact ⟨i, rfl, h⟩
  | _ => simp [intIn] at h
theorem sp_is_rule {d : D} {st : Store} {Q : D → Store → Prop} (h : WfR st d) (hl : ∀ ds, d = .tup ds → ds.length ≤ SZ) (q : Q (.bl (ruleB d)) st) : Run (g_is_rule [d]) st Q := by
  unfold g_is_rule b_is_rule r_is_rule_6 r_is_rule_5 r_is_rule_4 r_is_rule_3 r_is_rule_2 r_is_rule_1
  refine (run_gFn (by rfl)).mpr ?_
  simp [-Bool.exists_bool, startE]
  refine sp_is_tuple_of h.1 ?_
  by_cases c8 : lenB 8 8 d = true
  · cases d with
    | tup ds =>
      have e8 : ds.length = 8 := by simp [lenB] at c8; omega
      match ds, e8 with
      | [w, l, r, s, e, k, ks, ac], _ =>
      have hx := h.2 _ rfl
      have hw := (hx w (by simp)).1.1
      have hll := (hx l (by simp)).1.1
      have hr := (hx r (by simp)).1.1
      have hs := (hx s (by simp)).1.1
      have he := (hx e (by simp)).1.1
      have hk := (hx k (by simp)).1.1
      have hks := hx ks (by simp)
      have hac := hx ac (by simp)
      have a0 : atD [w, l, r, s, e, k, ks, ac] 0 = some w := rfl
      have a1 : atD [w, l, r, s, e, k, ks, ac] 1 = some l := rfl
      have a2 : atD [w, l, r, s, e, k, ks, ac] 2 = some r := rfl
      have a3 : atD [w, l, r, s, e, k, ks, ac] 3 = some s := rfl
      have a4 : atD [w, l, r, s, e, k, ks, ac] 4 = some e := rfl
      have a5 : atD [w, l, r, s, e, k, ks, ac] 5 = some k := rfl
      have a6 : atD [w, l, r, s, e, k, ks, ac] 6 = some ks := rfl
      have a7 : atD [w, l, r, s, e, k, ks, ac] 7 = some ac := rfl
      simp [-Bool.exists_bool, c8, run_gFor, a0]
      have rb : ruleB (.tup [w, l, r, s, e, k, ks, ac]) = (intIn 1 3 w && (intIn 1 3 l && (intIn 1 3 r && (wordB SW s && (wordB LW k && (isTy .bool e && (lenB 0 3 ks && (lenB 0 2 ac && (kindsB l ks && actB w l ac))))))))) := rfl
      refine ⟨by decide, ?_⟩
      refine sp_is_integer_within hw ?_
      by_cases cw : intIn 1 3 w = true
      case neg => simp [cw]; simpa [rb, cw] using q
      simp [-Bool.exists_bool, cw, a1]
      refine sp_is_integer_within hll ?_
      by_cases cl : intIn 1 3 l = true
      case neg => simp [cl]; simpa [rb, cl] using q
      simp [-Bool.exists_bool, cl, a2]
      refine sp_is_integer_within hr ?_
      by_cases cr : intIn 1 3 r = true
      case neg => simp [cr]; simpa [rb, cr] using q
      simp [-Bool.exists_bool, cr, a3]
      refine sp_is_word_of (ws := SW) rfl hs ?_
      by_cases cs : wordB SW s = true
      case neg => simp [cs]; simpa [rb, cs] using q
      simp [-Bool.exists_bool, cs, a5]
      refine sp_is_word_of (ws := LW) rfl hk ?_
      by_cases ck : wordB LW k = true
      case neg => simp [ck]; simpa [rb, ck] using q
      simp [-Bool.exists_bool, ck, a4, run_isi, he]
      by_cases ce : isTy .bool e = true
      case neg => simp [ce]; simpa [rb, ce] using q
      simp [-Bool.exists_bool, ce, a6]
      refine sp_is_tuple_of hks.1.1 ?_
      by_cases cks : lenB 0 3 ks = true
      case neg => simp [cks]; simpa [rb, cks] using q
      simp [-Bool.exists_bool, cks, a7]
      refine sp_is_tuple_of hac.1.1 ?_
      by_cases cac : lenB 0 2 ac = true
      case neg => simp [cac]; simpa [rb, cac] using q
      simp [-Bool.exists_bool, cac, a6]
      cases ks with
      | tup kd =>
        obtain ⟨wi, rfl, hwi⟩ := intIn_elim cw
        obtain ⟨li, rfl, hli⟩ := intIn_elim cl
        have hkd : ∀ y ∈ kd, Has2 st y := hks.2 kd rfl
        have hkl : kd.length ≤ 3 := by simp [lenB] at cks; omega
        rw [seqW_tup]
        refine run_comp_map trivial (fun d => .bl (kindB li d)) (fun d hd => ?_) ?_
        · simp [wipeE, a1]
          exact sp_is_kind (hkd d hd) ⟨rfl, rfl⟩
        · refine ⟨by rw [List.length_map]; exact Nat.le_trans hkl (by decide), _, bools_map _ _, ?_⟩
          by_cases ca : kd.all (kindB li) = true
          · have n : ¬ false ∈ kd.map (kindB li) := by
              intro z
              obtain ⟨y, hy, e⟩ := List.mem_map.mp z
              rw [List.all_eq_true.mp ca y hy] at e; cases e
            rw [if_neg n]
            refine sp_places_of hwi ?_
            refine sp_are_numbers_below hac.1 ?_
            simpa [rb, cw, cl, cr, cs, ck, ce, cks, cac, kindsB, ca, actB] using q
          · have n : false ∈ kd.map (kindB li) := by
              rw [List.all_eq_true] at ca
              simp only [Classical.not_forall] at ca
              obtain ⟨y, hy, e⟩ := ca
              exact List.mem_map.mpr ⟨y, hy, by simpa using e⟩
            rw [if_pos n]
            simpa [rb, cw, cl, cr, cs, ck, ce, cks, cac, kindsB, ca, actB] using q
      | _ => simp [lenB] at cks
    | _ => simp [lenB] at c8
  · have rb : ruleB d = false := by
      cases d with
      | tup ds =>
        match ds with
        | [w, l, r, s, e, k, ks, ac] => simp [lenB] at c8
        | [] => rfl
        | [_] => rfl
        | [_, _] => rfl
        | [_, _, _] => rfl
        | [_, _, _, _] => rfl
        | [_, _, _, _, _] => rfl
        | [_, _, _, _, _, _] => rfl
        | [_, _, _, _, _, _, _] => rfl
        | _ :: _ :: _ :: _ :: _ :: _ :: _ :: _ :: _ :: _ => rfl
      | _ => rfl
    simp [c8]
    rw [rb] at q
    exact q
end DL
namespace DL
open PySem
/-! ### the pool of a number a turn: [rest, whether it holds more, turns, its own number]; b: how many turns at most -/
theorem eqPy_int {i j : Int} {st : Store} : eqPy (.int i) (.int j) st = some (i == j) := by
  show (if (SeqAt.shaped (.int i) && SeqAt.shaped (.int j)) = true then some (PyData.eqv (.int i) (.int j)) else none) = _
  rw [if_pos (by rfl)]
  rfl
def PoolOk (b : Nat) (st : Store) (p : Nat) : Prop := ∃ a f t k : Int, st[p]? = some (.lst [.int a, .int f, .int t, .int k]) ∧ 0 ≤ t ∧ t ≤ b
structure Go (b p : Nat) (st st' : Store) : Prop where
  le : st.length ≤ st'.length
  pool : PoolOk b st' p
  keep : ∀ n, n ≠ p → n < st.length → st'[n]? = st[n]?
theorem PoolOk.lt {b : Nat} {st : Store} {p : Nat} (h : PoolOk b st p) : p < st.length := by
  obtain ⟨a, f, t, k, h, _⟩ := h
  exact (List.getElem?_eq_some_iff.mp h).1
theorem PoolOk.up {b b' : Nat} {st : Store} {p : Nat} (h : PoolOk b st p) (hb : b ≤ b') : PoolOk b' st p := by
  obtain ⟨a, f, t, k, h, h0, h1⟩ := h
  exact ⟨a, f, t, k, h, h0, by omega⟩
theorem PoolOk.more {b : Nat} {st m : Store} {p : Nat} (h : PoolOk b st p) : PoolOk b (st ++ m) p := by
  have hl := h.lt
  obtain ⟨a, f, t, k, h, h2⟩ := h
  exact ⟨a, f, t, k, by rw [List.getElem?_append_left hl]; exact h, h2⟩
theorem PoolOk.other {b : Nat} {st : Store} {p n : Nat} {c : Cell} (h : PoolOk b st p) (hp : n ≠ p) : PoolOk b (st.set n c) p := by
  obtain ⟨a, f, t, k, h, h2⟩ := h
  exact ⟨a, f, t, k, by rw [List.getElem?_set_ne hp]; exact h, h2⟩
theorem Go.refl {b p : Nat} {st : Store} (h : PoolOk b st p) : Go b p st st := ⟨Nat.le_refl _, h, fun _ _ _ => rfl⟩
theorem Go.more {b p : Nat} {st m : Store} (h : PoolOk b st p) : Go b p st (st ++ m) := ⟨by simp, h.more, fun n _ hl => List.getElem?_append_left hl⟩
theorem Go.trans {b c p : Nat} {x y z : Store} (h : Go b p x y) (g : Go c p y z) : Go c p x z := ⟨Nat.le_trans h.le g.le, g.pool, fun n hn hl => (g.keep n hn (Nat.lt_of_lt_of_le hl h.le)).trans (h.keep n hn hl)⟩
theorem Go.up {b c p : Nat} {x y : Store} (h : Go b p x y) (hb : b ≤ c) : Go c p x y := ⟨h.le, h.pool.up hb, h.keep⟩
theorem mulOk_r {i j : Int} (h : j.natAbs < 2 ^ 64) : mulOk i j = true := by
  unfold mulOk
  simp only [h, decide_true, Bool.or_true, Bool.true_or]
theorem mulOk_l {i j : Int} (h : i.natAbs < 2 ^ 64) : mulOk i j = true := by
  unfold mulOk
  simp only [h, decide_true, Bool.or_true, Bool.true_or]
theorem mulOk_w {i j : Int} (hi : i.natAbs < 2 ^ 400) (hj : j.natAbs < 2 ^ 400) : mulOk i j = true := by
  unfold mulOk
  simp only [hi, hj, decide_true, Bool.and_true, Bool.or_true]
theorem mod_lt {x m : Int} (h : 0 < m) (hm : m < 2 ^ 62) : (x % m).natAbs < 2 ^ 63 := by
  have h1 := Int.emod_nonneg x (show m ≠ 0 by omega)
  have h2 := Int.emod_lt_of_pos x h
  omega
theorem cell_of {st : Store} {n : Nat} {ds : List D} (h : st[n]? = some (.lst ds)) : cellItems st n = some ds := by unfold cellItems; rw [h]
theorem sp_draw {b : Nat} {st : Store} {p : Nat} {many : Int} {Q : D → Store → Prop} (h : PoolOk b st p) (hb : b ≤ 2 ^ 40) (h0 : 0 < many) (h1 : many < 2 ^ 62) (q : ∀ j st', 0 ≤ j → j < many → Go (b + 1) p st st' → Q (.int j) st') : Run (g__law_draw [.rf p, .int many]) st Q := by
  have hlt := h.lt
  obtain ⟨a, f, t, k, hp, ht0, ht1⟩ := h
  have hc := cell_of hp
  unfold g__law_draw b__law_draw r__law_draw_9
  refine (run_gFn (by rfl)).mpr ?_
  have a0 : ∀ x y z w : D, atD [x, y, z, w] 0 = some x := fun _ _ _ _ => rfl
  have a1 : ∀ x y z w : D, atD [x, y, z, w] 1 = some y := fun _ _ _ _ => rfl
  have a2 : ∀ x y z w : D, atD [x, y, z, w] 2 = some z := fun _ _ _ _ => rfl
  have a3 : ∀ x y z w : D, atD [x, y, z, w] 3 = some w := fun _ _ _ _ => rfl
  simp [-Bool.exists_bool, startE, hc, a1]
  refine ⟨_, eqPy_int, ?_⟩
  by_cases cf : f = 1
  · rw [if_pos (by simpa using cf)]
    unfold r__law_draw_2
    simp [-Bool.exists_bool, hc, a0]
    refine ⟨by omega, ?_⟩
    unfold r__law_draw_1
    simp [-Bool.exists_bool, hc, a0]
    refine ⟨⟨h0, by omega⟩, _, hp, 0, rfl, ?_⟩
    have hset : ([D.int a, D.int f, D.int t, D.int k] : List D).set 0 (D.int (a / many)) = [D.int (a / many), D.int f, D.int t, D.int k] := rfl
    rw [hset]
    refine q _ _ (Int.emod_nonneg _ (by omega)) (Int.emod_lt_of_pos _ h0) ⟨by rw [List.length_set]; exact Nat.le_refl _, ⟨_, _, _, _, List.getElem?_set_self hlt, ht0, by omega⟩, fun n hn hl => List.getElem?_set_ne (Ne.symm hn)⟩
  · rw [if_neg (by simpa using cf)]
    unfold r__law_draw_8
    simp [-Bool.exists_bool, hc, a2]
    refine ⟨_, hp, 2, rfl, ?_⟩
    have hset : ([D.int a, D.int f, D.int t, D.int k] : List D).set 2 (D.int (t + 1)) = [D.int a, D.int f, D.int (t + 1), D.int k] := rfl
    rw [hset]
    have hS : (st.set p (.lst [.int a, .int f, .int (t + 1), .int k]))[p]? = some (.lst [.int a, .int f, .int (t + 1), .int k]) := List.getElem?_set_self hlt
    have g : Go (b + 1) p st (st.set p (.lst [.int a, .int f, .int (t + 1), .int k])) := ⟨by rw [List.length_set]; exact Nat.le_refl _, ⟨_, _, _, _, hS, by omega, by omega⟩, fun n hn hl => List.getElem?_set_ne (Ne.symm hn)⟩
    have hc2 := cell_of hS
    generalize st.set p (.lst [.int a, .int f, .int (t + 1), .int k]) = S at g hc2 ⊢
    have ht : 0 ≤ t + 1 ∧ t + 1 ≤ 2 ^ 41 := by omega
    generalize t + 1 = u at ht hc2 ⊢
    unfold r__law_draw_7
    simp [-Bool.exists_bool, hc2, a0, a3]
    refine ⟨mulOk_r (by decide), ?_⟩
    have hm1 := mod_lt (x := a * 7 + k + 1) (m := 1000000007) (by decide) (by decide)
    generalize (a * 7 + k + 1) % 1000000007 = m1 at hm1 ⊢
    unfold r__law_draw_6
    simp [-Bool.exists_bool, hc2, a2]
    unfold r__law_draw_5
    simp [-Bool.exists_bool]
    refine ⟨mulOk_l (by decide), mulOk_l (by omega), mulOk_r (by decide), mulOk_l (by omega), mulOk_r (by decide), ?_⟩
    generalize hz2 : ((m1 + 3) * (2 * u + 1) * 69069 + u * u * 40503) = z2
    have hm2 := mod_lt (x := z2) (m := 2147483629) (by decide) (by decide)
    generalize z2 % 2147483629 = m2 at hm2 ⊢
    unfold r__law_draw_4
    simp [-Bool.exists_bool]
    refine ⟨mulOk_l (by omega), mulOk_l (by decide), ?_⟩
    have hm3 := mod_lt (x := m2 * m2 + 977 * u) (m := 2147483587) (by decide) (by decide)
    generalize (m2 * m2 + 977 * u) % 2147483587 = m3 at hm3 ⊢
    unfold r__law_draw_3
    simp [-Bool.exists_bool]
    refine ⟨mulOk_l (by omega), by omega, ?_⟩
    exact q _ _ (Int.emod_nonneg _ (by omega)) (Int.emod_lt_of_pos _ h0) g
end DL
namespace DL
open PySem
theorem sp_pool {ns : List Int} {k : Int} (hk : 0 ≤ k) {st : Store} {Q : D → Store → Prop} (q : ∀ m, PoolOk 0 (st ++ m) st.length → Q (.rf st.length) (st ++ m)) : Run (g__law_pool [.cl (ns.map D.int), .int k]) st Q := by
  unfold g__law_pool b__law_pool r__law_pool_3
  refine (run_gFn (by rfl)).mpr ?_
  simp [-Bool.exists_bool, startE]
  unfold r__law_pool_2
  have tail : ∀ c : Int, Run (r__law_pool_1 [some (.cl (ns.map D.int)), some (.int k), some (.int c)]) st (fnQ Q) := fun c => by
    unfold r__law_pool_1
    simp [-Bool.exists_bool]
    have fin : ∀ a f : Int, Q (.rf st.length) (st ++ [Cell.lst [.int a, .int f, .int 0, .int k]]) := fun a f => q _ ⟨a, f, 0, k, by simp, by decide, by decide⟩
    by_cases c1 : 1000000000000000000 ≤ c
    · rw [if_pos c1]
      exact ⟨by decide, fin _ _⟩
    · rw [if_neg c1]
      exact ⟨by decide, fin _ _⟩
  simp [-Bool.exists_bool]
  by_cases c : k < (ns.length : Int)
  · rw [if_pos c]
    obtain ⟨n, rfl⟩ : ∃ n : Nat, k = n := ⟨k.toNat, by omega⟩
    have hn : n < ns.length := by omega
    have hat : atD (ns.map D.int) (n : Int) = some (.int ns[n]) := by
      rw [atD_nat (by rw [List.length_map]; exact hn), List.getElem?_map, List.getElem?_eq_getElem hn]; rfl
    refine (run_ixC hat).mpr ?_
    simp [-Bool.exists_bool]
    exact tail _
  · rw [if_neg c]
    exact tail 0
/-- the bits of a number -/
theorem atD_mem {α : Type} {xs : List α} {i : Int} (h0 : 0 ≤ i) (h1 : i < xs.length) : ∃ x ∈ xs, atD xs i = some x := by
  obtain ⟨n, rfl⟩ : ∃ n : Nat, i = n := ⟨i.toNat, by omega⟩
  have hn : n < xs.length := by omega
  exact ⟨xs[n], List.getElem_mem hn, by rw [atD_nat hn, List.getElem?_eq_getElem hn]⟩
def partF (n : Int) (many : Nat) : List Int := ((List.range many).filter fun k => n / 2 ^ k % 2 == 1).map fun (k : Nat) => (k : Int)
theorem part_asc (n lim : Int) : ∀ (many : Nat), (many : Int) ≤ lim → ascB lim 0 ((partF n many).map D.int) = true := by
  have key : ∀ (m s : Nat), ((s + m : Nat) : Int) ≤ lim → ∀ least : Int, least ≤ s → ascB lim least ((((List.range' s m).filter fun k => n / 2 ^ k % 2 == 1).map fun (k : Nat) => (k : Int)).map D.int) = true := by
    intro m
    induction m with
    | zero => intro s _ least _; rfl
    | succ m ih =>
      intro s h least hl
      rw [List.range'_succ, List.filter_cons]
      split
      · rw [List.map_cons, List.map_cons]
        unfold ascB
        rw [Bool.and_eq_true]
        refine ⟨?_, ih (s + 1) (by omega) _ (by omega)⟩
        simp [intIn]
        omega
      · exact ih (s + 1) (by omega) least (by omega)
  intro many h
  unfold partF
  rw [List.range_eq_range']
  exact key many 0 (by omega) 0 (by omega)
def twoL : List D := [.int 1, .int 2, .int 4, .int 8, .int 16, .int 32, .int 64, .int 128]
theorem two_at {k : Nat} (h : k < 8) : atD twoL (k : Int) = some (.int (2 ^ k)) := by
  have hk : k = 0 ∨ k = 1 ∨ k = 2 ∨ k = 3 ∨ k = 4 ∨ k = 5 ∨ k = 6 ∨ k = 7 := by omega
  rcases hk with rfl | rfl | rfl | rfl | rfl | rfl | rfl | rfl <;> rfl
theorem pow_pos2 (k : Nat) : (0 : Int) < 2 ^ k := Int.pow_pos (by decide)
theorem pow_lt2 {k : Nat} (h : k < 8) : ((2 : Int) ^ k).natAbs < 2 ^ 400 := by
  have hk : k = 0 ∨ k = 1 ∨ k = 2 ∨ k = 3 ∨ k = 4 ∨ k = 5 ∨ k = 6 ∨ k = 7 := by omega
  rcases hk with rfl | rfl | rfl | rfl | rfl | rfl | rfl | rfl <;> decide
end DL
namespace DL
open PySem
theorem run_comp_fmX {α : Type} {ρ : Env} {st : Store} {g : GG} {gd : Store → Prop} {e : GE} {t : GT} (hd : gd st) (en : α → D) (F : α → Option D) {xs : List α} {QA : List D → Store → Prop}
    (step : ∀ a ∈ xs, Run (g (en a) ρ) st fun ρ1 s1 => s1 = st ∧ Run (t ρ1) st fun k s2 => s2 = st ∧ if k = true then Run (e ρ1) st fun x s3 => F a = some x ∧ s3 = st else F a = none) (q : QA (xs.filterMap F) st) : Run (gComp gd g t e ρ (xs.map en)) st QA := by
  refine (run_comp (fun l' acc s => s = st ∧ ∃ ys : List α, (∀ y ∈ ys, y ∈ xs) ∧ l' = ys.map en ∧ acc ++ ys.filterMap F = xs.filterMap F) (fun _ _ s h => by rw [h.1]; exact hd) ?_ (xs.map en) [] st ⟨rfl, xs, fun _ h => h, rfl, rfl⟩).mono ?_
  · rintro d l' acc s ⟨rfl, ys, hm, hl, ha⟩
    cases ys with
    | nil => cases hl
    | cons y ys =>
      rw [List.map_cons] at hl
      obtain ⟨rfl, rfl⟩ := List.cons.inj hl
      refine (step y (hm y List.mem_cons_self)).mono ?_
      rintro ρ1 s1 ⟨rfl, h⟩
      refine h.mono ?_
      rintro k s2 ⟨rfl, h⟩
      by_cases c : k = true
      · rw [if_pos c] at h ⊢
        refine h.mono ?_
        rintro x s3 ⟨hx, rfl⟩
        exact ⟨rfl, ys, fun z hz => hm z (List.mem_cons_of_mem _ hz), rfl, by rw [← ha, List.filterMap_cons, hx]; simp⟩
      · rw [if_neg c] at h ⊢
        exact ⟨rfl, ys, fun z hz => hm z (List.mem_cons_of_mem _ hz), rfl, by rw [← ha, List.filterMap_cons, h]⟩
  · rintro ds s ⟨rfl, ys, _, hl, h⟩
    cases ys with
    | nil => simp at h; rw [h]; exact q
    | cons y ys => cases hl
theorem part_fm (n : Int) (many : Nat) : ((List.range many).filterMap fun k : Nat => if (n / 2 ^ k % 2 == 1) = true then some (D.int (k : Int)) else none) = (partF n many).map D.int := by
  unfold partF
  induction List.range many with
  | nil => rfl
  | cons k l ih =>
    rw [List.filterMap_cons, List.filter_cons]
    by_cases c : (n / 2 ^ k % 2 == 1) = true
    · rw [if_pos c, if_pos c]
      simp only [List.map_cons]
      rw [ih]
    · rw [if_neg c, if_neg c]
      exact ih
def twoG : GA := gLst (gCons (gC (.int 1)) (gCons (gC (.int 2)) (gCons (gC (.int 4)) (gCons (gC (.int 8)) (gCons (gC (.int 16)) (gCons (gC (.int 32)) (gCons (gC (.int 64)) (gCons (gC (.int 128)) gNil))))))))
theorem run_twoG {ρ : Env} {st : Store} {Q : List D → Store → Prop} (q : Q twoL st) : Run (twoG ρ) st Q := by
  unfold twoG
  simp
  exact ⟨by decide, q⟩
def partT : GT := (tB (gOp vEq (gOp vMod (gUn vInt (gOp vDiv (gVar 0) (gIxL twoG (gVar 2)))) (gC (.int 2))) (gC (.int 1))))
theorem part_is : b__law_part = gRet (gTupOf (gLc (wRange (gVar 1)) (gName 2) partT (gVar 2) [2])) := rfl
theorem run_partT {n : Int} {k : Nat} (hk : k < 8) {v : Option D} {st : Store} {Q : Bool → Store → Prop} (q : Q (n / 2 ^ k % 2 == 1) st) : Run (partT [some (.int n), v, some (.int k)]) st Q := by
  unfold partT
  simp [-Bool.exists_bool]
  refine run_twoG ?_
  refine ⟨_, two_at hk, ?_⟩
  have hp := pow_pos2 k
  refine (run_divI).mpr ⟨⟨by omega, pow_lt2 hk⟩, ?_⟩
  simp [-Bool.exists_bool]
  exact ⟨_, eqPy_int, q⟩
theorem sp_part {n l : Int} (h0 : 0 ≤ l) (h8 : l ≤ 8) {st : Store} {Q : D → Store → Prop} (q : Q (.tup ((partF n l.toNat).map D.int)) st) : Run (g__law_part [.int n, .int l]) st Q := by
  have hsm : smallI l = true := by unfold smallI; simp; omega
  have hlen : ((partF n l.toNat).map D.int).length ≤ SZ := by
    rw [List.length_map]
    unfold partF
    rw [List.length_map]
    exact Nat.le_trans (List.length_filter_le _ _) (by rw [List.length_range]; exact Nat.le_trans (show l.toNat ≤ 8 by omega) (by decide))
  unfold g__law_part
  rw [part_is]
  refine (run_gFn (by rfl)).mpr ?_
  simp [-Bool.exists_bool, startE]
  refine ⟨hsm, ?_⟩
  rw [show fromTo 0 l.toNat = (List.range l.toNat).map fun i : Nat => D.int ((0 : Int) + (i : Int)) from rfl]
  refine run_comp_fmX trivial (fun i : Nat => D.int ((0 : Int) + (i : Int))) (fun k : Nat => if (n / 2 ^ k % 2 == 1) = true then some (D.int (k : Int)) else none) ?_ ?_
  · intro i hi
    rw [List.mem_range] at hi
    simp [-Bool.exists_bool, wipeE]
    refine run_partT (by omega) ?_
    by_cases c : (n / 2 ^ i % 2 == 1) = true
    · rw [if_pos c]
      exact ⟨rfl, by simpa using c⟩
    · rw [if_neg c]
      exact ⟨rfl, by simpa using c⟩
  · rw [part_fm]
    exact ⟨hlen, q⟩
end DL
namespace DL
open PySem
section
variable {ρ : Env} {st : Store} {QA : List D → Store → Prop}
theorem run_gSortS {a : GA} : Run (gSortS a ρ) st QA ↔ Run (a ρ) st fun ds s => ∃ ns, intsD ds = some ns ∧ ns.length < 64 ∧ QA ((setI ns).map D.int) s := by
  unfold gSortS
  rw [run_then]
  have key : ∀ ds s, Run (sortSD ds) s QA ↔ ∃ ns, intsD ds = some ns ∧ ns.length < 64 ∧ QA ((setI ns).map D.int) s := fun ds s => by
    unfold sortSD
    cases e : intsD ds with
    | none => simp [Run, bad]
    | some ns =>
      by_cases c : ns.length < 64
      · simp [c]
      · simp [c, Run, bad]
  simp only [key]
theorem run_gSortSP {a : GE} : Run (gSortSP a ρ) st QA ↔ Run (a ρ) st fun d s => ∃ ds ps, d = .tup ds ∧ pairsI ds = some ps ∧ ps.length < 64 ∧ QA ((setP ps).map pairD) s := by
  unfold gSortSP
  rw [run_then]
  have key : ∀ d s, Run (sortSP d) s QA ↔ ∃ ds ps, d = .tup ds ∧ pairsI ds = some ps ∧ ps.length < 64 ∧ QA ((setP ps).map pairD) s := fun d s => by
    unfold sortSP
    cases d with
    | tup ds =>
      cases e : pairsI ds with
      | none => simp [Run, bad, e]
      | some ns =>
        by_cases c : ns.length < 64
        · simp [c, e]
        · simp [c, Run, bad, e]
    | _ => simp [Run, bad]
  simp only [key]
end
theorem mem_onceI' : ∀ {ns : List Int} {k : Int}, k ∈ onceI ns ↔ k ∈ ns
  | [], k => by simp [onceI]
  | n :: ns, k => by
    unfold onceI
    by_cases c : n ∈ ns
    · rw [if_pos c, mem_onceI', List.mem_cons]
      exact ⟨.inr, fun h => h.elim (fun e => e ▸ c) id⟩
    · rw [if_neg c, List.mem_cons, List.mem_cons, mem_onceI']
theorem nodup_onceI' : ∀ ns : List Int, (onceI ns).Nodup
  | [] => List.nodup_nil
  | n :: ns => by
    unfold onceI
    by_cases c : n ∈ ns
    · rw [if_pos c]; exact nodup_onceI' ns
    · rw [if_neg c]; exact List.nodup_cons.mpr ⟨fun h => c (mem_onceI'.mp h), nodup_onceI' ns⟩
theorem once_len : ∀ ns : List Int, (onceI ns).length ≤ ns.length
  | [] => Nat.le_refl _
  | n :: ns => by
    have := once_len ns
    unfold onceI
    split
    · rw [List.length_cons]; omega
    · rw [List.length_cons, List.length_cons]; omega
theorem setI_mem {ns : List Int} {k : Int} : k ∈ setI ns ↔ k ∈ ns := by
  unfold setI sortI
  rw [List.mem_mergeSort, mem_onceI']
theorem setI_len (ns : List Int) : (setI ns).length ≤ ns.length := by
  unfold setI sortI
  rw [List.length_mergeSort]
  exact once_len ns
theorem setI_lt (ns : List Int) : (setI ns).Pairwise (· < ·) := by
  have h1 : (setI ns).Pairwise fun a b => decide (a ≤ b) = true := by
    unfold setI sortI
    refine List.pairwise_mergeSort (fun a b c h1 h2 => ?_) (fun a b => ?_) _
    · simp only [decide_eq_true_eq] at h1 h2 ⊢; omega
    · simp only [Bool.or_eq_true, decide_eq_true_eq]; omega
  have h2 : (setI ns).Nodup := by
    unfold setI sortI
    exact (List.mergeSort_perm _ _).nodup_iff.mpr (nodup_onceI' ns)
  refine (h1.and h2).imp fun {a b} h => ?_
  have := h.1
  simp only [decide_eq_true_eq] at this
  have := h.2
  omega
theorem asc_of {lim : Int} : ∀ (l : List Int) (least : Int), l.Pairwise (· < ·) → (∀ k ∈ l, least ≤ k ∧ k ≤ lim - 1) → ascB lim least (l.map D.int) = true
  | [], _, _, _ => rfl
  | k :: l, least, h, hb => by
    obtain ⟨h1, h2⟩ := List.pairwise_cons.mp h
    have := hb k List.mem_cons_self
    show (intIn least (lim - 1) (.int k) && ascB lim (k + 1) (l.map D.int)) = true
    rw [asc_of l (k + 1) h2 fun j hj => ⟨by have := h1 j hj; omega, (hb j (List.mem_cons_of_mem _ hj)).2⟩]
    simp [intIn, this.1, this.2]
theorem setI_asc {ns : List Int} {lim : Int} (h : ∀ k ∈ ns, 0 ≤ k ∧ k < lim) : ascB lim 0 ((setI ns).map D.int) = true := asc_of _ _ (setI_lt ns) fun k hk => by have := h k (setI_mem.mp hk); omega
def tupI (xs : List Int) : D := .tup (xs.map D.int)
/-- a rule that the law makes -/
structure VR (w l r : Int) (s k : Str) (ks : List (List Int)) (ac : List Int) : Prop where
  hw : 1 ≤ w ∧ w ≤ 3
  hl : 1 ≤ l ∧ l ≤ 3
  hr : 1 ≤ r ∧ r ≤ 3
  hs : s = Str.ofString "whole" ∨ s = Str.ofString "parts" ∨ s = Str.ofString "filled"
  hk : k = Str.ofString "into" ∨ k = Str.ofString "past" ∨ k = Str.ofString "first"
  hks : ks.length ≤ 3 ∧ ∀ x ∈ ks, kindB l (tupI x) = true
  hac : ac.length ≤ 2 ∧ ascB (w * l) 0 (ac.map D.int) = true
def ruleD (w l r : Int) (s k : Str) (e : Bool) (ks : List (List Int)) (ac : List Int) : D := .tup [.int w, .int l, .int r, .str s, .bl e, .str k, .tup (ks.map tupI), tupI ac]
theorem kind_part {n l : Int} (hl : 1 ≤ l ∧ l ≤ 3) (h1 : 1 ≤ n) (h2 : n ≤ (if l = 1 then 1 else if l = 2 then 3 else 7)) : kindB l (tupI (partF n l.toNat)) = true := by
  have hl' : l = 1 ∨ l = 2 ∨ l = 3 := by omega
  rcases hl' with rfl | rfl | rfl
  · have : n = 1 := by simp at h2; omega
    subst this; decide
  · have : n = 1 ∨ n = 2 ∨ n = 3 := by simp at h2; omega
    rcases this with rfl | rfl | rfl <;> decide
  · have : n = 1 ∨ n = 2 ∨ n = 3 ∨ n = 4 ∨ n = 5 ∨ n = 6 ∨ n = 7 := by simp at h2; omega
    rcases this with rfl | rfl | rfl | rfl | rfl | rfl | rfl <;> decide
theorem ints_of (ns : List Int) : intsD (ns.map D.int) = some ns := by
  unfold intsD
  induction ns with
  | nil => rfl
  | cons x xs ih =>
    rw [List.map_cons, List.map_cons]
    show (optAll _).map (x :: ·) = _
    rw [ih]; rfl
theorem smallI_of {i : Int} (h0 : 0 ≤ i) (h1 : i ≤ 1000000) : smallI i = true := by
  unfold smallI
  simp
  omega
theorem fromTo_len (i : Int) (n : Nat) : (fromTo i n).length = n := by unfold fromTo; simp
theorem rule_1 {b p n : Nat} {wd w l r : Int} {s k : Str} {e : Bool} {ks : List (List Int)} {v9 v10 : Option D} {st : Store} {Q : D → Store → Prop} (hp : PoolOk b st p) (hb : b ≤ 2 ^ 35) (hn : st[n]? = some (.lst (ks.map tupI))) (hnp : n ≠ p)
    (hw : 1 ≤ w ∧ w ≤ 3) (hl : 1 ≤ l ∧ l ≤ 3) (Qq : ∀ ac st', Go (b + 3) p st st' → ac.length ≤ 2 → ascB (w * l) 0 (ac.map D.int) = true → Q (ruleD w l r s k e ks ac) st') :
    Run (r__law_rule_1 [some (.rf p), some (.int wd), some (.int w), some (.int l), some (.int r), some (.str s), some (.bl e), some (.str k), some (.rf n), v9, v10]) st (fnQ Q) := by
  have hwl : 1 ≤ w * l ∧ w * l ≤ 9 := by
    have hw' : w = 1 ∨ w = 2 ∨ w = 3 := by omega
    rcases hw' with rfl | rfl | rfl <;> omega
  have hlp := hp.lt
  unfold r__law_rule_1
  simp [-Bool.exists_bool]
  refine sp_draw hp (by omega) (by decide) (by decide) fun d st1 hd0 hd1 g1 => ?_
  refine ⟨d, rfl, smallI_of hd0 (by omega), ?_⟩
  refine (run_comp (fun L acc s' => ∃ as : List Int, Go (b + 1 + as.length) p st1 s' ∧ L.length + as.length = d.toNat ∧ acc = as.map D.int ∧ ∀ a ∈ as, 0 ≤ a ∧ a < w * l) (fun _ _ _ _ => trivial) ?_ (fromTo 0 d.toNat) [] st1 ⟨[], Go.refl g1.pool, by rw [fromTo_len]; simp, rfl, fun a h => by cases h⟩).mono ?_
  · rintro x L acc s3 ⟨as, gs, hl2, rfl, ha⟩
    simp [-Bool.exists_bool, wipeE]
    rw [List.length_cons] at hl2
    refine ⟨mulOk_r (by omega), ?_⟩
    refine sp_draw gs.pool (by omega) (by omega) (by omega) fun j st4 j0 j1 g4 => ?_
    refine ⟨as ++ [j], by rw [List.length_append, List.length_singleton]; exact gs.trans g4, by rw [List.length_append, List.length_singleton]; omega, by simp, fun a h => ?_⟩
    rcases List.mem_append.mp h with h | h
    · exact ha a h
    · rw [List.mem_singleton] at h; rw [h]; exact ⟨j0, j1⟩
  · rintro ds s3 ⟨as, gs, hl2, he, ha⟩
    rw [List.nil_append] at he
    subst he
    simp at hl2
    refine ⟨by rw [List.length_map]; exact Nat.le_trans (show as.length ≤ 2 by omega) (by decide), ?_⟩
    have hG := g1.trans gs
    have hn3 : s3[n]? = some (.lst (ks.map tupI)) := by rw [hG.keep n hnp (List.getElem?_eq_some_iff.mp hn).1]; exact hn
    have hl3 := (List.getElem?_eq_some_iff.mp hn3).1
    refine ⟨ks.map tupI, by unfold cellItems; rw [List.getElem?_append_left hl3, hn3], ?_⟩
    rw [run_gSortS, run_gSeen]
    simp [-Bool.exists_bool]
    refine ⟨as.map D.int, by unfold cellItems; simp, as, ints_of as, by omega, by decide, ?_⟩
    have hsl := setI_len as
    exact Qq (setI as) _ ((hG.up (show b + 1 + as.length ≤ b + 3 by omega)).trans (Go.more (hG.up (show b + 1 + as.length ≤ b + 3 by omega)).pool)) (by omega) (setI_asc ha)
def invRule (b p n : Nat) (wd w l r : Int) (s k : Str) (e : Bool) (st1 : Store) (c : Nat) (L : List D) (ρ : Env) (s' : Store) : Prop :=
  ∃ (ks : List (List Int)) (v9 : Option D), ρ = [some (.rf p), some (.int wd), some (.int w), some (.int l), some (.int r), some (.str s), some (.bl e), some (.str k), some (.rf n), v9, none] ∧ PoolOk (b + ks.length) s' p ∧ s'[n]? = some (.lst (ks.map tupI)) ∧
    st1.length ≤ s'.length ∧ (∀ m, m ≠ p → m ≠ n → m < st1.length → s'[m]? = st1[m]?) ∧ ks.length + L.length = c ∧ ∀ x ∈ ks, kindB l (tupI x) = true
theorem rule_2 {b p n : Nat} {wd w l r : Int} {s k : Str} {e : Bool} {st : Store} {Q : D → Store → Prop} (hp : PoolOk b st p) (hb : b ≤ 2 ^ 30) (hn : st[n]? = some (.lst [])) (hnp : n ≠ p)
    (hw : 1 ≤ w ∧ w ≤ 3) (hl : 1 ≤ l ∧ l ≤ 3) (Qq : ∀ ks ac st', PoolOk (b + 7) st' p → st.length ≤ st'.length → (∀ m, m ≠ p → m ≠ n → m < st.length → st'[m]? = st[m]?) → ks.length ≤ 3 → (∀ x ∈ ks, kindB l (tupI x) = true) → ac.length ≤ 2 → ascB (w * l) 0 (ac.map D.int) = true → Q (ruleD w l r s k e ks ac) st') :
    Run (r__law_rule_2 [some (.rf p), some (.int wd), some (.int w), some (.int l), some (.int r), some (.str s), some (.bl e), some (.str k), some (.rf n), none, none]) st (fnQ Q) := by
  unfold r__law_rule_2
  simp [-Bool.exists_bool, run_gFor]
  refine sp_draw hp (by omega) (by decide) (by decide) fun d st1 hd0 hd1 g1 => ?_
  refine ⟨d, rfl, smallI_of hd0 (by omega), ?_⟩
  have hn1 : st1[n]? = some (.lst []) := by rw [g1.keep n hnp (List.getElem?_eq_some_iff.mp hn).1, hn]
  refine run_loop (I := invRule (b + 1) p n wd w l r s k e st1 d.toNat) (fun _ _ _ _ => trivial) ?_ ?_ _ _ _ ⟨[], none, rfl, g1.pool, hn1, Nat.le_refl _, fun _ _ _ _ => rfl, by rw [fromTo_len]; simp, fun x h => by cases h⟩
  · rintro x L ρ s' ⟨ks, v9, rfl, hp1, hk1, hle, hkeep, hlen, hval⟩
    rw [List.length_cons] at hlen
    have hl' : l = 1 ∨ l = 2 ∨ l = 3 := by omega
    have hat : atD [D.int 1, .int 3, .int 7] (l - 1) = some (.int (if l = 1 then 1 else if l = 2 then 3 else 7)) := by
      rcases hl' with rfl | rfl | rfl <;> rfl
    simp [-Bool.exists_bool]
    refine ⟨by decide, _, hat, ?_⟩
    refine sp_draw hp1 (by omega) (by split <;> first | omega | (split <;> omega)) (by rcases hl' with rfl | rfl | rfl <;> decide) fun z st2 hz0 hz1 g2 => ?_
    refine sp_part (by omega) (by omega) ?_
    have hn2 : st2[n]? = some (.lst (ks.map tupI)) := by rw [g2.keep n hnp (List.getElem?_eq_some_iff.mp hk1).1, hk1]
    simp [-Bool.exists_bool, hn2]
    refine ⟨Nat.lt_of_lt_of_le (show ks.length < 4 by omega) (by decide), ?_⟩
    refine ⟨ks ++ [partF (1 + z) l.toNat], _, rfl, by rw [List.length_append, List.length_singleton]; exact g2.pool.other hnp, ?_, ?_, ?_, ?_, ?_⟩
    · rw [List.getElem?_set_self (List.getElem?_eq_some_iff.mp hn2).1]
      simp [tupI]
    · simp; exact Nat.le_trans hle g2.le
    · intro m h1 h2 h3
      rw [List.getElem?_set_ne (Ne.symm h2), g2.keep m h1 (Nat.lt_of_lt_of_le h3 hle), hkeep m h1 h2 h3]
    · rw [List.length_append, List.length_singleton]; omega
    · intro y hy
      rcases List.mem_append.mp hy with hy | hy
      · exact hval y hy
      · have : y = partF (1 + z) l.toNat := by simpa using hy
        subst this
        exact kind_part hl (by omega) (by omega)
  · rintro ρ s' ⟨ks, v9, rfl, hp1, hk1, hle, hkeep, hlen, hval⟩
    rw [fl_nx]
    rw [List.length_nil] at hlen
    have hp2 : PoolOk (b + 4) s' p := hp1.up (by omega)
    refine rule_1 hp2 (by omega) hk1 hnp hw hl fun ac st' g3 ha1 ha2 => Qq ks ac st' g3.pool (Nat.le_trans g1.le (Nat.le_trans hle g3.le)) (fun m h1 h2 h3 => ?_) (by omega) hval ha1 ha2
    rw [g3.keep m h1 (Nat.lt_of_lt_of_le h3 (Nat.le_trans g1.le hle)), hkeep m h1 h2 (Nat.lt_of_lt_of_le h3 g1.le), g1.keep m h1 h3]
theorem sp_law_rule {b p : Nat} {wd : Int} {st : Store} {Q : D → Store → Prop} (hp : PoolOk b st p) (hb : b ≤ 2 ^ 20) (hwd : 1 ≤ wd ∧ wd ≤ 3) (Qq : ∀ w l r s k e ks ac st', Go (b + 13) p st st' → VR w l r s k ks ac → w ≤ wd → Q (ruleD w l r s k e ks ac) st') : Run (g__law_rule [.rf p, .int wd]) st Q := by
  unfold g__law_rule b__law_rule r__law_rule_9
  refine (run_gFn (by rfl)).mpr ?_
  simp [-Bool.exists_bool, startE]
  refine sp_draw hp (by omega) (by omega) (by omega) fun d1 st1 a1 b1 g1 => ?_
  unfold r__law_rule_8
  simp [-Bool.exists_bool]
  refine sp_draw g1.pool (by omega) (by decide) (by decide) fun d2 st2 a2 b2 g2 => ?_
  unfold r__law_rule_7
  simp [-Bool.exists_bool]
  refine sp_draw g2.pool (by omega) (by decide) (by decide) fun d3 st3 a3 b3 g3 => ?_
  unfold r__law_rule_6
  simp [-Bool.exists_bool]
  refine ⟨by decide, ?_⟩
  refine sp_draw g3.pool (by omega) (by decide) (by decide) fun d4 st4 a4 b4 g4 => ?_
  obtain ⟨x4, hx4, e4⟩ := atD_mem (xs := [D.str (Str.ofString "whole"), .str (Str.ofString "parts"), .str (Str.ofString "filled")]) a4 b4
  refine ⟨d4, rfl, x4, e4, ?_⟩
  have hs : ∃ s, x4 = .str s ∧ (s = Str.ofString "whole" ∨ s = Str.ofString "parts" ∨ s = Str.ofString "filled") := by
    simp at hx4
    rcases hx4 with rfl | rfl | rfl
    · exact ⟨_, rfl, .inl rfl⟩
    · exact ⟨_, rfl, .inr (.inl rfl)⟩
    · exact ⟨_, rfl, .inr (.inr rfl)⟩
  obtain ⟨s, rfl, hs⟩ := hs
  unfold r__law_rule_5
  simp [-Bool.exists_bool]
  refine sp_draw g4.pool (by omega) (by decide) (by decide) fun d5 st5 a5 b5 g5 => ?_
  refine ⟨_, eqPy_int, ?_⟩
  unfold r__law_rule_4
  simp [-Bool.exists_bool]
  refine ⟨by decide, ?_⟩
  refine sp_draw g5.pool (by omega) (by decide) (by decide) fun d6 st6 a6 b6 g6 => ?_
  obtain ⟨x6, hx6, e6⟩ := atD_mem (xs := [D.str (Str.ofString "into"), .str (Str.ofString "past"), .str (Str.ofString "first")]) a6 b6
  refine ⟨d6, rfl, x6, e6, ?_⟩
  have hk : ∃ k, x6 = .str k ∧ (k = Str.ofString "into" ∨ k = Str.ofString "past" ∨ k = Str.ofString "first") := by
    simp at hx6
    rcases hx6 with rfl | rfl | rfl
    · exact ⟨_, rfl, .inl rfl⟩
    · exact ⟨_, rfl, .inr (.inl rfl)⟩
    · exact ⟨_, rfl, .inr (.inr rfl)⟩
  obtain ⟨k, rfl, hk⟩ := hk
  unfold r__law_rule_3
  simp [-Bool.exists_bool]
  have hG := ((((g1.trans g2).trans g3).trans g4).trans g5).trans g6
  have hlp := hG.pool.lt
  refine rule_2 (b := b + 6) (hG.pool.more) (by omega) (by simp) (by omega) (by omega) (by omega) fun ks ac st' hp' hle hkeep h1 h2 h3 h4 => ?_
  refine Qq _ _ _ _ _ _ _ _ _ ⟨?_, hp', fun m hm hm2 => ?_⟩ ⟨by omega, by omega, by omega, hs, hk, ⟨h1, h2⟩, h3, h4⟩ (by omega)
  · have := hG.le
    simp at hle
    omega
  · have := hG.le
    rw [hkeep m hm (by omega) (by simp; omega), List.getElem?_append_left (by omega)]
    exact hG.keep m hm hm2
end DL
namespace DL
open PySem
/-- what any object may be: all lists that its tuples name are there -/
inductive HA (st : Store) : D → Prop
  | non : HA st .non
  | bl (b : Bool) : HA st (.bl b)
  | int (i : Int) : HA st (.int i)
  | str (x : Str) : HA st (.str x)
  | tup (ds : List D) (h : ∀ d, d ∈ ds → HA st d) : HA st (.tup ds)
  | rf (n : Nat) (h : ∃ ds, st[n]? = some (.lst ds)) : HA st (.rf n)
section
variable {st st' : Store} {d : D} {ds : List D}
@[simp] theorem ha_non : HA st .non ↔ True := ⟨fun _ => trivial, fun _ => .non⟩
@[simp] theorem ha_bl {b : Bool} : HA st (.bl b) ↔ True := ⟨fun _ => trivial, fun _ => .bl b⟩
@[simp] theorem ha_int {i : Int} : HA st (.int i) ↔ True := ⟨fun _ => trivial, fun _ => .int i⟩
@[simp] theorem ha_str {x : Str} : HA st (.str x) ↔ True := ⟨fun _ => trivial, fun _ => .str x⟩
@[simp] theorem ha_tup : HA st (.tup ds) ↔ ∀ d, d ∈ ds → HA st d := ⟨fun h => by cases h; assumption, .tup ds⟩
@[simp] theorem ha_rf {n : Nat} : HA st (.rf n) ↔ ∃ ds, st[n]? = some (.lst ds) := ⟨fun h => by cases h; assumption, .rf n⟩
theorem HA.has (h : HA st d) : Has st d := by
  cases h with
  | rf n h => exact has_rf.mpr h
  | _ => trivial
theorem HA.has2 (h : HA st d) : Has2 st d := ⟨h.has, fun es e x hx => by subst e; exact (ha_tup.mp h x hx).has⟩
theorem HA.wfR (h : HA st d) : WfR st d := ⟨h.has, fun es e x hx => by
  subst e
  have hx' := ha_tup.mp h x hx
  exact ⟨hx'.has2, fun fs e y hy => by subst e; exact (ha_tup.mp hx' y hy).has2⟩⟩
theorem HA.mono (k : ∀ (n : Nat) ds, st[n]? = some (.lst ds) → ∃ es, st'[n]? = some (.lst es)) (h : HA st d) : HA st' d := by
  induction h with
  | non => exact .non
  | bl b => exact .bl b
  | int i => exact .int i
  | str x => exact .str x
  | tup ds _ ih => exact .tup ds ih
  | rf n h => obtain ⟨es, h⟩ := h; exact .rf n (k n es h)
theorem HA.more {m : Store} (h : HA st d) : HA (st ++ m) d := h.mono fun n es h => ⟨es, by rw [List.getElem?_append_left (List.getElem?_eq_some_iff.mp h).1]; exact h⟩
theorem Go.lists {b p : Nat} (g : Go b p st st') (n : Nat) (ds : List D) (h : st[n]? = some (.lst ds)) : ∃ es, st'[n]? = some (.lst es) := by
  by_cases hn : n = p
  · subst hn
    obtain ⟨a, f, t, k, h1, _⟩ := g.pool
    exact ⟨_, h1⟩
  · exact ⟨ds, by rw [g.keep n hn (List.getElem?_eq_some_iff.mp h).1]; exact h⟩
theorem HA.go {b p : Nat} (g : Go b p st st') (h : HA st d) : HA st' d := h.mono g.lists
theorem ha_tupI (xs : List Int) : HA st (tupI xs) := .tup _ fun d hd => by
  obtain ⟨i, _, rfl⟩ := List.mem_map.mp hd
  exact .int i
theorem ha_ruleD {w l r : Int} {s k : Str} {e : Bool} {ks : List (List Int)} {ac : List Int} : HA st (ruleD w l r s k e ks ac) := .tup _ fun d hd => by
  simp only [List.mem_cons, List.not_mem_nil, or_false] at hd
  rcases hd with rfl | rfl | rfl | rfl | rfl | rfl | rfl | rfl <;> first | exact ha_tupI ac | exact .tup _ (fun d hd => by obtain ⟨x, _, rfl⟩ := List.mem_map.mp hd; exact ha_tupI x) | simp
end
theorem is_rule_at {d : D} {b : Bool} {st : Store} {Q : D → Store → Prop} (hb : ruleB d = b) (h : HA st d) (hl : ∀ ds, d = .tup ds → ds.length ≤ SZ) (q : Q (.bl b) st) : Run (g_is_rule [d]) st Q := sp_is_rule h.wfR hl (by rw [hb]; exact q)
theorem ruleB_true {w l r : Int} {s k : Str} {e : Bool} {ks : List (List Int)} {ac : List Int} (hv : VR w l r s k ks ac) : ruleB (ruleD w l r s k e ks ac) = true := by
  have hs : wordB SW (.str s) = true := by rcases hv.hs with rfl | rfl | rfl <;> decide +kernel
  have hk : wordB LW (.str k) = true := by rcases hv.hk with rfl | rfl | rfl <;> decide +kernel
  have h1 : lenB 0 3 (.tup (ks.map tupI)) = true := by simp [lenB]; have := hv.hks.1; omega
  have h2 : lenB 0 2 (tupI ac) = true := by simp [lenB, tupI]; have := hv.hac.1; omega
  have h3 : kindsB (.int l) (.tup (ks.map tupI)) = true := by
    simp only [kindsB, List.all_map, List.all_eq_true]
    exact hv.hks.2
  have h4 : actB (.int w) (.int l) (tupI ac) = true := hv.hac.2
  simp [ruleD, ruleB, hs, hk, h1, h2, h3, h4, intIn, hv.hw, hv.hl, hv.hr, isTy]
/-! ### programs: which objects are such -/
def PW3 : List D := [.str (Str.ofString "write"), .str (Str.ofString "put"), .str (Str.ofString "read")]
def opB (places : Int) : D → Bool
  | .tup [a] => wordB [.str (Str.ofString "pass")] a
  | .tup [a, b] => wordB PW3 a && intIn 0 (places - 1) b
  | _ => false
def rowB (places kinds rows : Int) : D → Bool
  | .tup [op, f, n] => opB places op && numsB kinds f && numsB rows n
  | _ => false
def rowsB (places kinds : Int) : D → Bool
  | .tup ds => lenB 1 8 (.tup ds) && ds.all (rowB places kinds ds.length)
  | _ => false
section
variable {w l r : Int} {s k : Str} {e : Bool} {ks : List (List Int)} {ac : List Int} {st : Store} {Q : D → Store → Prop} {d : D}
theorem sp_is_operation (hw : 1 ≤ w ∧ w ≤ 3) (h : HA st d) (q : Q (.bl (opB (w * l) d)) st) : Run (g_is_operation [ruleD w l r s k e ks ac, d]) st Q := by
  unfold g_is_operation b_is_operation r_is_operation_2
  refine (run_gFn (by rfl)).mpr ?_
  simp [-Bool.exists_bool, startE]
  refine sp_is_tuple_of h.has ?_
  by_cases c : lenB 1 2 d = true
  case neg =>
    have : opB (w * l) d = false := by
      cases d with
      | tup ds =>
        match ds with
        | [] => rfl
        | [_] => exact absurd rfl c
        | [_, _] => exact absurd rfl c
        | _ :: _ :: _ :: _ => rfl
      | _ => rfl
    rw [this] at q
    simp [c]
    exact q
  cases d with
  | tup ds =>
    simp [-Bool.exists_bool, c]
    unfold r_is_operation_1
    match ds, c with
    | [a], _ =>
      have ha := ha_tup.mp h a (by simp)
      have e0 : atD [a] 0 = some a := rfl
      simp [-Bool.exists_bool, eqPy_int, e0, SZ]
      exact sp_is_word_of (ws := [.str (Str.ofString "pass")]) rfl ha.has q
    | [a, b], _ =>
      have ha := ha_tup.mp h a (by simp)
      have hb := ha_tup.mp h b (by simp)
      have e0 : atD [a, b] 0 = some a := rfl
      have e1 : atD [a, b] 1 = some b := rfl
      simp [-Bool.exists_bool, eqPy_int, e0, e1]
      refine sp_is_word_of (ws := PW3) rfl ha.has ?_
      by_cases c2 : wordB PW3 a = true
      case neg =>
        simp only [opB, c2] at q
        simp [c2]
        exact q
      simp [-Bool.exists_bool, c2]
      refine sp_places_of hw ?_
      simp [-Bool.exists_bool]
      refine sp_is_integer_within hb.has ?_
      simp only [opB, c2] at q
      exact q
    | [], c => exact absurd c (by decide)
    | _ :: _ :: _ :: _, c => simp [lenB] at c; omega
  | _ => cases c
theorem at_kinds : atD [D.int w, .int l, .int r, .str s, .bl e, .str k, .tup (ks.map tupI), tupI ac] 6 = some (.tup (ks.map tupI)) := rfl
theorem sp_is_fenced_operation (hw : 1 ≤ w ∧ w ≤ 3) {o f : D} (ho : HA st o) (hf : HA st f) (q : Q (.bl (opB (w * l) o && numsB ks.length f)) st) : Run (g_is_fenced_operation [ruleD w l r s k e ks ac, .tup [o, f]]) st Q := by
  unfold g_is_fenced_operation b_is_fenced_operation r_is_fenced_operation_2
  refine (run_gFn (by rfl)).mpr ?_
  simp [-Bool.exists_bool, startE]
  refine sp_is_tuple_of trivial ?_
  simp [-Bool.exists_bool, lenB]
  unfold r_is_fenced_operation_1
  simp [-Bool.exists_bool]
  refine sp_is_operation hw ho ?_
  by_cases c : opB (w * l) o = true
  case neg => rw [Bool.not_eq_true] at c; simp only [c] at q ⊢; simp; exact q
  simp only [c] at q ⊢
  simp [-Bool.exists_bool, ruleD, at_kinds]
  refine sp_are_numbers_below hf.has2 ?_
  simpa using q
theorem sp_is_row (hw : 1 ≤ w ∧ w ≤ 3) (h : HA st d) {rows : Int} (q : Q (.bl (rowB (w * l) ks.length rows d)) st) : Run (g_is_row [ruleD w l r s k e ks ac, d, .int rows]) st Q := by
  unfold g_is_row b_is_row r_is_row_2
  refine (run_gFn (by rfl)).mpr ?_
  simp [-Bool.exists_bool, startE]
  refine sp_is_tuple_of h.has ?_
  by_cases c : lenB 3 3 d = true
  case neg =>
    have : rowB (w * l) ks.length rows d = false := by
      cases d with
      | tup ds =>
        match ds with
        | [] => rfl
        | [_] => rfl
        | [_, _] => rfl
        | [_, _, _] => exact absurd rfl c
        | _ :: _ :: _ :: _ :: _ => rfl
      | _ => rfl
    rw [this] at q
    simp [c]
    exact q
  cases d with
  | tup ds =>
    match ds, c with
    | [o, f, n], c =>
      have ho := ha_tup.mp h o (by simp)
      have hf := ha_tup.mp h f (by simp)
      have hn := ha_tup.mp h n (by simp)
      simp [-Bool.exists_bool, c]
      unfold r_is_row_1
      simp [-Bool.exists_bool, SZ]
      refine sp_is_fenced_operation hw ho hf ?_
      by_cases c2 : (opB (w * l) o && numsB ks.length f) = true
      case neg =>
        rw [Bool.not_eq_true] at c2
        simp only [rowB, c2] at q
        rw [c2]
        simp
        exact q
      simp only [rowB, c2] at q
      rw [c2]
      simp [-Bool.exists_bool]
      refine sp_are_numbers_below hn.has2 ?_
      simpa using q
    | [], c => exact absurd c (by decide)
    | [_], c => simp [lenB] at c
    | [_, _], c => simp [lenB] at c
    | _ :: _ :: _ :: _ :: _, c => simp [lenB] at c; omega
  | _ => cases c
theorem sp_has_rows (hw : 1 ≤ w ∧ w ≤ 3) (h : HA st d) (q : Q (.bl (rowsB (w * l) ks.length d)) st) : Run (g_has_rows [ruleD w l r s k e ks ac, d]) st Q := by
  unfold g_has_rows b_has_rows
  refine (run_gFn (by rfl)).mpr ?_
  simp [-Bool.exists_bool, startE]
  refine sp_is_tuple_of h.has ?_
  by_cases c : lenB 1 8 d = true
  case neg =>
    rw [Bool.not_eq_true] at c
    have : rowsB (w * l) ks.length d = false := by
      cases d with
      | tup ds => simp only [rowsB, c, Bool.false_and]
      | _ => rfl
    rw [this] at q
    simp [c]
    exact q
  cases d with
  | tup ds =>
    have hl : ds.length ≤ 8 := by simp [lenB] at c; omega
    simp [-Bool.exists_bool, c]
    refine run_comp_map trivial (fun x => .bl (rowB (w * l) ks.length ds.length x)) ?_ ?_
    · intro x hx
      simp [-Bool.exists_bool, wipeE]
      refine sp_is_row hw (ha_tup.mp h x hx) ?_
      exact ⟨rfl, rfl⟩
    · refine ⟨by rw [List.length_map]; exact Nat.le_trans hl (by decide), ?_⟩
      rw [bools_map]
      simp only [rowsB, c, Bool.true_and] at q
      simpa [List.all_map, Function.comp_def] using q
  | _ => cases c
end
/-- a thing that is no rule is refused -/
theorem sp_check_rule {d : D} {st : Store} {Q : D → Store → Prop} {E : EX} (h : HA st d) (hl : ∀ ds, d = .tup ds → ds.length ≤ SZ) (q : ruleB d = true → Q .non st) (x : ruleB d = false → E "BadRule" .non st) : RunX (g_check_rule [d]) st Q E := by
  unfold g_check_rule b_check_rule
  refine (runX_gFn (by rfl)).mpr ?_
  simp [-Bool.exists_bool, startE]
  refine is_rule_at rfl h hl ?_
  cases e : ruleB d with
  | true => simp [-Bool.exists_bool]; exact q e
  | false => simp [-Bool.exists_bool]; exact x e
section
variable {w l r : Int} {s k : Str} {e : Bool} {ks : List (List Int)} {ac : List Int} {st : Store} {Q : D → Store → Prop} {E : EX} {d : D}
theorem ruleD_len : ∀ ds, ruleD w l r s k e ks ac = .tup ds → ds.length ≤ SZ := fun ds h => by cases h; show 8 ≤ SZ; decide
theorem spx_check_program (hv : VR w l r s k ks ac) (h : HA st d) (q1 : rowsB (w * l) ks.length d = true → Q .non st) (q2 : rowsB (w * l) ks.length d = false → E "BadProgram" .non st) : RunX (g_check_program [ruleD w l r s k e ks ac, d]) st Q E := by
  unfold g_check_program b_check_program r_check_program_1
  refine (runX_gFn (by rfl)).mpr ?_
  simp [-Bool.exists_bool, startE]
  refine sp_check_rule ha_ruleD ruleD_len (fun _ => ?_) (fun c => by rw [ruleB_true hv] at c; cases c)
  refine sp_has_rows hv.hw h ?_
  cases c : rowsB (w * l) ks.length d with
  | true => exact ⟨true, rfl, q1 c⟩
  | false => exact ⟨false, rfl, q2 c⟩
end
end DL
namespace DL
open PySem
section
variable {w l r : Int} {s k : Str} {e : Bool} {ks : List (List Int)} {ac : List Int} {st : Store} {Q : D → Store → Prop}
@[simp] theorem rule_ix0 : Run (vIx (ruleD w l r s k e ks ac) (.int 0)) st Q ↔ Q (.int w) st := by unfold ruleD; simp [atD, ixOf]
@[simp] theorem rule_ix1 : Run (vIx (ruleD w l r s k e ks ac) (.int 1)) st Q ↔ Q (.int l) st := by unfold ruleD; simp [atD, ixOf]
@[simp] theorem rule_ix2 : Run (vIx (ruleD w l r s k e ks ac) (.int 2)) st Q ↔ Q (.int r) st := by unfold ruleD; simp [atD, ixOf]
@[simp] theorem rule_ix3 : Run (vIx (ruleD w l r s k e ks ac) (.int 3)) st Q ↔ Q (.str s) st := by unfold ruleD; simp [atD, ixOf]
@[simp] theorem rule_ix4 : Run (vIx (ruleD w l r s k e ks ac) (.int 4)) st Q ↔ Q (.bl e) st := by unfold ruleD; simp [atD, ixOf]
@[simp] theorem rule_ix5 : Run (vIx (ruleD w l r s k e ks ac) (.int 5)) st Q ↔ Q (.str k) st := by unfold ruleD; simp [atD, ixOf]
@[simp] theorem rule_ix6 : Run (vIx (ruleD w l r s k e ks ac) (.int 6)) st Q ↔ Q (.tup (ks.map tupI)) st := by unfold ruleD; simp [atD, ixOf]
@[simp] theorem rule_ix7 : Run (vIx (ruleD w l r s k e ks ac) (.int 7)) st Q ↔ Q (tupI ac) st := by unfold ruleD; simp [atD, ixOf]
end
theorem eqPy_str {a b : Str} {st : Store} (ha : SeqAt.shaped (.str a) = true := by decide +kernel) (hb : SeqAt.shaped (.str b) = true := by decide +kernel) : eqPy (.str a) (.str b) st = some (a == b) := by
  show (if (SeqAt.shaped (.str a) && SeqAt.shaped (.str b)) = true then some (PyData.eqv (.str a) (.str b)) else none) = _
  rw [if_pos (by rw [ha, hb]; rfl)]
  rfl
inductive Op where
  | write (p : Int) | put (p : Int) | read (p : Int) | pass
def opD : Op → D
  | .write p => .tup [.str (Str.ofString "write"), .int p]
  | .put p => .tup [.str (Str.ofString "put"), .int p]
  | .read p => .tup [.str (Str.ofString "read"), .int p]
  | .pass => .tup [.str (Str.ofString "pass")]
structure Row where
  op : Op
  fences : List Int
  nexts : List Int
def rowD (x : Row) : D := .tup [opD x.op, tupI x.fences, tupI x.nexts]
def progD (xs : List Row) : D := .tup (xs.map rowD)
def opName : Op → Str
  | .write _ => Str.ofString "write" | .put _ => Str.ofString "put" | .read _ => Str.ofString "read" | .pass => Str.ofString "pass"
@[simp] theorem op_ix0 {op : Op} {st : Store} {Q : D → Store → Prop} : Run (vIx (opD op) (.int 0)) st Q ↔ Q (.str (opName op)) st := by cases op <;> simp [opD, opName, atD, ixOf]
@[simp] theorem op_w {p : Int} {st : Store} {Q : D → Store → Prop} : Run (vIx (opD (.write p)) (.int 1)) st Q ↔ Q (.int p) st := by simp [opD, atD, ixOf]
@[simp] theorem op_p {p : Int} {st : Store} {Q : D → Store → Prop} : Run (vIx (opD (.put p)) (.int 1)) st Q ↔ Q (.int p) st := by simp [opD, atD, ixOf]
@[simp] theorem op_r {p : Int} {st : Store} {Q : D → Store → Prop} : Run (vIx (opD (.read p)) (.int 1)) st Q ↔ Q (.int p) st := by simp [opD, atD, ixOf]
theorem opn {st : Store} (op : Op) {b : Str} (hb : SeqAt.shaped (.str b) = true := by decide +kernel) : eqPy (.str (opName op)) (.str b) st = some (opName op == b) := by
  cases op with
  | write p => exact eqPy_str (a := Str.ofString "write") (hb := hb)
  | put p => exact eqPy_str (a := Str.ofString "put") (hb := hb)
  | read p => exact eqPy_str (a := Str.ofString "read") (hb := hb)
  | pass => exact eqPy_str (a := Str.ofString "pass") (hb := hb)
theorem opn_w {st : Store} (op : Op) : eqPy (.str (opName op)) (.str (Str.ofString "write")) st = some (match op with | .write _ => true | _ => false) := by
  rw [opn]; cases op <;> (show some _ = some _; congr 1)
theorem opn_p {st : Store} (op : Op) : eqPy (.str (opName op)) (.str (Str.ofString "put")) st = some (match op with | .put _ => true | _ => false) := by
  rw [opn]; cases op <;> (show some _ = some _; congr 1)
theorem opn_r {st : Store} (op : Op) : eqPy (.str (opName op)) (.str (Str.ofString "read")) st = some (match op with | .read _ => true | _ => false) := by
  rw [opn]; cases op <;> (show some _ = some _; congr 1)
def OpOk (n : Int) : Op → Prop
  | .write p => 0 ≤ p ∧ p < n
  | .put p => 0 ≤ p ∧ p < n
  | .read p => 0 ≤ p ∧ p < n
  | .pass => True
structure RowOk (w l : Int) (ks : List (List Int)) (n : Nat) (x : Row) : Prop where
  op : OpOk (w * l) x.op
  fences : ascB ks.length 0 (x.fences.map D.int) = true
  nexts : ascB n 0 (x.nexts.map D.int) = true
structure ProgOk (w l : Int) (ks : List (List Int)) (xs : List Row) : Prop where
  len : 1 ≤ xs.length ∧ xs.length ≤ 8
  rows : ∀ x ∈ xs, RowOk w l ks xs.length x
theorem ascB_one {lim j : Int} (h0 : 0 ≤ j) (h1 : j < lim) : ascB lim 0 ([j].map D.int) = true := by
  simp [ascB, intIn]
  omega
end DL
namespace DL
open PySem
theorem optAll_some {α β : Type} {f : β → Option α} (g : β → α) : ∀ {l : List β}, (∀ x ∈ l, f x = some (g x)) → optAll (l.map f) = some (l.map g)
  | [], _ => rfl
  | x :: l, h => by
    rw [List.map_cons, List.map_cons, h x List.mem_cons_self]
    show (optAll (l.map f)).map (g x :: ·) = _
    rw [optAll_some g fun y hy => h y (List.mem_cons_of_mem _ hy)]
    rfl
theorem toPy_ints (f : Nat) (st : Store) (xs : List Int) : toPy (f + 2) st (tupI xs) = some (.tuple (xs.map .int)) := by
  show (optAll ((xs.map D.int).map (toPy (f + 1) st))).map PyData.tuple = _
  rw [List.map_map, optAll_some (f := toPy (f + 1) st ∘ D.int) PyData.int (fun x _ => rfl)]
  rfl
theorem lay_ints : ∀ xs : List Int, PyData.canLayAll0 (xs.map .int) = true
  | [] => rfl
  | x :: xs => by
    show (PyData.canLay0 (.int x) && PyData.canLayAll0 (xs.map .int)) = true
    rw [lay_ints xs]; rfl
theorem dep_ints : ∀ xs : List Int, PyData.depthAll (xs.map .int) = 0
  | [] => rfl
  | x :: xs => by
    show max (PyData.depth (.int x)) (PyData.depthAll (xs.map .int)) = 0
    rw [dep_ints xs]; rfl
def okD : Nat → D → Prop
  | 0, _ => False
  | n + 1, .tup ds => ds.length ≤ 100000 ∧ ∀ x ∈ ds, okD n x
  | _ + 1, .str s => SeqAt.shaped (.str s) = true
  | _ + 1, .int _ => True
  | _ + 1, .bl _ => True
  | _ + 1, .non => True
  | _ + 1, _ => False
theorem dat_py : ∀ (n : Nat) (d : D), okD n d → ∃ p, (∀ st f, n ≤ f → toPy f st d = some p) ∧ p.canLay0 = true ∧ p.depth ≤ n
  | 0, d, h => by exact absurd h (by simp [okD])
  | n + 1, d, h => by
    cases d with
    | tup ds =>
      have h2 : ∀ x ∈ ds, okD n x := h.2
      have key : ∀ ds : List D, (∀ x ∈ ds, okD n x) → ∃ ps, (∀ st f, n ≤ f → optAll (ds.map (toPy f st)) = some ps) ∧ PyData.canLayAll0 ps = true ∧ PyData.depthAll ps ≤ n := by
        intro ds
        induction ds with
        | nil => intro _; exact ⟨[], fun _ _ _ => rfl, rfl, Nat.zero_le _⟩
        | cons x ds ih =>
          intro hx
          obtain ⟨p, p1, p2, p3⟩ := dat_py n x (hx x List.mem_cons_self)
          obtain ⟨ps, q1, q2, q3⟩ := ih fun y hy => hx y (List.mem_cons_of_mem _ hy)
          refine ⟨p :: ps, fun st f hf => ?_, ?_, ?_⟩
          · rw [List.map_cons, p1 st f hf]
            show (optAll (ds.map (toPy f st))).map (p :: ·) = _
            rw [q1 st f hf]; rfl
          · show (p.canLay0 && PyData.canLayAll0 ps) = true
            rw [p2, q2]; rfl
          · show max p.depth (PyData.depthAll ps) ≤ n
            omega
      obtain ⟨ps, q1, q2, q3⟩ := key ds h2
      refine ⟨.tuple ps, fun st f hf => ?_, q2, by show PyData.depthAll ps + 1 ≤ _; omega⟩
      obtain ⟨g, rfl⟩ : ∃ g, f = g + 1 := ⟨f - 1, by omega⟩
      show (optAll (ds.map (toPy g st))).map PyData.tuple = _
      rw [q1 st g (by omega)]; rfl
    | int i => exact ⟨.int i, fun st f hf => by obtain ⟨g, rfl⟩ : ∃ g, f = g + 1 := ⟨f - 1, by omega⟩; rfl, rfl, Nat.zero_le _⟩
    | bl b => exact ⟨.bool b, fun st f hf => by obtain ⟨g, rfl⟩ : ∃ g, f = g + 1 := ⟨f - 1, by omega⟩; rfl, rfl, Nat.zero_le _⟩
    | non => exact ⟨.none, fun st f hf => by obtain ⟨g, rfl⟩ : ∃ g, f = g + 1 := ⟨f - 1, by omega⟩; rfl, rfl, Nat.zero_le _⟩
    | str x =>
      have hs : SeqAt.shaped (.str x) = true := h
      unfold SeqAt.shaped at hs
      rw [Bool.and_eq_true] at hs
      exact ⟨.str x, fun st f hf => by obtain ⟨g, rfl⟩ : ∃ g, f = g + 1 := ⟨f - 1, by omega⟩; rfl, hs.1, Nat.zero_le _⟩
    | _ => exact absurd h (by simp [okD])
theorem shaped_of {p : PyData} (h : p.canLay0 = true) (d : p.depth ≤ 60) : SeqAt.shaped p = true := by
  show (p.canLay0 && decide (p.depth ≤ 64)) = true
  rw [h, decide_eq_true (by omega)]; rfl
theorem eqPy_refl {n : Nat} (hn : n ≤ 12) {d : D} (h : okD n d) {st : Store} : eqPy d d st = some true := by
  obtain ⟨p, p1, p2, p3⟩ := dat_py n d h
  unfold eqPy
  rw [p1 st DEEP hn]
  simp only
  rw [shaped_of p2 (by omega)]
  simp [SeqAt.eqv_refl _ p2]
theorem list_py {n : Nat} : ∀ {ds : List D}, (∀ x ∈ ds, okD n x) → ∃ ps, (∀ st f, n ≤ f → optAll (ds.map (toPy f st)) = some ps) ∧ PyData.canLayAll0 ps = true ∧ PyData.depthAll ps ≤ n := by
  intro ds
  induction ds with
  | nil => intro _; exact ⟨[], fun _ _ _ => rfl, rfl, Nat.zero_le _⟩
  | cons x ds ih =>
    intro hx
    obtain ⟨p, p1, p2, p3⟩ := dat_py n x (hx x List.mem_cons_self)
    obtain ⟨ps, q1, q2, q3⟩ := ih fun y hy => hx y (List.mem_cons_of_mem _ hy)
    refine ⟨p :: ps, fun st f hf => ?_, ?_, ?_⟩
    · rw [List.map_cons, p1 st f hf]
      show (optAll (ds.map (toPy f st))).map (p :: ·) = _
      rw [q1 st f hf]; rfl
    · show (p.canLay0 && PyData.canLayAll0 ps) = true
      rw [p2, q2]; rfl
    · show max p.depth (PyData.depthAll ps) ≤ n
      omega
theorem rf_py {n a : Nat} (hn : n ≤ 11) {ds : List D} {st : Store} (ha : cellItems st a = some ds) {ps : List PyData} (hp : ∀ st f, n ≤ f → optAll (ds.map (toPy f st)) = some ps) : toPy DEEP st (.rf a) = some (.list ps) := by
  show (cellItems st a).bind (fun ds => (optAll (ds.map (toPy 11 st))).map PyData.list) = _
  rw [ha]
  show (optAll (ds.map (toPy 11 st))).map PyData.list = _
  rw [hp st 11 hn]; rfl
theorem shaped_list {ps : List PyData} (h : PyData.canLayAll0 ps = true) (d : PyData.depthAll ps ≤ 50) : SeqAt.shaped (.list ps) = true := by
  show (PyData.canLayAll0 ps && decide (PyData.depthAll ps + 1 ≤ 64)) = true
  rw [h, decide_eq_true (by omega)]; rfl
theorem eqPy_reflL {n a b : Nat} (hn : n ≤ 11) {ds : List D} (h : ∀ x ∈ ds, okD n x) {st : Store} (ha : cellItems st a = some ds) (hb : cellItems st b = some ds) : eqPy (.rf a) (.rf b) st = some true := by
  obtain ⟨ps, p1, p2, p3⟩ := list_py h
  unfold eqPy
  rw [rf_py hn ha p1, rf_py hn hb p1]
  simp only
  rw [shaped_list p2 (by omega)]
  have : PyData.canLay0 (.list ps) = true := p2
  simp [SeqAt.eqv_refl _ this]
/-- a list that holds something, and the empty one -/
theorem eqPy_emptyL {n a b : Nat} (hn : n ≤ 11) {ds : List D} (h : ∀ x ∈ ds, okD n x) {st : Store} (ha : cellItems st a = some ds) (hb : cellItems st b = some []) : eqPy (.rf a) (.rf b) st = some ds.isEmpty := by
  obtain ⟨ps, p1, p2, p3⟩ := list_py h
  unfold eqPy
  rw [rf_py hn ha p1, rf_py (n := 0) (ps := []) (Nat.zero_le _) hb fun _ _ _ => rfl]
  simp only
  rw [shaped_list p2 (by omega), show SeqAt.shaped (.list []) = true from rfl]
  have hl : ps.length = ds.length := by
    have := p1 st 11 hn
    have key : ∀ (ds : List D) (ps : List PyData), optAll (ds.map (toPy 11 st)) = some ps → ps.length = ds.length := by
      intro ds
      induction ds with
      | nil => intro ps e; cases e; rfl
      | cons x ds ih =>
        intro ps e
        rw [List.map_cons] at e
        cases q : toPy 11 st x with
        | none => rw [q] at e; cases e
        | some p =>
          rw [q] at e
          have e' : (optAll (ds.map (toPy 11 st))).map (p :: ·) = some ps := e
          cases q2 : optAll (ds.map (toPy 11 st)) with
          | none => rw [q2] at e'; cases e'
          | some qs =>
            rw [q2] at e'
            cases e'
            rw [List.length_cons, List.length_cons, ih qs q2]
    exact key ds ps this
  cases ds with
  | nil =>
    have : ps = [] := List.eq_nil_of_length_eq_zero hl
    subst this
    simp [PyData.eqv, PyData.eqvAll]
  | cons x ds =>
    cases ps with
    | nil => cases hl
    | cons p ps => simp [PyData.eqv, PyData.eqvAll]
theorem eqv_intsAll : ∀ xs ys : List Int, PyData.eqvAll (xs.map .int) (ys.map .int) = (xs == ys)
  | [], [] => by simp [PyData.eqvAll]
  | [], y :: ys => by simp [PyData.eqvAll]
  | x :: xs, [] => by simp [PyData.eqvAll]
  | x :: xs, y :: ys => by
    rw [List.map_cons, List.map_cons, PyData.eqvAll, eqv_intsAll xs ys]
    simp [PyData.eqv]
theorem eqv_ints (xs ys : List Int) : PyData.eqv (.tuple (xs.map .int)) (.tuple (ys.map .int)) = (xs == ys) := by
  rw [PyData.eqv, eqv_intsAll]
theorem eqPy_ints {xs ys : List Int} {st : Store} : eqPy (tupI xs) (tupI ys) st = some (xs == ys) := by
  unfold eqPy
  rw [toPy_ints 10 st xs, toPy_ints 10 st ys]
  simp only
  have s : ∀ xs : List Int, SeqAt.shaped (.tuple (xs.map .int)) = true := fun xs => by
    show (PyData.canLayAll0 (xs.map .int) && decide (PyData.depthAll (xs.map .int) + 1 ≤ 64)) = true
    rw [lay_ints, dep_ints]; rfl
  rw [s, s, eqv_ints]
  rfl
theorem inB_tups {n : Nat} {p : List Int} {T : List (List Int)} {st : Store} (hc : cellItems st n = some (T.map tupI)) : inB (tupI p) (.rf n) st = some (T.any fun z => z == p) := by
  have e1 : toPy DEEP st (tupI p) = some (.tuple (p.map .int)) := toPy_ints 10 st p
  have e2 : toPy DEEP st (.rf n) = some (.list (T.map fun x => .tuple (x.map .int))) := by
    show (cellItems st n).bind (fun ds => (optAll (ds.map (toPy 11 st))).map PyData.list) = _
    rw [hc]
    show (optAll ((T.map tupI).map (toPy 11 st))).map PyData.list = _
    rw [List.map_map, optAll_some (f := toPy 11 st ∘ tupI) (fun x => .tuple (x.map .int)) (fun x _ => toPy_ints 9 st x)]
    rfl
  have l1 : ∀ T : List (List Int), PyData.canLayAll0 (T.map fun x => .tuple (x.map .int)) = true ∧ PyData.depthAll (T.map fun x => .tuple (x.map .int)) ≤ 1 := by
    intro T
    induction T with
    | nil => exact ⟨rfl, by decide⟩
    | cons y T ih =>
      refine ⟨?_, ?_⟩
      · show (PyData.canLayAll0 (y.map .int) && PyData.canLayAll0 (T.map fun x => .tuple (x.map .int))) = true
        rw [lay_ints, ih.1]; rfl
      · show max (PyData.depthAll (y.map .int) + 1) (PyData.depthAll (T.map fun x => .tuple (x.map .int))) ≤ 1
        rw [dep_ints]
        have := ih.2
        omega
  unfold inB
  unfold tupI at e1 ⊢
  simp only [e1, e2]
  have s1 : SeqAt.shaped (.tuple (p.map .int)) = true := by
    show (PyData.canLayAll0 (p.map .int) && decide (PyData.depthAll (p.map .int) + 1 ≤ 64)) = true
    rw [lay_ints, dep_ints]; rfl
  rw [s1, shaped_list (l1 T).1 (by have := (l1 T).2; omega)]
  simp only [Bool.and_self, if_true]
  congr 1
  rw [List.any_map]
  congr 1
  funext x
  exact eqv_ints x p
theorem inB_ints {p : Int} : ∀ {ac : List Int} {st : Store}, inB (.int p) (tupI ac) st = some (ac.any fun z => z == p) := fun {ac st} => by
  unfold inB tupI
  simp only
  have h1 : (ac.map D.int).all flat = true := by simp [flat]
  rw [h1]
  simp only [flat, Bool.and_self, if_true]
  congr 1
  rw [List.any_map]
  rfl
theorem inB_intL {i : Int} {xs : List Int} {n : Nat} {st : Store} (hc : cellItems st n = some (xs.map D.int)) : inB (.int i) (.rf n) st = some (xs.any fun z => z == i) := by
  have e2 : toPy DEEP st (.rf n) = some (.list (xs.map .int)) := by
    show (cellItems st n).bind (fun ds => (optAll (ds.map (toPy 11 st))).map PyData.list) = _
    rw [hc]
    show (optAll ((xs.map D.int).map (toPy 11 st))).map PyData.list = _
    rw [List.map_map, optAll_some (f := toPy 11 st ∘ D.int) PyData.int (fun x _ => rfl)]
    rfl
  unfold inB
  simp only [e2, show toPy DEEP st (.int i) = some (.int i) from rfl]
  rw [show SeqAt.shaped (.int i) = true from rfl, shaped_list (lay_ints xs) (by rw [dep_ints]; decide)]
  simp only [Bool.and_self, if_true]
  congr 1
  rw [List.any_map]
  congr 1
end DL
namespace DL
open PySem
def spotB (rows kinds : Int) : D → Bool
  | .tup [a, b] => intIn 0 (rows - 1) a && intIn 0 (kinds - 1) b
  | _ => false
def listQ (p : Int × Int) : List Int := [p.1, p.2]
theorem pairD_is (p : Int × Int) : pairD p = tupI (listQ p) := rfl
theorem listQ_inj {p q : Int × Int} (h : listQ p = listQ q) : p = q := by
  unfold listQ at h
  obtain ⟨a, b⟩ := p
  obtain ⟨c, d⟩ := q
  simp at h
  rw [h.1, h.2]
def SpotsOk (rows kinds : Int) (ps : List (Int × Int)) : Prop := ∀ p ∈ ps, 0 ≤ p.1 ∧ p.1 < rows ∧ 0 ≤ p.2 ∧ p.2 < kinds
theorem spot_pair {rows kinds : Int} {d : D} (h : spotB rows kinds d = true) : ∃ p, d = pairD p ∧ 0 ≤ p.1 ∧ p.1 < rows ∧ 0 ≤ p.2 ∧ p.2 < kinds := by
  unfold spotB at h
  split at h
  · rename_i a b
    rw [Bool.and_eq_true] at h
    obtain ⟨i, rfl, h1, h2⟩ := intIn_elim h.1
    obtain ⟨j, rfl, h3, h4⟩ := intIn_elim h.2
    exact ⟨(i, j), rfl, h1, by show i < rows; omega, h3, by show j < kinds; omega⟩
  · cases h
theorem pair_spot {rows kinds : Int} {p : Int × Int} (h : 0 ≤ p.1 ∧ p.1 < rows ∧ 0 ≤ p.2 ∧ p.2 < kinds) : spotB rows kinds (pairD p) = true := by
  show (intIn 0 (rows - 1) (.int p.1) && intIn 0 (kinds - 1) (.int p.2)) = true
  simp [intIn]
  omega
theorem spots_pairs {rows kinds : Int} : ∀ {ds : List D}, ds.all (spotB rows kinds) = true → ∃ ps, ds = ps.map pairD ∧ SpotsOk rows kinds ps
  | [], _ => ⟨[], rfl, fun p h => by cases h⟩
  | d :: ds, h => by
    rw [List.all_cons, Bool.and_eq_true] at h
    obtain ⟨p, rfl, hp⟩ := spot_pair h.1
    obtain ⟨ps, rfl, hs⟩ := spots_pairs h.2
    refine ⟨p :: ps, rfl, fun q hq => ?_⟩
    rcases List.mem_cons.mp hq with rfl | hq
    · exact hp
    · exact hs q hq
theorem pairs_back {rows kinds : Int} (hr : rows ≤ 1000) (hk : kinds ≤ 1000) : ∀ {ps : List (Int × Int)}, SpotsOk rows kinds ps → pairsI (ps.map pairD) = some ps
  | [], _ => rfl
  | p :: ps, h => by
    have ih := pairs_back hr hk (ps := ps) fun q hq => h q (List.mem_cons_of_mem _ hq)
    have hp := h p List.mem_cons_self
    rw [List.map_cons]
    unfold pairsI
    rw [ih]
    have e : pairI (pairD p) = some p := by
      unfold pairI pairD
      simp only
      rw [if_pos (by omega)]
    rw [e]
section
variable {w l r : Int} {s k : Str} {e : Bool} {ks : List (List Int)} {ac : List Int} {st : Store} {Q : D → Store → Prop} {E : EX} {d : D}
theorem prog_len {xs : List Row} {R : D → Store → Prop} : Run (vLen (progD xs)) st R ↔ R (.int xs.length) st := by
  unfold progD
  simp
theorem sp_is_spot {xs : List Row} (h : HA st d) (q : Q (.bl (spotB xs.length ks.length d)) st) : Run (g_is_spot [ruleD w l r s k e ks ac, progD xs, d]) st Q := by
  unfold g_is_spot b_is_spot r_is_spot_2
  refine (run_gFn (by rfl)).mpr ?_
  simp [-Bool.exists_bool, startE, run_isi, h.has]
  have other : (∀ a b, d ≠ .tup [a, b]) → spotB xs.length ks.length d = false := fun hn => by
    unfold spotB
    split
    · rename_i a b; exact absurd rfl (hn a b)
    · rfl
  cases d with
  | tup ds =>
    simp [-Bool.exists_bool, isTy]
    refine ⟨_, eqPy_int, _, (Bool.not_not _).symm, ?_⟩
    match ds, h, q, other with
    | [a, b], h, q, _ =>
      rw [if_neg (by simp)]
      have ha := ha_tup.mp h a (by simp)
      have hb := ha_tup.mp h b (by simp)
      unfold r_is_spot_1
      simp [-Bool.exists_bool]
      rw [prog_len]
      simp [-Bool.exists_bool]
      refine sp_is_integer_within ha.has ?_
      have eS : spotB xs.length ks.length (.tup [a, b]) = (intIn 0 (xs.length - 1) a && intIn 0 (ks.length - 1) b) := rfl
      rw [eS] at q
      refine ⟨_, rfl, ?_⟩
      cases c : intIn 0 ((xs.length : Int) - 1) a with
      | false =>
        rw [c] at q
        exact q
      | true =>
        rw [c] at q
        rw [if_pos rfl]
        exact sp_is_integer_within hb.has q
    | [], _, q, other =>
      rw [other (fun a b e => by cases e)] at q
      rw [if_pos (by decide)]
      exact q
    | [_], _, q, other =>
      rw [other (fun a b e => by cases e)] at q
      rw [if_pos (by simp)]
      exact q
    | _ :: _ :: _ :: _, _, q, other =>
      rw [other (fun a b e => by cases e)] at q
      rw [if_pos (by simp; omega)]
      exact q
  | _ =>
    rw [other (fun a b e => by cases e)] at q
    simp [-Bool.exists_bool, isTy]
    exact q
end
/-! ### lots -/
theorem toPy_pairs (n : Nat) (st : Store) (ps : List (Int × Int)) : toPy (n + 3) st (.tup (ps.map pairD)) = some (.tuple (ps.map fun p => .tuple ((listQ p).map .int))) := by
  show (optAll ((ps.map pairD).map (toPy (n + 2) st))).map PyData.tuple = _
  rw [List.map_map, optAll_some (f := toPy (n + 2) st ∘ pairD) (fun p => .tuple ((listQ p).map .int)) (fun p _ => toPy_ints n st (listQ p))]
  rfl
theorem eqv_pairsAll : ∀ ps qs : List (Int × Int), PyData.eqvAll (ps.map fun p => .tuple ((listQ p).map .int)) (qs.map fun p => .tuple ((listQ p).map .int)) = decide (ps = qs)
  | [], [] => by simp [PyData.eqvAll]
  | [], q :: qs => by simp [PyData.eqvAll]
  | p :: ps, [] => by simp [PyData.eqvAll]
  | p :: ps, q :: qs => by
    rw [List.map_cons, List.map_cons, PyData.eqvAll, eqv_pairsAll ps qs, eqv_ints]
    by_cases c : p = q
    · subst c; simp
    · have : (listQ p == listQ q) = false := by
        rw [beq_eq_false_iff_ne]
        exact fun e => c (listQ_inj e)
      rw [this]
      simp [c]
theorem lay_pairs : ∀ ps : List (Int × Int), PyData.canLayAll0 (ps.map fun p => .tuple ((listQ p).map .int)) = true ∧ PyData.depthAll (ps.map fun p => .tuple ((listQ p).map .int)) ≤ 1
  | [] => ⟨rfl, by decide⟩
  | p :: ps => by
    obtain ⟨h1, h2⟩ := lay_pairs ps
    refine ⟨?_, ?_⟩
    · show (PyData.canLayAll0 ((listQ p).map .int) && PyData.canLayAll0 (ps.map fun p => .tuple ((listQ p).map .int))) = true
      rw [lay_ints, h1]; rfl
    · show max (PyData.depthAll ((listQ p).map .int) + 1) (PyData.depthAll (ps.map fun p => .tuple ((listQ p).map .int))) ≤ 1
      rw [dep_ints]
      omega
theorem eqPy_pairs {ps qs : List (Int × Int)} {st : Store} : eqPy (.tup (ps.map pairD)) (.tup (qs.map pairD)) st = some (decide (ps = qs)) := by
  unfold eqPy
  rw [toPy_pairs 9 st ps, toPy_pairs 9 st qs]
  simp only
  have s : ∀ ps : List (Int × Int), SeqAt.shaped (.tuple (ps.map fun p => .tuple ((listQ p).map .int))) = true := fun ps => by
    obtain ⟨h1, h2⟩ := lay_pairs ps
    show (PyData.canLayAll0 _ && decide (PyData.depthAll _ + 1 ≤ 64)) = true
    rw [h1, decide_eq_true (by omega)]; rfl
  rw [s, s, PyData.eqv, eqv_pairsAll]
  rfl
section
variable {w l r : Int} {s k : Str} {e : Bool} {ks : List (List Int)} {ac : List Int} {st : Store} {Q : D → Store → Prop} {E : EX} {d : D}
theorem setP_len : ∀ ps : List (Int × Int), (setP ps).length ≤ ps.length
  | [] => Nat.le_refl _
  | p :: ps => by
    have ih := setP_len ps
    have key : ∀ qs : List (Int × Int), (insP p qs).length ≤ qs.length + 1 := by
      intro qs
      induction qs with
      | nil => exact Nat.le_refl _
      | cons q qs ih =>
        unfold insP
        split
        · simp
        · split
          · simp
          · rw [List.length_cons, List.length_cons]; omega
    have := key (setP ps)
    show (insP p (setP ps)).length ≤ (p :: ps).length
    rw [List.length_cons]
    omega
/-- which lots are taken -/
theorem spx_check_lot {xs : List Row} (hx : xs.length ≤ 8) (hk : ks.length ≤ 3) (h : HA st d) (hl : ∀ ds, d = .tup ds → ds.length < 60) (good : ∀ ps, d = .tup (ps.map pairD) → SpotsOk xs.length ks.length ps → setP ps = ps → Q .non st)
    (bad : (∀ ps, d = .tup (ps.map pairD) → SpotsOk xs.length ks.length ps → setP ps ≠ ps) → E "BadSpot" .non st) : RunX (g_check_lot [ruleD w l r s k e ks ac, progD xs, d]) st Q E := by
  have sz : SZ = 16777216 := rfl
  unfold g_check_lot b_check_lot r_check_lot_1
  refine (runX_gFn (by rfl)).mpr ?_
  simp [-Bool.exists_bool, startE, run_isi, h.has]
  cases d with
  | tup ds =>
    have hll := hl ds rfl
    simp [-Bool.exists_bool, isTy]
    refine run_comp_map trivial (fun x => .bl (spotB xs.length ks.length x)) ?_ ?_
    · intro x hx
      simp [-Bool.exists_bool, wipeE]
      refine sp_is_spot (ha_tup.mp h x hx) ?_
      exact ⟨rfl, rfl⟩
    · refine ⟨by rw [List.length_map]; omega, ?_⟩
      rw [bools_map]
      refine ⟨_, rfl, ?_⟩
      by_cases c : ds.all (spotB xs.length ks.length) = true
      case neg =>
        rw [if_pos (by
          rw [Bool.not_eq_true, List.all_eq_false] at c
          obtain ⟨x, hx, hb⟩ := c
          exact List.mem_map.mpr ⟨x, hx, by simpa using hb⟩)]
        refine bad fun ps e hs => ?_
        exfalso
        apply c
        cases e
        rw [List.all_eq_true]
        intro x hx
        obtain ⟨p, hp, rfl⟩ := List.mem_map.mp hx
        exact pair_spot (hs p hp)
      rw [if_neg (by
        intro hm
        obtain ⟨x, hx, e⟩ := List.mem_map.mp hm
        have := List.all_eq_true.mp c x hx
        rw [e] at this; cases this)]
      obtain ⟨ps, rfl, hs⟩ := spots_pairs c
      rw [List.length_map] at hll
      rw [run_gSortSP]
      simp [-Bool.exists_bool]
      refine ⟨ps, pairs_back (by omega) (by omega) hs, by omega, _, eqPy_pairs, _, (Bool.not_not _).symm, ?_⟩
      by_cases c2 : ps = setP ps
      · rw [decide_eq_true c2, if_neg (by decide)]
        exact good ps rfl hs c2.symm
      · rw [decide_eq_false c2, if_pos (by decide)]
        refine bad fun ps2 e _ z => c2 ?_
        have e2 : ps.map pairD = ps2.map pairD := by injection e
        have inj : ∀ (a b : List (Int × Int)), a.map pairD = b.map pairD → a = b := by
          intro a
          induction a with
          | nil => intro b h; cases b with
            | nil => rfl
            | cons y b => cases h
          | cons x a ih => intro b h; cases b with
            | nil => cases h
            | cons y b =>
              rw [List.map_cons, List.map_cons] at h
              obtain ⟨h1, h2⟩ := List.cons.inj h
              have : x = y := by
                unfold pairD at h1
                obtain ⟨a1, a2⟩ := x
                obtain ⟨b1, b2⟩ := y
                simp at h1
                rw [h1.1, h1.2]
              rw [this, ih b h2]
        rw [inj ps ps2 e2]
        exact z.symm
  | _ =>
    simp [-Bool.exists_bool, isTy]
    exact bad fun ps e => by cases e
end
end DL
namespace DL
open PySem
def addsF (ps : List (Int × Int)) (i : Nat) : List Int := (ps.filter fun p => p.1 == (i : Int)).map (·.2)
def withR (ps : List (Int × Int)) : Nat → List Row → List Row
  | _, [] => []
  | i, x :: xs => ⟨x.op, setI (x.fences ++ addsF ps i), x.nexts⟩ :: withR ps (i + 1) xs
def enumR : Nat → List Row → List D
  | _, [] => []
  | i, x :: xs => .tup [.int (i : Int), rowD x] :: enumR (i + 1) xs
theorem enum_rows : ∀ (xs : List Row) (k : Nat), (xs.map rowD).mapIdx (fun i d => D.tup [.int ((k + i : Nat) : Int), d]) = enumR k xs
  | [], k => rfl
  | x :: xs, k => by
    rw [List.map_cons, List.mapIdx_cons, show enumR k (x :: xs) = .tup [.int (k : Int), rowD x] :: enumR (k + 1) xs from rfl, ← enum_rows xs (k + 1)]
    congr 1
    congr 1
    funext i d
    rw [show k + (i + 1) = k + 1 + i by omega]
theorem enum_rows0 (xs : List Row) : enumD (xs.map rowD) = enumR 0 xs := by
  rw [← enum_rows xs 0]
  unfold enumD
  congr 1
  funext i d
  simp
section
variable {w l r : Int} {s k : Str} {e : Bool} {ks : List (List Int)} {ac : List Int} {st : Store} {Q : D → Store → Prop} {E : EX} {d : D}
theorem run_comp_fmY {α : Type} {ρ : Env} {st : Store} {g : GG} {gd : Store → Prop} {e : GE} {t : GT} (hd : gd st) (en : α → D) (F : α → Option D) {xs : List α} {QA : List D → Store → Prop}
    (step : ∀ a ∈ xs, Run (g (en a) ρ) st fun ρ1 s1 => s1 = st ∧ Run (t ρ1) st fun k s2 => s2 = st ∧ if k = true then Run (e ρ1) st fun x s3 => F a = some x ∧ s3 = st else F a = none) (q : QA (xs.filterMap F) st) : Run (gComp gd g t e ρ (xs.map en)) st QA := run_comp_fmX hd en F step q
theorem adds_fm (ps : List (Int × Int)) (i : Nat) : (ps.filterMap fun p : Int × Int => if (p.1 == (i : Int)) = true then some (D.int p.2) else none) = (addsF ps i).map D.int := by
  unfold addsF
  induction ps with
  | nil => rfl
  | cons p ps ih =>
    rw [List.filterMap_cons, List.filter_cons]
    by_cases c : (p.1 == (i : Int)) = true
    · rw [if_pos c, if_pos c]
      simp only [List.map_cons]
      rw [ih]
    · rw [if_neg c, if_neg c]
      exact ih
theorem adds_len (ps : List (Int × Int)) (i : Nat) : (addsF ps i).length ≤ ps.length := by
  unfold addsF
  rw [List.length_map]
  exact List.length_filter_le _ _
theorem cell_lastL {st : Store} {ds : List D} : cellItems (st ++ [.lst ds]) st.length = some ds := by
  unfold cellItems
  simp
theorem get_at {st m : Store} {c : Cell} : (st ++ (c :: m))[st.length]? = some c := by simp
theorem set_at {st m : Store} {c d : Cell} : (st ++ (d :: m)).set st.length c = st ++ (c :: m) := by
  rw [List.set_append_right _ _ (Nat.le_refl _)]
  simp
theorem cell_at0L {st : Store} {ds : List D} {m : Store} : cellItems (st ++ .lst ds :: m) st.length = some ds := by
  unfold cellItems
  simp
def invPw (P Lo : D) (st : Store) (all : List Row) (ps : List (Int × Int)) : List D → Env → Store → Prop := fun L ρ s' => ∃ (i : Nat) (xs dn : List Row) (m : Store) (v3 v4 v5 v6 v7 v8 v9 : Option D), L = enumR i xs ∧ (∀ x ∈ xs, x.fences.length ≤ 3) ∧ s' = st ++ .lst (dn.map rowD) :: m ∧ dn.length + xs.length ≤ 8 ∧ ρ = [some P, some Lo, some (.rf st.length), v3, v4, v5, v6, v7, v8, v9] ∧ dn ++ withR ps i xs = all
theorem sp_program_with {xs : List Row} {ps : List (Int × Int)} (hx : xs.length ≤ 8) (hf : ∀ x ∈ xs, x.fences.length ≤ 3) (hp : ps.length ≤ 50) (q : ∀ m, Q (progD (withR ps 0 xs)) (st ++ m)) : Run (g_program_with [progD xs, .tup (ps.map pairD)]) st Q := by
  have sz : SZ = 16777216 := rfl
  unfold g_program_with b_program_with r_program_with_3
  refine (run_gFn (by rfl)).mpr ?_
  simp [-Bool.exists_bool, startE]
  unfold r_program_with_2
  simp [-Bool.exists_bool, run_gFor]
  rw [show progD xs = .tup (xs.map rowD) from rfl]
  simp [-Bool.exists_bool]
  rw [← show progD xs = .tup (xs.map rowD) from rfl, enum_rows0]
  refine run_loop (invPw (progD xs) (.tup (ps.map pairD)) st (withR ps 0 xs) ps) (fun _ _ _ _ => trivial) ?_ ?_ _ _ _ ⟨0, xs, [], [], _, _, _, _, _, _, _, rfl, hf, rfl, by simpa using hx, rfl, rfl⟩
  · rintro d l' ρ s' ⟨i, ys, dn, m, v3, v4, v5, v6, v7, v8, v9, hL, hfs, rfl, hlen, rfl, he⟩
    cases ys with
    | nil => cases hL
    | cons y ys =>
      have hL : d :: l' = .tup [.int (i : Int), rowD y] :: enumR (i + 1) ys := hL
      obtain ⟨rfl, rfl⟩ := List.cons.inj hL
      have hyf := hfs y List.mem_cons_self
      rw [List.length_cons] at hlen
      simp [-Bool.exists_bool, rowD]
      unfold r_program_with_1
      simp [-Bool.exists_bool]
      refine run_comp_fmY trivial pairD (fun p : Int × Int => if (p.1 == (i : Int)) = true then some (D.int p.2) else none) ?_ ?_
      · intro p hpp
        simp [-Bool.exists_bool, wipeE, pairD]
        refine ⟨_, eqPy_int, ?_⟩
        by_cases c : (p.1 == (i : Int)) = true
        · rw [if_pos c]; simpa using c
        · rw [if_neg c]; simpa using c
      rw [adds_fm]
      have hal := adds_len ps i
      refine ⟨by rw [List.length_map]; omega, ?_⟩
      rw [run_gSortS]
      rw [show tupI y.fences = .tup (y.fences.map D.int) from rfl]
      simp [-Bool.exists_bool]
      have hc : cellItems (st ++ Cell.lst (dn.map rowD) :: (m ++ [Cell.lst ((addsF ps i).map D.int)])) (st.length + (m.length + 1)) = some ((addsF ps i).map D.int) := by
        have := cell_lastL (st := st ++ Cell.lst (dn.map rowD) :: m) (ds := (addsF ps i).map D.int)
        simp at this
        exact this
      refine ⟨_, hc, ?_⟩
      have hints : intsD (y.fences.map D.int ++ (addsF ps i).map D.int) = some (y.fences ++ addsF ps i) := by
        rw [← List.map_append]; exact ints_of _
      refine ⟨by rw [List.length_map]; omega, _, hints, by rw [List.length_append]; omega, by decide, by omega, ?_⟩
      have hrow : dn.map rowD ++ [D.tup [opD y.op, D.tup ((setI (y.fences ++ addsF ps i)).map D.int), tupI y.nexts]] = (dn ++ [(⟨y.op, setI (y.fences ++ addsF ps i), y.nexts⟩ : Row)]).map rowD := by
        rw [List.map_append]; rfl
      refine ⟨i + 1, ys, dn ++ [(⟨y.op, setI (y.fences ++ addsF ps i), y.nexts⟩ : Row)], m ++ [Cell.lst ((addsF ps i).map D.int)], _, _, _, _, _, _, _, rfl, fun z hz => hfs z (List.mem_cons_of_mem _ hz), by rw [← hrow], by rw [List.length_append, List.length_singleton]; omega, rfl, ?_⟩
      rw [List.append_assoc]
      exact he
  · rintro ρ s' ⟨i, ys, dn, m, v3, v4, v5, v6, v7, v8, v9, hL, hfs, rfl, hlen, rfl, he⟩
    cases ys with
    | cons y ys => cases hL
    | nil =>
      have he : dn ++ [] = _ := he
      rw [List.append_nil] at he
      simp [-Bool.exists_bool]
      refine ⟨_, cell_at0L, ?_⟩
      rw [← he] at q
      exact q _
end
end DL
namespace DL
open PySem
section
variable {w l r : Int} {s k : Str} {e : Bool} {ks : List (List Int)} {ac : List Int} {st : Store} {Q : D → Store → Prop} {E : EX} {d : D} {b p : Nat}
theorem fromTo_step (i : Int) (n : Nat) : fromTo i (n + 1) = .int i :: fromTo (i + 1) n := by
  unfold fromTo
  rw [List.range_succ_eq_map, List.map_cons, List.map_map]
  congr 1
  · simp
  · apply List.map_congr_left
    intro k _
    show D.int (i + ((k + 1 : Nat) : Int)) = _
    congr 1
    omega
theorem prog_at {xs : List Row} {i : Nat} {x : Row} (h : xs[i]? = some x) {R : D → Store → Prop} : Run (vIx (progD xs) (.int (i : Int))) st R ↔ R (rowD x) st := by
  have hlt : i < xs.length := (List.getElem?_eq_some_iff.mp h).1
  have e : atD (xs.map rowD) (i : Int) = some (rowD x) := by
    rw [atD_nat (by rw [List.length_map]; exact hlt), List.getElem?_map, h]; rfl
  unfold progD
  simp [e]
theorem row_ix0 {x : Row} {R : D → Store → Prop} : Run (vIx (rowD x) (.int 0)) st R ↔ R (opD x.op) st := by unfold rowD; simp [atD, ixOf]
theorem row_ix1 {x : Row} {R : D → Store → Prop} : Run (vIx (rowD x) (.int 1)) st R ↔ R (tupI x.fences) st := by unfold rowD; simp [atD, ixOf]
theorem row_ix2 {x : Row} {R : D → Store → Prop} : Run (vIx (rowD x) (.int 2)) st R ↔ R (tupI x.nexts) st := by unfold rowD; simp [atD, ixOf]
def invFd (P Lo : D) (st : Store) (n : Nat) (xs0 : List Row) (all : List Row) (ps : List (Int × Int)) : List D → Env → Store → Prop := fun L ρ s' => ∃ (i k : Nat) (dn : List Row) (m : Store) (v3 v4 v5 v6 : Option D), L = fromTo (i : Int) k ∧ i + k = xs0.length ∧ s' = st ++ .lst (dn.map rowD) :: m ∧ dn.length = i ∧ ρ = [some P, some Lo, some (.rf st.length), v3, v4, v5, v6] ∧ dn ++ withR ps i (xs0.drop i) = all
theorem sp_law_fenced {P : D} {xs : List Row} (hP : P = progD xs) {ps : List (Int × Int)} (hx : xs.length ≤ 8) (hf : ∀ x ∈ xs, x.fences.length ≤ 3) (hp : ps.length ≤ 50) (q : ∀ m, Q (progD (withR ps 0 xs)) (st ++ m)) : Run (g__law_fenced [P, .tup (ps.map pairD)]) st Q := by
  subst hP
  have sz : SZ = 16777216 := rfl
  unfold g__law_fenced b__law_fenced r__law_fenced_3
  refine (run_gFn (by rfl)).mpr ?_
  simp [-Bool.exists_bool, startE]
  unfold r__law_fenced_2
  simp [-Bool.exists_bool, run_gFor]
  rw [prog_len]
  refine ⟨_, rfl, smallI_of (by omega) (by omega), ?_⟩
  rw [Int.toNat_natCast]
  refine run_loop (invFd (progD xs) (.tup (ps.map pairD)) st xs.length xs (withR ps 0 xs) ps) (fun _ _ _ _ => trivial) ?_ ?_ _ _ _ ⟨0, xs.length, [], [], _, _, _, _, rfl, by omega, rfl, rfl, rfl, rfl⟩
  · rintro d l' ρ s' ⟨i, n, dn, m, v3, v4, v5, v6, hL, hin, rfl, hlen, rfl, he⟩
    cases n with
    | zero => cases hL
    | succ n =>
      rw [fromTo_step] at hL
      have h23 := List.cons.inj hL
      rw [h23.1, h23.2]
      clear hL h23
      have hi : i < xs.length := by omega
      have hxi : xs[i]? = some xs[i] := List.getElem?_eq_getElem hi
      have hyf := hf xs[i] (List.getElem_mem hi)
      rw [List.drop_eq_getElem_cons hi] at he
      have he : dn ++ (⟨xs[i].op, setI (xs[i].fences ++ addsF ps i), xs[i].nexts⟩ :: withR ps (i + 1) (xs.drop (i + 1))) = withR ps 0 xs := he
      generalize xs[i] = y at hxi hyf he
      simp [-Bool.exists_bool]
      unfold r__law_fenced_1
      simp [-Bool.exists_bool]
      refine run_comp_fmY trivial pairD (fun p : Int × Int => if (p.1 == (i : Int)) = true then some (D.int p.2) else none) ?_ ?_
      · intro p hpp
        simp [-Bool.exists_bool, wipeE, pairD]
        refine ⟨_, eqPy_int, ?_⟩
        by_cases c : (p.1 == (i : Int)) = true
        · rw [if_pos c]; simpa using c
        · rw [if_neg c]; simpa using c
      rw [adds_fm]
      have hal := adds_len ps i
      refine ⟨by rw [List.length_map]; omega, ?_⟩
      rw [prog_at hxi, row_ix0]
      rw [run_gSortS]
      simp [-Bool.exists_bool]
      rw [prog_at hxi, row_ix1, show tupI y.fences = .tup (y.fences.map D.int) from rfl]
      simp [-Bool.exists_bool]
      have hc : cellItems (st ++ Cell.lst (dn.map rowD) :: (m ++ [Cell.lst ((addsF ps i).map D.int), Cell.lst (y.fences.map D.int), Cell.lst (y.fences.map D.int ++ (addsF ps i).map D.int)])) (st.length + (m.length + 1 + 1) + 1) = some (y.fences.map D.int ++ (addsF ps i).map D.int) := by
        unfold cellItems
        rw [List.getElem?_append_right (by omega), show st.length + (m.length + 1 + 1) + 1 - st.length = m.length + 2 + 1 by omega, List.getElem?_cons_succ, List.getElem?_append_right (by omega), show m.length + 2 - m.length = 2 by omega]
        rfl
      have hints : intsD (y.fences.map D.int ++ (addsF ps i).map D.int) = some (y.fences ++ addsF ps i) := by
        rw [← List.map_append]; exact ints_of _
      refine ⟨by omega, _, hc, _, hints, by rw [List.length_append]; omega, ?_⟩
      rw [prog_at hxi, row_ix2]
      refine ⟨by decide, _, get_at, by rw [List.length_map]; omega, ?_⟩
      rw [set_at]
      have hrow : dn.map rowD ++ [D.tup [opD y.op, D.tup ((setI (y.fences ++ addsF ps i)).map D.int), tupI y.nexts]] = (dn ++ [(⟨y.op, setI (y.fences ++ addsF ps i), y.nexts⟩ : Row)]).map rowD := by
        rw [List.map_append]; rfl
      rw [hrow]
      refine ⟨i + 1, n, dn ++ [(⟨y.op, setI (y.fences ++ addsF ps i), y.nexts⟩ : Row)], _, _, _, _, _, by rw [show ((i + 1 : Nat) : Int) = (i : Int) + 1 by omega], by omega, rfl, by rw [List.length_append, List.length_singleton, hlen], rfl, ?_⟩
      rw [List.append_assoc]
      exact he
  · rintro ρ s' ⟨i, n, dn, m, v3, v4, v5, v6, hL, hin, rfl, hlen, rfl, he⟩
    have hn0 : n = 0 := by
      cases n with
      | zero => rfl
      | succ n => rw [fromTo_step] at hL; cases hL
    subst hn0
    rw [List.drop_eq_nil_of_le (by omega)] at he
    have he : dn ++ [] = _ := he
    rw [List.append_nil] at he
    simp [-Bool.exists_bool]
    refine ⟨_, cell_at0L, ?_⟩
    rw [← he] at q
    exact q _
end
end DL
namespace DL
open PySem
section
variable {w l r : Int} {s k : Str} {e : Bool} {ks : List (List Int)} {ac : List Int} {st : Store} {Q : D → Store → Prop} {E : EX} {d : D} {b p : Nat}
theorem VR.wl9 (hv : VR w l r s k ks ac) : 1 ≤ w * l ∧ w * l ≤ 9 := by
  have hw := hv.hw
  have hl := hv.hl
  have hw' : w = 1 ∨ w = 2 ∨ w = 3 := by omega
  rcases hw' with rfl | rfl | rfl <;> omega
theorem part_ok (n : Int) {lim : Nat} {many : Int} (h0 : 0 ≤ many) (h : many.toNat = lim) : ascB (lim : Int) 0 ((partF n many.toNat).map D.int) = true := part_asc n _ _ (by omega)
theorem run_ixE {gs : GA} {i : GE} {ρ : Env} {st : Store} {Q : D → Store → Prop} : Run (gIxL gs i ρ) st Q ↔ Run (gs ρ) st fun ds s => Run (i ρ) s fun x s => ∃ k d, x = .int k ∧ atD ds k = some d ∧ Q d s := run_gIxL
theorem sp_law_row (hv : VR w l r s k ks ac) (hp : PoolOk b st p) (hb : b ≤ 2 ^ 20) {nn i many : Nat} {n1 n2 : Int} (hn : st[nn]? = some (.lst [.int n1, .int n2])) (hnp : nn ≠ p) (h1 : 0 ≤ n1 ∧ n1 < w * l) (h2 : 0 ≤ n2 ∧ n2 < w * l) (hi : i < many) (hm : many ≤ 8)
    (Qq : ∀ x st', Go (b + 8) p st st' → RowOk w l ks many x → Q (rowD x) st') : Run (g__law_row [.rf p, ruleD w l r s k e ks ac, .rf nn, .int (i : Int), .int (many : Int)]) st Q := by
  have hwl := hv.wl9
  unfold g__law_row b__law_row r__law_row_8
  refine (run_gFn (by rfl)).mpr ?_
  generalize hmi : (many : Int) = mz
  generalize hii : (i : Int) = iz
  simp [-Bool.exists_bool, startE]
  refine ⟨by decide, ?_⟩
  refine sp_draw hp (by omega) (by decide) (by decide) fun d1 st1 a1 b1 g1 => ?_
  obtain ⟨x1, hx1, e1⟩ := atD_mem (xs := [D.str (Str.ofString "write"), .str (Str.ofString "put"), .str (Str.ofString "read"), .str (Str.ofString "write"), .str (Str.ofString "pass"), .str (Str.ofString "write")]) a1 b1
  refine ⟨d1, rfl, x1, e1, ?_⟩
  unfold r__law_row_7
  simp [-Bool.exists_bool]
  have lp := hp.lt
  have lp1 := g1.pool.lt
  have lnn := (List.getElem?_eq_some_iff.mp hn).1
  have hn1 : st1[nn]? = some (.lst [.int n1, .int n2]) := by rw [g1.keep _ hnp lnn]; exact hn
  have lp' : p < st1.length := lp1
  refine ⟨_, hn1, _, hn1, by show 4 ≤ SZ; decide, mulOk_r (by have := hv.hl; omega), ?_⟩
  refine sp_draw (g1.pool.more) (by omega) (by omega) (by omega) fun d2 st2 a2 b2 g2 => ?_
  have hk2 : st2[st1.length]? = some (.lst [.int n1, .int n2, .int n1, .int n2]) := by
    rw [g2.keep _ (by omega) (by simp)]
    simp
  have lk2 := (List.getElem?_eq_some_iff.mp hk2).1
  refine ⟨by decide, [.int n1, .int n2, .int n1, .int n2], by rw [List.getElem?_append_left lk2]; exact hk2, by show 5 ≤ SZ; decide, ?_⟩
  refine sp_draw (g2.pool.more) (by omega) (by decide) (by decide) fun d3 st3 a3 b3 g3 => ?_
  have hk3 : st3[st2.length + 1]? = some (.lst [.int n1, .int n2, .int n1, .int n2, .int d2]) := by
    have := g2.pool.lt
    rw [g3.keep _ (by omega) (by simp)]
    rw [List.getElem?_append_right (by omega), show st2.length + 1 - st2.length = 1 by omega]
    rfl
  obtain ⟨v, hv1, e3⟩ := atD_mem (xs := [D.int n1, .int n2, .int n1, .int n2, .int d2]) a3 b3
  have hvv : ∃ z, v = .int z ∧ 0 ≤ z ∧ z < w * l := by
    simp at hv1
    rcases hv1 with rfl | rfl | rfl | rfl | rfl
    · exact ⟨_, rfl, h1⟩
    · exact ⟨_, rfl, h2⟩
    · exact ⟨_, rfl, h1⟩
    · exact ⟨_, rfl, h2⟩
    · exact ⟨_, rfl, a2, b2⟩
  obtain ⟨z, rfl, z0, z1⟩ := hvv
  have hG : Go (b + 3) p st st3 := ((g1.trans (Go.more g1.pool)).trans (g2.trans (Go.more g2.pool))).trans g3
  have hix : ∀ (R : D → Store → Prop), R (.int z) st3 → Run (vIx (.rf (st2.length + 1)) (.int d3)) st3 R := fun R hR => by
    have hc := cell_of hk3
    simp [-Bool.exists_bool, hc, e3]
    exact hR
  refine hix _ ?_
  refine ⟨by decide, ?_⟩
  clear hix hk3 hk2 e3
  generalize hS : st3 = S at hG ⊢
  have tail : ∀ op, OpOk (w * l) op → Run (r__law_row_5 [some (.rf p), some (ruleD w l r s k e ks ac), some (.rf nn), some (.int iz), some (.int mz), some x1, some (opD op), none, none]) S (fnQ Q) := fun op hop => by
    unfold r__law_row_5
    simp [-Bool.exists_bool]
    have t2 : ∀ (f : List Int) (S2 : Store), Go (b + 5) p st S2 → ascB ks.length 0 (f.map D.int) = true → Run (r__law_row_3 [some (.rf p), some (ruleD w l r s k e ks ac), some (.rf nn), some (.int iz), some (.int mz), some x1, some (opD op), some (tupI f), none]) S2 (fnQ Q) := fun f S2 gg hf => by
      unfold r__law_row_3
      simp [-Bool.exists_bool]
      unfold r__law_row_2
      simp [-Bool.exists_bool]
      have t1 : ∀ nx : List Int, ascB many 0 (nx.map D.int) = true → Run (r__law_row_1 [some (.rf p), some (ruleD w l r s k e ks ac), some (.rf nn), some (.int iz), some (.int mz), some x1, some (opD op), some (tupI f), some (tupI nx)]) S2 (fnQ Q) := fun nx hnx => by
        unfold r__law_row_1
        simp [-Bool.exists_bool]
        refine sp_draw gg.pool (by omega) (by decide) (by decide) fun d5 st5 a5 b5 g5 => ?_
        refine ⟨_, eqPy_int, ?_⟩
        by_cases c : d5 = 1
        · rw [if_pos (by simpa using c)]
          refine ⟨by decide, ?_⟩
          have hat : ∃ q : Int, atD [D.int 2, .int 4, .int 8, .int 16, .int 32, .int 64, .int 128, .int 256] (mz - 1) = some (.int q) ∧ 0 < q ∧ q ≤ 256 := by
            have hm' : mz = 1 ∨ mz = 2 ∨ mz = 3 ∨ mz = 4 ∨ mz = 5 ∨ mz = 6 ∨ mz = 7 ∨ mz = 8 := by omega
            rcases hm' with rfl | rfl | rfl | rfl | rfl | rfl | rfl | rfl <;> exact ⟨_, rfl, by decide, by decide⟩
          obtain ⟨q, e5, q0, q1⟩ := hat
          refine ⟨_, e5, ?_⟩
          refine sp_draw g5.pool (by omega) q0 (by omega) fun d6 st6 a6 b6 g6 => ?_
          refine sp_part (by omega) (by omega) ?_
          refine ⟨by decide, ?_⟩
          exact Qq ⟨op, f, partF d6 mz.toNat⟩ st6 ((gg.trans g5).trans (g6.up (by omega))) ⟨hop, hf, part_ok d6 (by omega) (by omega)⟩
        · rw [if_neg (by simpa using c)]
          refine ⟨by decide, ?_⟩
          exact Qq ⟨op, f, nx⟩ st5 (gg.trans (g5.up (by omega))) ⟨hop, hf, hnx⟩
      by_cases c : iz + 1 < mz
      · rw [if_pos c]
        refine ⟨by decide, ?_⟩
        exact t1 [iz + 1] (ascB_one (by omega) (by omega))
      · rw [if_neg c]
        exact t1 [] rfl
    unfold r__law_row_4
    simp [-Bool.exists_bool]
    refine sp_draw hG.pool (by omega) (by decide) (by decide) fun d4 st4 a4 b4 g4 => ?_
    refine ⟨_, eqPy_int, ?_⟩
    by_cases c : d4 = 1
    · rw [if_pos (by simpa using c)]
      have hk3 := hv.hks.1
      refine ⟨by decide, ?_⟩
      have hat : ∃ q : Int, atD [D.int 1, .int 2, .int 4, .int 8] (ks.length : Int) = some (.int q) ∧ 0 < q ∧ q ≤ 8 := by
        generalize ks.length = n at hk3
        have hn' : n = 0 ∨ n = 1 ∨ n = 2 ∨ n = 3 := by omega
        rcases hn' with rfl | rfl | rfl | rfl <;> exact ⟨_, rfl, by decide, by decide⟩
      obtain ⟨q, e5, q0, q1⟩ := hat
      refine ⟨_, e5, ?_⟩
      refine sp_draw g4.pool (by omega) q0 (by omega) fun d5 st5 a5 b5 g5 => ?_
      have fin := t2 (partF d5 (ks.length : Int).toNat) st5 ((hG.trans g4).trans g5) (part_ok d5 (by omega) (by omega))
      have hk3' : 0 ≤ (ks.length : Int) ∧ (ks.length : Int) ≤ 8 := by omega
      generalize (ks.length : Int) = kl at fin hk3' ⊢
      exact sp_part hk3'.1 hk3'.2 fin
    · rw [if_neg (by simpa using c)]
      exact t2 [] st4 ((hG.trans g4).up (by omega)) rfl
  unfold r__law_row_6
  simp [-Bool.exists_bool]
  simp at hx1
  rcases hx1 with rfl | rfl | rfl | rfl | rfl | rfl
  · exact ⟨false, (opn (.write z)).trans rfl, tail (.write z) ⟨z0, z1⟩⟩
  · exact ⟨false, (opn (.put z)).trans rfl, tail (.put z) ⟨z0, z1⟩⟩
  · exact ⟨false, (opn (.read z)).trans rfl, tail (.read z) ⟨z0, z1⟩⟩
  · exact ⟨false, (opn (.write z)).trans rfl, tail (.write z) ⟨z0, z1⟩⟩
  · exact ⟨true, (opn .pass).trans rfl, by decide, tail .pass trivial⟩
  · exact ⟨false, (opn (.write z)).trans rfl, tail (.write z) ⟨z0, z1⟩⟩
end
end DL
namespace DL
open PySem
section
variable {w l r : Int} {s k : Str} {e : Bool} {ks : List (List Int)} {ac : List Int} {st : Store} {Q : D → Store → Prop} {E : EX} {d : D} {b p : Nat}
theorem sp_row_at (hv : VR w l r s k ks ac) (hp : PoolOk b st p) (hb : b ≤ 2 ^ 20) {nn : Nat} {iz mz n1 n2 : Int} (hn : st[nn]? = some (.lst [.int n1, .int n2])) (hnp : nn ≠ p) (h1 : 0 ≤ n1 ∧ n1 < w * l) (h2 : 0 ≤ n2 ∧ n2 < w * l) (hi0 : 0 ≤ iz) (hi : iz < mz) (hm : mz ≤ 8)
    (Qq : ∀ x st', Go (b + 8) p st st' → RowOk w l ks mz.toNat x → Q (rowD x) st') : Run (g__law_row [.rf p, ruleD w l r s k e ks ac, .rf nn, .int iz, .int mz]) st Q := by
  have := sp_law_row (e := e) (r := r) (Q := Q) hv hp hb (nn := nn) (i := iz.toNat) (many := mz.toNat) hn hnp h1 h2 (by omega) (by omega) Qq
  rw [show ((iz.toNat : Nat) : Int) = iz by omega, show ((mz.toNat : Nat) : Int) = mz by omega] at this
  exact this
def invPr (b p : Nat) (S0 : Store) (w l : Int) (ks : List (List Int)) (m : Nat) (L acc : List D) (s' : Store) : Prop := ∃ (i n : Nat) (xs : List Row), L = fromTo (i : Int) n ∧ i + n = m ∧ Go (b + 4 + 8 * i) p S0 s' ∧ acc = xs.map rowD ∧ xs.length = i ∧ ∀ x ∈ xs, RowOk w l ks m x
theorem sp_law_program (hv : VR w l r s k ks ac) (hp : PoolOk b st p) (hb : b ≤ 2 ^ 15) (Qq : ∀ xs st', Go (b + 70) p st st' → ProgOk w l ks xs → Q (progD xs) st') : Run (g__law_program [.rf p, ruleD w l r s k e ks ac, .int 8]) st Q := by
  have hwl := hv.wl9
  have hl3 := hv.hl
  unfold g__law_program b__law_program r__law_program_2
  refine (run_gFn (by rfl)).mpr ?_
  simp [-Bool.exists_bool, startE]
  refine sp_draw hp (by omega) (by decide) (by decide) fun d1 st1 a1 b1 g1 => ?_
  refine ⟨by decide, ?_⟩
  refine sp_draw g1.pool (by omega) (by decide) (by decide) fun d2 st2 a2 b2 g2 => ?_
  have hmz : ∃ mz : Int, atD [D.int (1 + d1), .int 8] d2 = some (.int mz) ∧ 1 ≤ mz ∧ mz ≤ 8 := by
    have : d2 = 0 ∨ d2 = 1 := by omega
    rcases this with rfl | rfl
    · exact ⟨1 + d1, rfl, by omega, by omega⟩
    · exact ⟨8, rfl, by decide, by decide⟩
  obtain ⟨mz, e1, m1, m2⟩ := hmz
  refine ⟨d2, rfl, _, e1, ?_⟩
  unfold r__law_program_1
  simp [-Bool.exists_bool]
  refine ⟨mulOk_r (by omega), ?_⟩
  refine sp_draw g2.pool (by omega) (by omega) (by omega) fun d3 st3 a3 b3 g3 => ?_
  refine ⟨mulOk_r (by omega), ?_⟩
  refine sp_draw g3.pool (by omega) (by omega) (by omega) fun d4 st4 a4 b4 g4 => ?_
  refine ⟨by decide, smallI_of (by omega) (by omega), ?_⟩
  have hG : Go (b + 4) p st st4 := (((g1.trans g2).trans g3).trans g4)
  have lp := hG.pool.lt
  refine (run_comp (invPr b p (st4 ++ [.lst [.int d3, .int d4]]) w l ks mz.toNat) (fun _ _ _ _ => trivial) ?_ (fromTo 0 mz.toNat) [] _ ⟨0, mz.toNat, [], rfl, by omega, Go.refl hG.pool.more, rfl, rfl, fun x h => by cases h⟩).mono ?_
  · rintro x L acc s3 ⟨i, n, xs, hL, hin, gs, rfl, hlen, hok⟩
    cases n with
    | zero => cases hL
    | succ n =>
      rw [fromTo_step] at hL
      have h23 := List.cons.inj hL
      rw [h23.1, h23.2]
      clear hL h23
      have hnn : s3[st4.length]? = some (.lst [.int d3, .int d4]) := by
        rw [gs.keep _ (by omega) (by simp)]; simp
      simp [-Bool.exists_bool, wipeE]
      refine sp_row_at hv gs.pool (by omega) hnn (by omega) ⟨a3, b3⟩ ⟨a4, b4⟩ (by omega) (by omega) m2 fun y st5 g5 hy => ?_
      refine ⟨i + 1, n, xs ++ [y], by rw [show ((i + 1 : Nat) : Int) = (i : Int) + 1 by omega], by omega, gs.trans (g5.up (by omega)), by simp, by simp [hlen], fun z hz => ?_⟩
      rcases List.mem_append.mp hz with hz | hz
      · exact hok z hz
      · rw [List.mem_singleton] at hz; rw [hz]; exact hy
  · rintro ds s3 ⟨i, n, xs, hL, hin, gs, he, hlen, hok⟩
    have hn0 : n = 0 := by
      cases n with
      | zero => rfl
      | succ n => rw [fromTo_step] at hL; cases hL
    subst hn0
    rw [List.nil_append] at he
    subst he
    have hxl : xs.length = mz.toNat := by omega
    refine ⟨by rw [List.length_map]; exact Nat.le_trans (show xs.length ≤ 8 by omega) (by decide), ?_⟩
    refine Qq xs s3 (hG.trans ((Go.more hG.pool).trans (gs.up (show b + 4 + 8 * i ≤ b + 70 by omega)))) ⟨by omega, ?_⟩
    rw [hxl]
    exact hok
/-! ### spots -/
def allSpots (kinds : Nat) (n : Nat) : List (Int × Int) := (List.range n).flatMap fun i : Nat => (List.range kinds).map fun j : Nat => ((i : Int), (j : Int))
end
end DL
namespace DL
open PySem
section
variable {w l r : Int} {s k : Str} {e : Bool} {ks : List (List Int)} {ac : List Int} {st : Store} {Q : D → Store → Prop} {E : EX} {d : D} {b p : Nat}
theorem run_comp_mapX {α : Type} {ρ : Env} {st : Store} {g : GG} {gd : Store → Prop} {e : GE} {t : GT} (hd : gd st) (en fn : α → D) {xs : List α} {QA : List D → Store → Prop}
    (step : ∀ a ∈ xs, Run (g (en a) ρ) st fun ρ1 s1 => s1 = st ∧ Run (t ρ1) st fun k s2 => k = true ∧ s2 = st ∧ Run (e ρ1) st fun x s3 => x = fn a ∧ s3 = st) (q : QA (xs.map fn) st) : Run (gComp gd g t e ρ (xs.map en)) st QA := by
  refine (run_comp (fun l' acc s => s = st ∧ ∃ ys : List α, (∀ y ∈ ys, y ∈ xs) ∧ l' = ys.map en ∧ acc ++ ys.map fn = xs.map fn) (fun _ _ s h => by rw [h.1]; exact hd) ?_ (xs.map en) [] st ⟨rfl, xs, fun _ h => h, rfl, rfl⟩).mono ?_
  · rintro d l' acc s ⟨rfl, ys, hm, hl, ha⟩
    cases ys with
    | nil => cases hl
    | cons y ys =>
      rw [List.map_cons] at hl
      obtain ⟨rfl, rfl⟩ := List.cons.inj hl
      refine (step y (hm y List.mem_cons_self)).mono ?_
      rintro ρ1 s1 ⟨rfl, h⟩
      refine h.mono ?_
      rintro k s2 ⟨rfl, rfl, h⟩
      rw [if_pos rfl]
      refine h.mono ?_
      rintro x s3 ⟨rfl, rfl⟩
      exact ⟨rfl, ys, fun z hz => hm z (List.mem_cons_of_mem _ hz), rfl, by rw [← ha]; simp⟩
  · rintro ds s ⟨rfl, ys, _, hl, h⟩
    cases ys with
    | nil => simp at h; rw [h]; exact q
    | cons y ys => cases hl
def rowSp (kinds : Nat) (i : Nat) : List (Int × Int) := (List.range kinds).map fun j : Nat => ((i : Int), (j : Int))
def spotsF (kinds : Nat) : Nat → Nat → List (Int × Int)
  | _, 0 => []
  | i, n + 1 => rowSp kinds i ++ spotsF kinds (i + 1) n
theorem rowSp_mem {kinds i : Nat} {q : Int × Int} (h : q ∈ rowSp kinds i) : q.1 = i ∧ 0 ≤ q.2 ∧ q.2 < kinds := by
  obtain ⟨j, hj, rfl⟩ := List.mem_map.mp h
  rw [List.mem_range] at hj
  exact ⟨rfl, by show (0 : Int) ≤ (j : Int); omega, by show (j : Int) < kinds; omega⟩
theorem spots_mem {kinds : Nat} {q : Int × Int} : ∀ (n i : Nat), q ∈ spotsF kinds i n → (i : Int) ≤ q.1 ∧ q.1 < i + n ∧ 0 ≤ q.2 ∧ q.2 < kinds
  | 0, i, h => by cases h
  | n + 1, i, h => by
    rcases List.mem_append.mp (show q ∈ rowSp kinds i ++ spotsF kinds (i + 1) n from h) with h | h
    · have := rowSp_mem h; omega
    · have := spots_mem n (i + 1) h; omega
theorem rowSp_sorted (kinds i : Nat) : (rowSp kinds i).Pairwise fun a b => codeP a < codeP b := by
  unfold rowSp
  rw [List.pairwise_map]
  refine (List.pairwise_lt_range).imp fun {a b} h => ?_
  show (i : Int) * 1000 + (a : Int) < (i : Int) * 1000 + (b : Int)
  omega
theorem spots_sorted {kinds : Nat} (hk : kinds ≤ 1000) : ∀ (n i : Nat), (spotsF kinds i n).Pairwise fun a b => codeP a < codeP b
  | 0, _ => List.Pairwise.nil
  | n + 1, i => by
    show (rowSp kinds i ++ spotsF kinds (i + 1) n).Pairwise _
    refine List.pairwise_append.mpr ⟨rowSp_sorted _ _, spots_sorted hk n (i + 1), fun a ha c hc => ?_⟩
    have h1 := rowSp_mem ha
    have h2 := spots_mem n (i + 1) hc
    unfold codeP
    omega
theorem spots_len (kinds : Nat) : ∀ (n i : Nat), (spotsF kinds i n).length = n * kinds
  | 0, _ => by rw [Nat.zero_mul]; rfl
  | n + 1, i => by
    show (rowSp kinds i ++ spotsF kinds (i + 1) n).length = _
    rw [List.length_append, spots_len kinds n, Nat.add_mul]
    unfold rowSp
    rw [List.length_map, List.length_range]
    omega
theorem setP_self {ps : List (Int × Int)} (hs : ∀ q ∈ ps, smallP q) (h : ps.Pairwise fun a b => codeP a < codeP b) : setP ps = ps := sorted_uniq (set_sorted hs) h fun q => mem_setP
/-- lots that are taken: a part of all spots, in their order -/
structure LotOk (rows kinds : Nat) (ps : List (Int × Int)) : Prop where
  spots : SpotsOk rows kinds ps
  sorted : setP ps = ps
  asc : ps.Pairwise fun a b => codeP a < codeP b
  len : ps.length ≤ 24
theorem lot_of {rows kinds : Nat} (hr : rows ≤ 8) (hk : kinds ≤ 3) {ps : List (Int × Int)} (h : List.Sublist ps (spotsF kinds 0 rows)) : LotOk rows kinds ps := by
  have hm : SpotsOk rows kinds ps := fun q hq => by
    have := spots_mem rows 0 (h.subset hq)
    exact ⟨by omega, by omega, this.2.2.1, this.2.2.2⟩
  have ha := List.Pairwise.sublist h (spots_sorted (by omega) rows 0)
  refine ⟨hm, setP_self (fun q hq => ?_) ha, ha, ?_⟩
  · have := hm q hq
    unfold smallP
    omega
  · have h1 := h.length_le
    rw [spots_len] at h1
    have h2 : rows * kinds ≤ 8 * 3 := Nat.mul_le_mul hr hk
    omega
def invSp (R P : D) (st : Store) (kinds rows : Nat) : List D → Env → Store → Prop := fun L ρ s' => ∃ (i n : Nat) (dn : List (Int × Int)) (m : Store) (v3 v4 : Option D), L = fromTo (i : Int) n ∧ i + n = rows ∧ s' = st ++ .lst (dn.map pairD) :: m ∧ dn.length = i * kinds ∧ ρ = [some R, some P, some (.rf st.length), v3, v4] ∧ dn ++ spotsF kinds i n = spotsF kinds 0 rows
theorem sp_law_spots {P : D} {xs : List Row} (hP : P = progD xs) (hx : xs.length ≤ 8) (hk : ks.length ≤ 3) (q : ∀ m, Q (.rf st.length) (st ++ .lst ((spotsF ks.length 0 xs.length).map pairD) :: m)) : Run (g__law_spots [ruleD w l r s k e ks ac, P]) st Q := by
  subst hP
  have sz : SZ = 16777216 := rfl
  unfold g__law_spots b__law_spots r__law_spots_2
  refine (run_gFn (by rfl)).mpr ?_
  simp [-Bool.exists_bool, startE]
  unfold r__law_spots_1
  simp [-Bool.exists_bool, run_gFor]
  rw [prog_len]
  refine ⟨_, rfl, smallI_of (by omega) (by omega), ?_⟩
  rw [Int.toNat_natCast]
  refine run_loop (invSp (ruleD w l r s k e ks ac) (progD xs) st ks.length xs.length) (fun _ _ _ _ => trivial) ?_ ?_ _ _ _ ⟨0, xs.length, [], [], _, _, rfl, by omega, rfl, by simp, rfl, rfl⟩
  · rintro d l' ρ s' ⟨i, n, dn, m, v3, v4, hL, hin, rfl, hlen, rfl, he⟩
    cases n with
    | zero => cases hL
    | succ n =>
      rw [fromTo_step] at hL
      have h23 := List.cons.inj hL
      rw [h23.1, h23.2]
      clear hL h23
      simp [-Bool.exists_bool]
      refine ⟨smallI_of (by omega) (by omega), ?_⟩
      rw [show fromTo 0 ks.length = (List.range ks.length).map fun j : Nat => D.int ((0 : Int) + (j : Int)) from rfl]
      refine run_comp_mapX trivial (fun j : Nat => D.int ((0 : Int) + (j : Int))) (fun j : Nat => pairD ((i : Int), (j : Int))) ?_ ?_
      · intro j hj
        simp [-Bool.exists_bool, wipeE]
        exact ⟨by decide, rfl⟩
      have hrow : ((List.range ks.length).map fun j : Nat => pairD ((i : Int), (j : Int))) = (rowSp ks.length i).map pairD := by
        unfold rowSp; rw [List.map_map]; rfl
      rw [hrow]
      have hrl : (rowSp ks.length i).length = ks.length := by unfold rowSp; simp
      have h24 : i * ks.length ≤ 8 * 3 := Nat.mul_le_mul (by omega) hk
      refine ⟨by rw [List.length_map, hrl]; omega, _, get_at, by rw [List.length_map, List.length_map, hrl]; omega, ?_⟩
      rw [set_at, ← List.map_append]
      refine ⟨i + 1, n, dn ++ rowSp ks.length i, m, _, _, by rw [show ((i + 1 : Nat) : Int) = (i : Int) + 1 by omega], by omega, rfl, ?_, rfl, ?_⟩
      · rw [List.length_append, hrl, hlen, Nat.add_mul]; omega
      · rw [List.append_assoc]; exact he
  · rintro ρ s' ⟨i, n, dn, m, v3, v4, hL, hin, rfl, hlen, rfl, he⟩
    have hn0 : n = 0 := by
      cases n with
      | zero => rfl
      | succ n => rw [fromTo_step] at hL; cases hL
    subst hn0
    have he : dn ++ [] = _ := he
    rw [List.append_nil] at he
    simp [-Bool.exists_bool]
    rw [he]
    exact q _
end
end DL
namespace DL
open PySem
section
variable {w l r : Int} {s k : Str} {e : Bool} {ks : List (List Int)} {ac : List Int} {st : Store} {Q : D → Store → Prop} {E : EX} {d : D} {b p : Nat}
theorem ha_opD (op : Op) : HA st (opD op) := by cases op <;> simp [opD]
theorem ha_rowD (x : Row) : HA st (rowD x) := by
  simp only [rowD, ha_tup, List.mem_cons, List.not_mem_nil, or_false]
  rintro d (rfl | rfl | rfl)
  · exact ha_opD _
  · exact ha_tupI _
  · exact ha_tupI _
theorem ha_progD (xs : List Row) : HA st (progD xs) := by
  simp only [progD, ha_tup]
  intro d hd
  obtain ⟨x, _, rfl⟩ := List.mem_map.mp hd
  exact ha_rowD x
theorem opB_ok {n : Int} {op : Op} (h : OpOk n op) : opB n (opD op) = true := by
  cases op with
  | pass => rfl
  | write p => show (wordB PW3 (.str (Str.ofString "write")) && intIn 0 (n - 1) (.int p)) = true; rw [show wordB PW3 (.str (Str.ofString "write")) = true from by decide +kernel]; simp [intIn]; have := h; simp [OpOk] at this; omega
  | put p => show (wordB PW3 (.str (Str.ofString "put")) && intIn 0 (n - 1) (.int p)) = true; rw [show wordB PW3 (.str (Str.ofString "put")) = true from by decide +kernel]; simp [intIn]; have := h; simp [OpOk] at this; omega
  | read p => show (wordB PW3 (.str (Str.ofString "read")) && intIn 0 (n - 1) (.int p)) = true; rw [show wordB PW3 (.str (Str.ofString "read")) = true from by decide +kernel]; simp [intIn]; have := h; simp [OpOk] at this; omega
theorem rowB_ok {n : Nat} {x : Row} (h : RowOk w l ks n x) : rowB (w * l) ks.length n (rowD x) = true := by
  show (opB (w * l) (opD x.op) && numsB ks.length (tupI x.fences) && numsB n (tupI x.nexts)) = true
  rw [opB_ok h.op, show numsB ks.length (tupI x.fences) = true from h.fences, show numsB n (tupI x.nexts) = true from h.nexts]
  rfl
theorem rowsB_ok {xs : List Row} (h : ProgOk w l ks xs) : rowsB (w * l) ks.length (progD xs) = true := by
  have h1 := h.len
  show (lenB 1 8 (.tup (xs.map rowD)) && (xs.map rowD).all (rowB (w * l) ks.length ((xs.map rowD).length : Nat))) = true
  rw [show lenB 1 8 (.tup (xs.map rowD)) = true from by simp [lenB]; omega]
  simp only [Bool.true_and, List.all_eq_true, List.length_map]
  intro d hd
  obtain ⟨x, hx, rfl⟩ := List.mem_map.mp hd
  exact rowB_ok (h.rows x hx)
theorem lt_uniq : ∀ {as bs : List Int}, as.Pairwise (· < ·) → bs.Pairwise (· < ·) → (∀ q, q ∈ as ↔ q ∈ bs) → as = bs
  | [], [], _, _, _ => rfl
  | [], b :: bs, _, _, h => absurd ((h b).mpr List.mem_cons_self) (by simp)
  | a :: as, [], _, _, h => absurd ((h a).mp List.mem_cons_self) (by simp)
  | a :: as, b :: bs, h1, h2, h => by
    obtain ⟨a1, a2⟩ := List.pairwise_cons.mp h1
    obtain ⟨b1, b2⟩ := List.pairwise_cons.mp h2
    have e : a = b := by
      rcases List.mem_cons.mp ((h a).mp List.mem_cons_self) with e | ha
      · exact e
      rcases List.mem_cons.mp ((h b).mpr List.mem_cons_self) with e | hb
      · exact e.symm
      have := b1 a ha
      have := a1 b hb
      omega
    subst e
    congr 1
    refine lt_uniq a2 b2 fun q => ?_
    constructor
    · intro hq
      rcases List.mem_cons.mp ((h q).mp (List.mem_cons_of_mem _ hq)) with e | hq2
      · subst e; have := a1 q hq; omega
      · exact hq2
    · intro hq
      rcases List.mem_cons.mp ((h q).mpr (List.mem_cons_of_mem _ hq)) with e | hq2
      · subst e; have := b1 q hq; omega
      · exact hq2
theorem asc_lt {lim : Int} : ∀ (l : List Int) (least : Int), ascB lim least (l.map D.int) = true → l.Pairwise (· < ·) ∧ ∀ k ∈ l, least ≤ k ∧ k < lim
  | [], _, _ => ⟨List.Pairwise.nil, fun k h => by cases h⟩
  | x :: l, least, h => by
    have h' : (intIn least (lim - 1) (.int x) && ascB lim (x + 1) (l.map D.int)) = true := h
    rw [Bool.and_eq_true] at h'
    obtain ⟨a, c⟩ := asc_lt l (x + 1) h'.2
    have hx := h'.1
    simp [intIn] at hx
    refine ⟨List.pairwise_cons.mpr ⟨fun y hy => by have := (c y hy).1; omega, a⟩, fun y hy => ?_⟩
    rcases List.mem_cons.mp hy with rfl | hy
    · omega
    · have := c y hy; omega
theorem setI_again (f a : List Int) : setI (setI (f ++ a) ++ a) = setI (f ++ a) := lt_uniq (setI_lt _) (setI_lt _) fun q => by
  rw [setI_mem, List.mem_append, setI_mem, List.mem_append]
  constructor
  · rintro (h | h)
    · exact h
    · exact .inr h
  · exact .inl
theorem setI_asc_self {lim : Int} {f : List Int} (h : ascB lim 0 (f.map D.int) = true) : setI f = f := lt_uniq (setI_lt _) (asc_lt f 0 h).1 fun q => setI_mem
theorem withR_again (ps : List (Int × Int)) : ∀ (xs : List Row) (i : Nat), withR ps i (withR ps i xs) = withR ps i xs
  | [], _ => rfl
  | x :: xs, i => by
    show (⟨x.op, setI (setI (x.fences ++ addsF ps i) ++ addsF ps i), x.nexts⟩ : Row) :: withR ps (i + 1) (withR ps (i + 1) xs) = ⟨x.op, setI (x.fences ++ addsF ps i), x.nexts⟩ :: withR ps (i + 1) xs
    rw [setI_again, withR_again ps xs]
theorem withR_nil {n : Nat} : ∀ (xs : List Row) (i : Nat), (∀ x ∈ xs, RowOk w l ks n x) → withR [] i xs = xs
  | [], _, _ => rfl
  | x :: xs, i, h => by
    have hx := h x List.mem_cons_self
    show (⟨x.op, setI (x.fences ++ addsF [] i), x.nexts⟩ : Row) :: withR [] (i + 1) xs = x :: xs
    rw [withR_nil xs (i + 1) fun y hy => h y (List.mem_cons_of_mem _ hy), show addsF [] i = [] from rfl, List.append_nil, setI_asc_self hx.fences]
theorem withR_len (ps : List (Int × Int)) : ∀ (xs : List Row) (i : Nat), (withR ps i xs).length = xs.length
  | [], _ => rfl
  | x :: xs, i => by show (withR ps (i + 1) xs).length + 1 = _; rw [withR_len ps xs]; rfl
theorem withR_ok {n : Nat} {rows : Int} {ps : List (Int × Int)} (hp : SpotsOk rows ks.length ps) : ∀ (xs : List Row) (i : Nat), (∀ x ∈ xs, RowOk w l ks n x) → ∀ x ∈ withR ps i xs, RowOk w l ks n x
  | [], _, _ => fun x hx => by cases hx
  | x :: xs, i, h => fun y hy => by
    rcases List.mem_cons.mp (show y ∈ (⟨x.op, setI (x.fences ++ addsF ps i), x.nexts⟩ : Row) :: withR ps (i + 1) xs from hy) with rfl | hy
    · have hx := h x List.mem_cons_self
      refine ⟨hx.op, setI_asc fun k hk => ?_, hx.nexts⟩
      rcases List.mem_append.mp hk with hk | hk
      · have := (asc_lt _ _ hx.fences).2 k hk; omega
      · unfold addsF at hk
        obtain ⟨q, hq, rfl⟩ := List.mem_map.mp hk
        have := hp q (List.mem_filter.mp hq).1
        exact this.2.2
    · exact withR_ok hp xs (i + 1) (fun z hz => h z (List.mem_cons_of_mem _ hz)) y hy
theorem fences_len (hk : ks.length ≤ 3) {n : Nat} {x : Row} (h : RowOk w l ks n x) : x.fences.length ≤ 3 := by
  obtain ⟨h1, h2⟩ := asc_lt _ _ h.fences
  have key : ∀ (l : List Int) (a c : Int), l.Pairwise (· < ·) → (∀ k ∈ l, a ≤ k ∧ k < c) → (l.length : Int) ≤ max 0 (c - a) := by
    intro l
    induction l with
    | nil => intro a c _ _; simp; omega
    | cons x l ih =>
      intro a c hp hb
      obtain ⟨p1, p2⟩ := List.pairwise_cons.mp hp
      have := ih (x + 1) c p2 fun k hk => ⟨by have := p1 k hk; omega, (hb k (List.mem_cons_of_mem _ hk)).2⟩
      have := hb x List.mem_cons_self
      rw [List.length_cons]
      omega
  have := key _ 0 ks.length h1 h2
  omega
theorem spx_with_fences (hv : VR w l r s k ks ac) {xs : List Row} (hx : ProgOk w l ks xs) (h : HA st d) (hl : ∀ ds, d = .tup ds → ds.length < 50) (good : ∀ ps, d = .tup (ps.map pairD) → SpotsOk xs.length ks.length ps → setP ps = ps → ∀ m, Q (progD (withR ps 0 xs)) (st ++ m))
    (bad : (∀ ps, d = .tup (ps.map pairD) → SpotsOk xs.length ks.length ps → setP ps ≠ ps) → E "BadSpot" .non st) : RunX (g_with_fences [ruleD w l r s k e ks ac, progD xs, d]) st Q E := by
  have hk3 := hv.hks.1
  unfold g_with_fences b_with_fences r_with_fences_2
  refine (runX_gFn (by rfl)).mpr ?_
  simp [-Bool.exists_bool, startE]
  refine spx_check_program hv (ha_progD xs) (fun _ => ?_) fun c => by rw [rowsB_ok hx] at c; cases c
  unfold r_with_fences_1
  simp [-Bool.exists_bool]
  refine spx_check_lot hx.len.2 hk3 h (fun ds e => by have := hl ds e; omega) (fun ps e hs hso => ?_) bad
  subst e
  have hlen := hl _ rfl
  rw [List.length_map] at hlen
  exact sp_program_with hx.len.2 (fun x hxx => fences_len hk3 (hx.rows x hxx)) (by omega) (good ps rfl hs hso)
theorem prog_ok2 {xs : List Row} {ps : List (Int × Int)} {rows : Int} (hx : ProgOk w l ks xs) (hp : SpotsOk rows ks.length ps) : ProgOk w l ks (withR ps 0 xs) := ⟨by rw [withR_len]; exact hx.len, by rw [withR_len]; exact withR_ok hp xs 0 hx.rows⟩
theorem inj_pairs : ∀ {a c : List (Int × Int)}, a.map pairD = c.map pairD → a = c
  | [], [], _ => rfl
  | [], y :: c, h => by cases h
  | x :: a, [], h => by cases h
  | x :: a, y :: c, h => by
    rw [List.map_cons, List.map_cons] at h
    obtain ⟨h1, h2⟩ := List.cons.inj h
    have : x = y := by
      unfold pairD at h1
      obtain ⟨a1, a2⟩ := x
      obtain ⟨b1, b2⟩ := y
      simp at h1
      rw [h1.1, h1.2]
    rw [this, inj_pairs h2]
theorem ha_pairs (ps : List (Int × Int)) : HA st (.tup (ps.map pairD)) := .tup _ fun d hd => by
  obtain ⟨p, _, rfl⟩ := List.mem_map.mp hd
  exact .tup _ fun d hd => by
    simp only [List.mem_cons, List.not_mem_nil, or_false] at hd
    rcases hd with rfl | rfl <;> exact .int _
theorem sp_with_good (hv : VR w l r s k ks ac) {xs : List Row} (hx : ProgOk w l ks xs) {ps : List (Int × Int)} (hs : SpotsOk xs.length ks.length ps) (hso : setP ps = ps) (hlen : ps.length < 50) (q : ∀ m, Q (progD (withR ps 0 xs)) (st ++ m)) : Run (g_with_fences [ruleD w l r s k e ks ac, progD xs, .tup (ps.map pairD)]) st Q := by
  refine run_iffX.mpr (spx_with_fences hv hx (ha_pairs ps) (fun ds e => by cases e; rw [List.length_map]; exact hlen) (fun ps2 e _ _ m => ?_) fun z => ?_)
  · have : ps.map pairD = ps2.map pairD := by injection e
    rw [← inj_pairs this]
    exact q m
  · exact z ps rfl hs hso
end
end DL
namespace DL
open PySem
section
variable {w l r : Int} {s k : Str} {e : Bool} {ks : List (List Int)} {ac : List Int} {st : Store} {Q : D → Store → Prop} {E : EX} {d : D} {b p : Nat}
theorem sp_only {S : Store} {n : Nat} {fs : List (Str × D)} (hn : S[n]? = some (.oth (.exn (Str.ofString "BadSpot") fs))) (q : ∀ m, Q (.bl true) (S ++ m)) : Run (g__law_only [.ob n, .int 4]) S Q := by
  have hm : ∀ m : Store, (S ++ m)[n]? = some (.oth (.exn (Str.ofString "BadSpot") fs)) := fun m => by
    rw [List.getElem?_append_left (List.getElem?_eq_some_iff.mp hn).1]; exact hn
  have isx : ∀ (t : List (Str × Bool)) (c : Bool) (m : Store) (R : D → Store → Prop), t.lookup (Str.ofString "BadSpot") = some c → R (.bl c) (S ++ m) → Run (vIsX t (.ob n)) (S ++ m) R := fun t c m R ht hR => run_isX.mpr ⟨_, _, _, hm m, ht, hR⟩
  have isx0 : ∀ (t : List (Str × Bool)) (c : Bool) (R : D → Store → Prop), t.lookup (Str.ofString "BadSpot") = some c → R (.bl c) S → Run (vIsX t (.ob n)) S R := fun t c R ht hR => run_isX.mpr ⟨_, _, _, hn, ht, hR⟩
  unfold g__law_only b__law_only r__law_only_4
  refine (run_gFn (by rfl)).mpr ?_
  simp [-Bool.exists_bool, startE, hn]
  refine ⟨false, by decide +kernel, false, by decide +kernel, false, by decide +kernel, by decide, ?_⟩
  unfold r__law_only_3
  simp [-Bool.exists_bool, hm]
  refine ⟨false, by decide +kernel, true, by decide +kernel, false, by decide +kernel, by decide, by decide, ?_⟩
  unfold r__law_only_2
  simp [-Bool.exists_bool, hm]
  refine ⟨false, by decide +kernel, ?_⟩
  refine ⟨by decide, ?_⟩
  generalize hl1 : S.length + 2 = nk
  have hc0 : cellItems (S ++ [Cell.lst [D.bl false, D.bl false, D.bl false], Cell.lst [D.bl false, D.bl true, D.bl false], Cell.lst [D.bl false, D.bl false, D.bl false, D.bl false, D.bl true, D.bl false, D.bl false]]) nk = some [D.bl false, D.bl false, D.bl false, D.bl false, D.bl true, D.bl false, D.bl false] := by
    rw [← hl1]
    unfold cellItems
    rw [List.getElem?_append_right (by omega), show S.length + 2 - S.length = 2 by omega]
    rfl
  generalize [Cell.lst [D.bl false, D.bl false, D.bl false], Cell.lst [D.bl false, D.bl true, D.bl false], Cell.lst [D.bl false, D.bl false, D.bl false, D.bl false, D.bl true, D.bl false, D.bl false]] = m1 at hc0 ⊢
  unfold r__law_only_1
  simp [-Bool.exists_bool, hm]
  refine ⟨true, by decide +kernel, ?_⟩
  rw [if_pos rfl]
  refine ⟨false, by decide +kernel, ?_⟩
  rw [if_neg (by decide)]
  refine ⟨by decide, ?_⟩
  rw [show fromTo 0 7 = (List.range 7).map fun j : Nat => D.int ((0 : Int) + (j : Int)) from rfl]
  refine run_comp_mapX trivial (fun j : Nat => D.int ((0 : Int) + (j : Int))) (fun j : Nat => .bl ((j : Int) == 4)) ?_ ?_
  · intro j hj
    simp [-Bool.exists_bool, wipeE]
    exact eqPy_int
  have hds : ((List.range 7).map fun j : Nat => D.bl ((j : Int) == 4)) = [D.bl false, D.bl false, D.bl false, D.bl false, D.bl true, D.bl false, D.bl false] := rfl
  rw [hds]
  have hc1 : cellItems (S ++ m1 ++ [Cell.lst [D.bl false, D.bl false, D.bl false, D.bl false, D.bl true, D.bl false, D.bl false]]) nk = some [D.bl false, D.bl false, D.bl false, D.bl false, D.bl true, D.bl false, D.bl false] := by
    have hlt : nk < (S ++ m1).length := by
      unfold cellItems at hc0
      by_cases c : nk < (S ++ m1).length
      · exact c
      · rw [List.getElem?_eq_none (by omega)] at hc0; cases hc0
    unfold cellItems at hc0 ⊢
    rw [List.getElem?_append_left hlt]
    exact hc0
  have hok : ∀ x ∈ [D.bl false, D.bl false, D.bl false, D.bl false, D.bl true, D.bl false, D.bl false], okD 1 x := fun x hx => by
    simp only [List.mem_cons, List.not_mem_nil, or_false] at hx
    rcases hx with rfl | rfl | rfl | rfl | rfl | rfl | rfl <;> trivial
  refine ⟨by decide, _, eqPy_reflL (n := 1) (by decide) hok hc1 cell_lastL, ?_⟩
  rw [if_pos rfl]
  refine ⟨_, ⟨_, by rw [List.append_assoc]; exact hm _⟩, false, by decide +kernel, ?_⟩
  rw [List.append_assoc]
  exact q _
theorem sp_refused (hv : VR w l r s k ks ac) {xs : List Row} (hx : ProgOk w l ks xs) (h : HA st d) (hl : ∀ ds, d = .tup ds → ds.length < 50) (bad : ∀ ps, d = .tup (ps.map pairD) → SpotsOk xs.length ks.length ps → setP ps ≠ ps) (q : ∀ m, Q (.bl true) (st ++ m)) : Run (g__law_refused [ruleD w l r s k e ks ac, progD xs, d]) st Q := by
  unfold g__law_refused b__law_refused r__law_refused_2
  refine (run_gFn (by rfl)).mpr ?_
  simp [-Bool.exists_bool, startE]
  unfold r__law_refused_1
  simp [-Bool.exists_bool, run_gTry]
  refine spx_with_fences hv hx h hl (fun ps e hs hso => absurd hso (bad ps e hs)) fun _ => ?_
  refine (tryQ_true (by decide +kernel)).mpr ?_
  refine sp_only (fs := fsOf .non) (by simp) fun m => ?_
  have := q ([Cell.oth (Oth.exn (Str.ofString "BadSpot") (fsOf .non))] ++ m)
  rw [← List.append_assoc] at this
  exact this
end
end DL
namespace DL
open PySem
section
variable {w l r : Int} {s k : Str} {e : Bool} {ks : List (List Int)} {ac : List Int} {st : Store} {Q : D → Store → Prop} {E : EX} {d : D} {b p : Nat}
theorem fm_none (f : D → Bool) (ds : List D) (h : ∀ x ∈ ds, f x = true) : (ds.filterMap fun x => if f x = true then none else some x) = [] := by
  rw [List.filterMap_eq_nil_iff]
  intro x hx
  rw [if_pos (h x hx)]
theorem eq_empty {S : Store} {m : Store} : eqPy (.rf S.length) (.rf (S.length + 1)) (S ++ .lst [] :: .lst [] :: m) = some true := by
  have h0 : cellItems (S ++ Cell.lst [] :: Cell.lst [] :: m) S.length = some [] := by unfold cellItems; simp
  have h1 : cellItems (S ++ Cell.lst [] :: Cell.lst [] :: m) (S.length + 1) = some [] := by
    unfold cellItems
    rw [List.getElem?_append_right (by omega), show S.length + 1 - S.length = 1 by omega]; rfl
  exact eqPy_reflL (n := 1) (by decide) (fun x h => by cases h) h0 h1
theorem sp_plain {xs : List Row} (hx : xs.length ≤ 8) (q : ∀ m, Q (.bl true) (st ++ m)) : Run (g__law_plain [progD xs]) st Q := by
  unfold g__law_plain b__law_plain r__law_plain_1
  refine (run_gFn (by rfl)).mpr ?_
  have hT : ∀ S : Store, Has S (progD xs) := fun S => (ha_progD xs).has
  simp [-Bool.exists_bool, startE, run_isi, hT]
  rw [show progD xs = .tup (xs.map rowD) from rfl]
  simp [-Bool.exists_bool, isTy]
  refine run_comp_fmX trivial rowD (fun _ => none) ?_ ?_
  · intro x hx
    have hr : ∀ S : Store, Has S (rowD x) := fun S => (ha_rowD x).has
    simp [-Bool.exists_bool, wipeE, run_isi, hr]
    rfl
  have h0 : (xs.filterMap fun _ => (none : Option D)) = [] := by rw [List.filterMap_eq_nil_iff]; intro _ _; rfl
  rw [h0]
  refine ⟨by decide, ?_⟩
  refine ⟨_, eq_empty (m := []), false, rfl, ?_⟩
  rw [if_neg (by decide)]
  refine run_comp_fmX trivial rowD (fun _ => none) ?_ ?_
  · intro x hx
    have hr1 : ∀ (S : Store) (ys : List Int), Has S (tupI ys) := fun S ys => (ha_tupI ys).has
    simp [-Bool.exists_bool, wipeE]
    rw [row_ix1]
    rw [run_isi]
    refine ⟨hr1 _ _, ?_⟩
    refine ⟨true, rfl, rfl, ?_⟩
    rw [row_ix2, run_isi]
    exact ⟨hr1 _ _, rfl, rfl⟩
  rw [h0]
  refine ⟨by decide, _, eq_empty (m := []), ?_⟩
  rw [List.append_assoc]
  exact q _
theorem cut_lo {α : Type} (xs : List α) {n : Int} (h : 0 ≤ n) : cutD xs none (some n) = xs.take n.toNat := by
  unfold cutD sIx
  simp only
  rw [if_neg (by omega), List.drop_zero, Nat.sub_zero]
  by_cases c : n.toNat ≤ xs.length
  · rw [Nat.min_eq_left c]
  · rw [Nat.min_eq_right (by omega), List.take_of_length_le (Nat.le_refl _), List.take_of_length_le (by omega)]
theorem cut_hi {α : Type} (xs : List α) {n : Int} (h : 0 ≤ n) : cutD xs (some n) none = xs.drop n.toNat := by
  unfold cutD sIx
  simp only
  rw [if_neg (by omega)]
  by_cases c : n.toNat ≤ xs.length
  · rw [Nat.min_eq_left c, List.take_of_length_le (by simp)]
  · rw [Nat.min_eq_right (by omega), List.drop_of_length_le (Nat.le_refl _), List.drop_of_length_le (by omega)]; simp
/-- a sorted lot that is spoilt -/
theorem not_sorted {as cs : List (Int × Int)} {p q : Int × Int} (h : codeP q ≤ codeP p) {rows kinds : Int} (hs : SpotsOk rows kinds (as ++ p :: q :: cs)) (hr : rows ≤ 1000) (hk : kinds ≤ 1000) : setP (as ++ p :: q :: cs) ≠ as ++ p :: q :: cs := by
  intro z
  have hsm : ∀ x ∈ as ++ p :: q :: cs, smallP x := fun x hx => by
    have := hs x hx
    unfold smallP
    omega
  have hso := set_sorted hsm
  rw [z] at hso
  have h2 := (List.pairwise_append.mp hso).2.1
  have h3 := (List.pairwise_cons.mp h2).1 q List.mem_cons_self
  omega
theorem sp_no_lot (hv : VR w l r s k ks ac) (hp : PoolOk b st p) (hb : b ≤ 2 ^ 20) {xs : List Row} (hx : xs.length ≤ 8) {ps : List (Int × Int)} (hlot : LotOk xs.length ks.length ps)
    (Qq : ∀ d st', Go (b + 2) p st st' → HA st' d → (∀ ds, d = .tup ds → ds.length < 50) → (∀ qs, d = .tup (qs.map pairD) → SpotsOk xs.length ks.length qs → setP qs ≠ qs) → Q d st') : Run (g__law_no_lot [.rf p, ruleD w l r s k e ks ac, progD xs, .tup (ps.map pairD)]) st Q := by
  have hk3 := hv.hks.1
  have hlen := hlot.len
  have sz : SZ = 16777216 := rfl
  unfold g__law_no_lot b__law_no_lot r__law_no_lot_7
  refine (run_gFn (by rfl)).mpr ?_
  simp [-Bool.exists_bool, startE]
  refine sp_draw hp (by omega) (by omega) (by omega) fun d1 st1 a1 b1 g1 => ?_
  unfold r__law_no_lot_6
  simp [-Bool.exists_bool]
  refine sp_draw g1.pool (by omega) (by decide) (by decide) fun d2 st2 a2 b2 g2 => ?_
  have hG := g1.trans g2
  unfold r__law_no_lot_5
  simp [-Bool.exists_bool]
  -- the spot at the place, with what stands ahead and behind
  have hsp : ∃ (as cs : List (Int × Int)) (pr : Int × Int), atD (ps.map pairD ++ [D.tup [D.int 0, D.int 0]]) d1 = some (pairD pr) ∧ cutD (ps.map pairD) none (some d1) = as.map pairD ∧ cutD (ps.map pairD) (some (d1 + 1)) none = cs.map pairD ∧ as.length + cs.length ≤ 24 ∧ 0 ≤ pr.1 ∧ 0 ≤ pr.2 ∧ pr.1 < 1000 ∧ pr.2 < 1000 ∧ SpotsOk 1000 1000 as ∧ SpotsOk 1000 1000 cs := by
    obtain ⟨n, rfl⟩ : ∃ n : Nat, d1 = n := ⟨d1.toNat, by omega⟩
    have big : ∀ q ∈ ps, 0 ≤ q.1 ∧ q.1 < 1000 ∧ 0 ≤ q.2 ∧ q.2 < 1000 := fun q hq => by have := hlot.spots q hq; omega
    refine ⟨ps.take n, ps.drop (n + 1), (ps ++ [(0, 0)]).getD n (0, 0), ?_, ?_, ?_, by rw [List.length_take, List.length_drop]; omega, ?_⟩
    · have hl : n < (ps ++ [((0 : Int), (0 : Int))]).length := by rw [List.length_append, List.length_singleton]; omega
      rw [show ps.map pairD ++ [D.tup [D.int 0, D.int 0]] = (ps ++ [((0 : Int), (0 : Int))]).map pairD by rw [List.map_append]; rfl, atD_nat (by rw [List.length_map]; exact hl), List.getElem?_map, List.getD_eq_getElem?_getD, List.getElem?_eq_getElem hl]
      rfl
    · rw [cut_lo _ (by omega), List.map_take, Int.toNat_natCast]
    · rw [cut_hi _ (by omega), List.map_drop]; rfl
    · have hpr : (ps ++ [((0 : Int), (0 : Int))]).getD n (0, 0) ∈ ps ++ [((0 : Int), (0 : Int))] := by
        have hl : n < (ps ++ [((0 : Int), (0 : Int))]).length := by rw [List.length_append, List.length_singleton]; omega
        rw [List.getD_eq_getElem?_getD, List.getElem?_eq_getElem hl]
        exact List.getElem_mem hl
      have hb2 : ∀ q ∈ ps ++ [((0 : Int), (0 : Int))], 0 ≤ q.1 ∧ q.1 < 1000 ∧ 0 ≤ q.2 ∧ q.2 < 1000 := fun q hq => by
        rcases List.mem_append.mp hq with hq | hq
        · exact big q hq
        · rw [List.mem_singleton] at hq; subst hq; decide
      have := hb2 _ hpr
      exact ⟨this.1, this.2.2.1, this.2.1, this.2.2.2, fun q hq => big q (List.mem_of_mem_take hq), fun q hq => big q (List.mem_of_mem_drop hq)⟩
  obtain ⟨as, cs, pr, e1, e2, e3, hac, p1, p2, p3, p4, has, hcs⟩ := hsp
  refine ⟨by decide, by decide, by omega, _, e1, ?_⟩
  simp [-Bool.exists_bool, pairD]
  have two : ∀ second : Int × Int, codeP second ≤ codeP pr → ∀ S, Go (b + 2) p st S → Q (.tup (as.map pairD ++ ([pr, second].map pairD ++ cs.map pairD))) S := fun second hcode S gg => by
    have ed : as.map pairD ++ ([pr, second].map pairD ++ cs.map pairD) = (as ++ pr :: second :: cs).map pairD := by simp
    rw [ed]
    refine Qq _ S gg (ha_pairs _) (fun ds e => by cases e; rw [List.length_map, List.length_append, List.length_cons, List.length_cons]; omega) fun qs e hs z => ?_
    have : (as ++ pr :: second :: cs).map pairD = qs.map pairD := by injection e
    rw [← inj_pairs this] at hs z
    have h31 : (xs.length : Int) ≤ 1000 := by omega
    have h32 : (ks.length : Int) ≤ 1000 := by omega
    exact not_sorted hcode hs h31 h32 z
  have odd : ∀ x : D, (∀ q : Int × Int, x = pairD q → ¬(0 ≤ q.1 ∧ q.1 < xs.length ∧ 0 ≤ q.2 ∧ q.2 < ks.length)) → ∀ S, HA S x → Go (b + 2) p st S → Q (.tup (as.map pairD ++ ([x] ++ cs.map pairD))) S := fun x hxx S hS gg => by
    refine Qq _ S gg (.tup _ fun d hd => ?_) (fun ds e => by cases e; rw [List.length_append, List.length_append, List.length_map, List.length_map, List.length_singleton]; omega) fun qs e hs z => ?_
    · have hA := ha_tup.mp (ha_pairs (st := S) as)
      have hC := ha_tup.mp (ha_pairs (st := S) cs)
      rcases List.mem_append.mp hd with hd | hd
      · exact hA d hd
      rcases List.mem_append.mp hd with hd | hd
      · rw [List.mem_singleton] at hd; rw [hd]; exact hS
      · exact hC d hd
    · have e5 : as.map pairD ++ ([x] ++ cs.map pairD) = qs.map pairD := by injection e
      have hm : x ∈ qs.map pairD := by rw [← e5]; simp
      obtain ⟨q, hq, rfl⟩ := List.mem_map.mp hm
      exact hxx q rfl (hs q hq)
  unfold r__law_no_lot_4
  simp [-Bool.exists_bool]
  refine ⟨_, eqPy_int, ?_⟩
  by_cases c0 : d2 = 0
  · rw [if_pos (by simpa using c0)]
    refine Qq _ _ (hG.trans (Go.more hG.pool)) (.rf _ ⟨ps.map pairD, by simp⟩) (fun ds e => by cases e) (fun qs e => by cases e)
  rw [if_neg (by simpa using c0)]
  unfold r__law_no_lot_3
  simp [-Bool.exists_bool]
  by_cases c1 : d2 < 3
  · rw [if_pos c1]
    unfold r__law_no_lot_1
    simp [-Bool.exists_bool]
    have hd2 : d2 = 1 ∨ d2 = 2 := by omega
    rw [e2, e3]
    rcases hd2 with rfl | rfl
    · refine ⟨by decide, pairD pr, rfl, by decide, by rw [List.length_map]; omega, by rw [List.length_map, List.length_map]; omega, ?_⟩
      exact two pr (Int.le_refl _) st2 hG
    · refine ⟨by decide, pairD (0, 0), rfl, by decide, by rw [List.length_map]; omega, by rw [List.length_map, List.length_map]; omega, ?_⟩
      exact two (0, 0) (by unfold codeP; show (0 : Int) * 1000 + 0 ≤ pr.1 * 1000 + pr.2; omega) st2 hG
  rw [if_neg c1]
  unfold r__law_no_lot_2
  simp [-Bool.exists_bool]
  rw [prog_len, e2, e3]
  have hcell : ∀ (c : Cell) (L : List D), cellItems (st2 ++ [c, .lst L]) (st2.length + 1) = some L := fun c L => by unfold cellItems; simp
  refine ⟨by decide, by decide, by decide, by decide, _, hcell _ _, ?_⟩
  obtain ⟨x, hxm, ex⟩ := atD_mem (xs := [D.tup [D.int xs.length, D.int pr.2], D.tup [D.int pr.1, D.int ks.length], D.tup [D.int (-1), D.int pr.2], D.tup [D.int pr.1, D.int (-1)], D.rf st2.length, D.tup [D.int pr.1, D.int pr.2, D.int 0], D.tup [D.bl true, D.int (-1)]]) (i := d2 - 3) (by omega) (by show d2 - 3 < 7; omega)
  refine ⟨x, ex, by decide, by rw [List.length_map]; omega, by rw [List.length_map, List.length_map]; omega, ?_⟩
  have gg : ∀ m : Store, Go (b + 2) p st (st2 ++ m) := fun m => hG.trans (Go.more hG.pool)
  have hI : ∀ (S : Store) (i j : Int), HA S (.tup [.int i, .int j]) := fun S i j => .tup _ fun d hd => by
    simp only [List.mem_cons, List.not_mem_nil, or_false] at hd
    rcases hd with rfl | rfl <;> exact .int _
  have pd : ∀ {i j : Int} {q : Int × Int}, D.tup [D.int i, D.int j] = pairD q → q.1 = i ∧ q.2 = j := fun {i j q} e => by
    unfold pairD at e
    simp at e
    exact ⟨e.1.symm, e.2.symm⟩
  simp only [List.mem_cons, List.not_mem_nil, or_false] at hxm
  rcases hxm with rfl | rfl | rfl | rfl | rfl | rfl | rfl
  · exact odd _ (fun q e => by have := pd e; omega) _ (hI _ _ _) (gg _)
  · exact odd _ (fun q e => by have := pd e; omega) _ (hI _ _ _) (gg _)
  · exact odd _ (fun q e => by have := pd e; omega) _ (hI _ _ _) (gg _)
  · exact odd _ (fun q e => by have := pd e; omega) _ (hI _ _ _) (gg _)
  · exact odd _ (fun q e => by cases e) _ (.rf _ ⟨[D.int pr.1, D.int pr.2], by simp⟩) (gg _)
  · refine odd _ (fun q e => by unfold pairD at e; simp at e) _ (.tup _ fun d hd => ?_) (gg _)
    simp only [List.mem_cons, List.not_mem_nil, or_false] at hd
    rcases hd with rfl | rfl | rfl <;> exact .int _
  · refine odd _ (fun q e => by unfold pairD at e; simp at e) _ (.tup _ fun d hd => ?_) (gg _)
    simp only [List.mem_cons, List.not_mem_nil, or_false] at hd
    rcases hd with rfl | rfl
    · exact .bl _
    · exact .int _
end
end DL
namespace DL
open PySem
theorem okD_opD {n : Nat} {op : Op} : okD (n + 2) (opD op) := by
  cases op <;> simp [opD, okD, SeqAt.shaped] <;> decide +kernel
def LawQ : D → Store → Prop := fun d _ => d = .bl true
section
variable {w l r : Int} {s k : Str} {e : Bool} {ks : List (List Int)} {ac : List Int} {st : Store} {Q : D → Store → Prop} {E : EX} {d : D} {b p : Nat}
theorem okD_prog {n : Nat} {xs : List Row} (hx : xs.length ≤ 8) (hr : ∀ x ∈ xs, x.fences.length ≤ 100 ∧ x.nexts.length ≤ 100) : okD 8 (progD xs) := by
  refine ⟨by rw [List.length_map]; omega, fun d hd => ?_⟩
  obtain ⟨x, hx, rfl⟩ := List.mem_map.mp hd
  have ht : ∀ ys : List Int, ys.length ≤ 100 → okD 6 (tupI ys) := fun ys hy => ⟨by rw [List.length_map]; omega, fun d hd => by obtain ⟨i, _, rfl⟩ := List.mem_map.mp hd; trivial⟩
  refine ⟨show 3 ≤ 100000 by decide, fun d hd => ?_⟩
  simp only [List.mem_cons, List.not_mem_nil, or_false] at hd
  rcases hd with rfl | rfl | rfl
  · exact okD_opD
  · exact ht _ (hr x hx).1
  · exact ht _ (hr x hx).2
theorem nexts_len {n : Nat} (hn : n ≤ 8) {x : Row} (h : RowOk w l ks n x) : x.nexts.length ≤ 100 := by
  obtain ⟨h1, h2⟩ := asc_lt _ _ h.nexts
  have key : ∀ (l : List Int) (a c : Int), l.Pairwise (· < ·) → (∀ k ∈ l, a ≤ k ∧ k < c) → (l.length : Int) ≤ max 0 (c - a) := by
    intro l
    induction l with
    | nil => intro a c _ _; simp; omega
    | cons x l ih =>
      intro a c hp hb
      obtain ⟨p1, p2⟩ := List.pairwise_cons.mp hp
      have := ih (x + 1) c p2 fun k hk => ⟨by have := p1 k hk; omega, (hb k (List.mem_cons_of_mem _ hk)).2⟩
      have := hb x List.mem_cons_self
      rw [List.length_cons]
      omega
  have := key _ 0 n h1 h2
  omega
theorem prog_eq (hk : ks.length ≤ 3) {xs : List Row} (h : ProgOk w l ks xs) {S : Store} : eqPy (progD xs) (progD xs) S = some true :=
  eqPy_refl (n := 8) (by decide) (okD_prog (n := 0) h.len.2 fun x hx => ⟨by have := fences_len hk (h.rows x hx); omega, nexts_len h.len.2 (h.rows x hx)⟩)
theorem law_4 (hv : VR w l r s k ks ac) (hp : PoolOk b st p) (hb : b ≤ 2 ^ 15) {xs : List Row} (hx : ProgOk w l ks xs) {ps : List (Int × Int)} (hlot : LotOk xs.length ks.length ps) {v0 v1 v3 v7 v8 : Option D} {QF : Fl → Store → Prop}
    (q : ∀ m v7, QF (.nx [v0, v1, some (.rf p), v3, some (ruleD w l r s k e ks ac), some (progD xs), some (.tup (ps.map pairD)), v7, v8]) m) :
    Run (r_law_4 [v0, v1, some (.rf p), v3, some (ruleD w l r s k e ks ac), some (progD xs), some (.tup (ps.map pairD)), v7, v8]) st QF := by
  have hk3 := hv.hks.1
  have hlen := hlot.len
  have hfx : ∀ x ∈ xs, x.fences.length ≤ 3 := fun x hxx => fences_len hk3 (hx.rows x hxx)
  unfold r_law_4
  simp [-Bool.exists_bool]
  refine sp_with_good hv hx hlot.spots hlot.sorted (by omega) fun m1 => ?_
  have hx2 : ProgOk w l ks (withR ps 0 xs) := prog_ok2 hx hlot.spots
  unfold r_law_3
  simp [-Bool.exists_bool]
  refine sp_plain hx2.len.2 fun m2 => ?_
  refine ⟨true, rfl, ?_⟩
  rw [if_pos rfl]
  generalize hPx : progD xs = P
  refine sp_law_fenced hPx.symm hx.len.2 hfx (by omega) fun m3 => ?_
  subst hPx
  refine ⟨_, prog_eq hk3 hx2, false, rfl, ?_⟩
  rw [if_neg (by decide)]
  unfold r_law_2
  simp [-Bool.exists_bool]
  refine sp_with_good hv hx2 (by rw [withR_len]; exact hlot.spots) hlot.sorted (by omega) fun m4 => ?_
  rw [withR_again]
  refine ⟨_, prog_eq hk3 hx2, false, rfl, ?_⟩
  rw [if_neg (by decide)]
  have hnil : D.tup [] = .tup (([] : List (Int × Int)).map pairD) := rfl
  rw [hnil]
  refine sp_with_good hv hx (ps := []) (fun q hq => by cases hq) rfl (by decide) fun m5 => ?_
  rw [withR_nil xs 0 hx.rows]
  refine ⟨_, prog_eq hk3 hx, false, rfl, ?_⟩
  rw [if_neg (by decide)]
  unfold r_law_1
  simp [-Bool.exists_bool]
  have hpS : ∀ m, PoolOk b (st ++ m) p := fun m => hp.more
  generalize m1 ++ _ = M
  refine sp_no_lot hv (hpS _) (by omega) hx.len.2 hlot fun d st2 g2 hd hdl hbad => ?_
  refine sp_refused hv hx hd hdl hbad fun m6 => ?_
  refine ⟨true, rfl, ?_⟩
  rw [if_pos rfl]
  refine ⟨by decide, by decide, by decide, by decide, ?_⟩
  have hb2 : b + 2 ≤ 2 ^ 40 := by omega
  refine sp_draw g2.pool.more hb2 (by decide) (by decide) fun j st3 j0 j1 g3 => ?_
  obtain ⟨x, hxm, ex⟩ := atD_mem (xs := [D.non, D.bl true, D.str (Str.ofString ""), D.tup [D.non], D.tup [D.tup [D.int 0]], D.tup [D.tup [D.int 0, D.bl false]]]) j0 j1
  refine ⟨j, rfl, x, ex, ?_⟩
  have hall : HA st3 x ∧ (∀ ds, x = .tup ds → ds.length < 50) ∧ ∀ qs, x = .tup (qs.map pairD) → SpotsOk xs.length ks.length qs → setP qs ≠ qs := by
    have h1 : ∀ d, HA st3 d → HA st3 (.tup [d]) := fun d hd => .tup _ fun z hz => by rw [List.mem_singleton] at hz; rw [hz]; exact hd
    have one : ∀ (d : D) (qs : List (Int × Int)), (∀ q, d ≠ pairD q) → D.tup [d] = .tup (qs.map pairD) → False := fun d qs hn e => by
      have e : [d] = qs.map pairD := by injection e
      cases qs with
      | nil => cases e
      | cons q qs =>
        rw [List.map_cons] at e
        exact hn q (List.cons.inj e).1
    simp only [List.mem_cons, List.not_mem_nil, or_false] at hxm
    rcases hxm with rfl | rfl | rfl | rfl | rfl | rfl
    · exact ⟨.non, fun ds e => (by cases e), fun qs e => (by cases e)⟩
    · exact ⟨.bl _, fun ds e => (by cases e), fun qs e => (by cases e)⟩
    · exact ⟨.str _, fun ds e => (by cases e), fun qs e => (by cases e)⟩
    · exact ⟨h1 _ .non, fun ds e => (by cases e; decide), fun qs e => (one _ _ (fun q z => by cases z) e).elim⟩
    · exact ⟨h1 _ (h1 _ (.int _)), fun ds e => (by cases e; decide), fun qs e => (one _ _ (fun q z => by unfold pairD at z; simp at z) e).elim⟩
    · refine ⟨h1 _ (.tup _ fun z hz => ?_), fun ds e => (by cases e; decide), fun qs e => (one _ _ (fun q z => by unfold pairD at z; simp at z) e).elim⟩
      simp only [List.mem_cons, List.not_mem_nil, or_false] at hz
      rcases hz with rfl | rfl
      · exact .int _
      · exact .bl _
  refine sp_refused hv hx hall.1 hall.2.1 hall.2.2 fun m7 => ?_
  refine ⟨true, rfl, ?_⟩
  rw [if_pos rfl]
  exact q _ _
def invLt (b p : Nat) (S0 : Store) (R : D) (all : List (Int × Int)) (L acc : List D) (s' : Store) : Prop := ∃ (as bs qs : List (Int × Int)), L = bs.map pairD ∧ as ++ bs = all ∧ acc = qs.map pairD ∧ List.Sublist qs as ∧ Go (b + as.length) p S0 s' ∧ True
theorem law_5 (hv : VR w l r s k ks ac) (hp : PoolOk b st p) (hb : b ≤ 2 ^ 14) {P : D} {xs : List Row} (hP : P = progD xs) (hx : ProgOk w l ks xs) {v0 v1 v3 v6 v7 v8 : Option D} {QF : Fl → Store → Prop}
    (q : ∀ m v6 v7, QF (.nx [v0, v1, some (.rf p), v3, some (ruleD w l r s k e ks ac), some P, v6, v7, v8]) m) :
    Run (r_law_5 [v0, v1, some (.rf p), v3, some (ruleD w l r s k e ks ac), some P, v6, v7, v8]) st QF := by
  subst hP
  have hk3 := hv.hks.1
  have lp := hp.lt
  unfold r_law_5
  simp [-Bool.exists_bool]
  generalize hPx : progD xs = P
  refine sp_law_spots hPx.symm hx.len.2 hk3 fun m1 => ?_
  subst hPx
  simp [-Bool.exists_bool]
  have hc0 := cell_at0L (st := st) (ds := (spotsF ks.length 0 xs.length).map pairD) (m := m1)
  refine ⟨_, hc0, ?_⟩
  have hpS : PoolOk b (st ++ Cell.lst ((spotsF ks.length 0 xs.length).map pairD) :: m1) p := hp.more
  have hlS : st.length < (st ++ Cell.lst ((spotsF ks.length 0 xs.length).map pairD) :: m1).length := by simp
  have hsl := spots_len ks.length xs.length 0
  have h24 : xs.length * ks.length ≤ 8 * 3 := Nat.mul_le_mul hx.len.2 hk3
  generalize st ++ Cell.lst ((spotsF ks.length 0 xs.length).map pairD) :: m1 = S at hc0 hpS hlS ⊢
  refine (run_comp (invLt b p S (progD xs) (spotsF ks.length 0 xs.length)) (fun L acc s' h => ?_) ?_ _ [] S ⟨[], spotsF ks.length 0 xs.length, [], rfl, rfl, rfl, List.Sublist.slnil, Go.refl hpS, trivial⟩).mono ?_
  · obtain ⟨_, _, _, _, _, _, _, g, _⟩ := h
    unfold cellItems at hc0 ⊢
    rw [g.keep _ (by omega) hlS]
    exact hc0
  · rintro x L acc s3 ⟨as, bs, qs, hL, hab, rfl, hsub, gs, _⟩
    cases bs with
    | nil => cases hL
    | cons y bs =>
      rw [List.map_cons] at hL
      obtain ⟨rfl, rfl⟩ := List.cons.inj hL
      have hal : as.length ≤ 24 := by
        have := congrArg List.length hab
        rw [List.length_append] at this
        omega
      simp [-Bool.exists_bool, wipeE]
      refine sp_draw gs.pool (by omega) (by decide) (by decide) fun j st4 j0 j1 g4 => ?_
      refine ⟨_, eqPy_int, ?_⟩
      have gg : Go (b + (as ++ [y]).length) p S st4 := by rw [List.length_append, List.length_singleton]; exact gs.trans g4
      by_cases c : j = 1
      · rw [if_pos (by simpa using c)]
        exact ⟨as ++ [y], bs, qs ++ [y], rfl, by rw [← hab]; simp, by simp, hsub.append (List.Sublist.refl _), gg, trivial⟩
      · rw [if_neg (by simpa using c)]
        exact ⟨as ++ [y], bs, qs, rfl, by rw [← hab]; simp, rfl, hsub.trans (List.sublist_append_left _ _), gg, trivial⟩
  · rintro ds s3 ⟨as, bs, qs, hL, hab, he, hsub, gs, _⟩
    cases bs with
    | cons y bs => cases hL
    | nil =>
      rw [List.nil_append] at he
      subst he
      rw [List.append_nil] at hab
      subst hab
      have hlot : LotOk xs.length ks.length qs := lot_of hx.len.2 hk3 hsub
      have := hlot.len
      refine ⟨by rw [List.length_map]; exact Nat.le_trans (show qs.length ≤ 24 by omega) (by decide), ?_⟩
      exact law_4 hv gs.pool (by omega) hx hlot fun m v7 => q m _ v7
end
end DL
namespace DL
open PySem
section
variable {w l r : Int} {s k : Str} {e : Bool} {ks : List (List Int)} {ac : List Int} {st : Store} {Q : D → Store → Prop} {E : EX} {d : D} {b p : Nat}
theorem law_6 (hv : VR w l r s k ks ac) (hp : PoolOk b st p) (hb : b ≤ 2 ^ 13) {v0 v1 v3 v5 v6 v7 v8 : Option D} {QF : Fl → Store → Prop}
    (q : ∀ m v4 v5 v6 v7, QF (.nx [v0, v1, some (.rf p), v3, v4, v5, v6, v7, v8]) m) :
    Run (r_law_6 [v0, v1, some (.rf p), v3, some (ruleD w l r s k e ks ac), v5, v6, v7, v8]) st QF := by
  unfold r_law_6
  simp [-Bool.exists_bool]
  refine sp_law_program hv hp (by omega) fun xs st1 g1 hx => ?_
  generalize hP : progD xs = P
  exact law_5 hv g1.pool (by omega) hP.symm hx fun m v6 v7 => q m _ _ _ _
def rangeI (l : Int) : List Int := (List.range l.toNat).map fun i : Nat => (i : Int)
theorem kind_all {l : Int} (hl : 1 ≤ l ∧ l ≤ 3) : kindB l (tupI (rangeI l)) = true := by
  have : l = 1 ∨ l = 2 ∨ l = 3 := by omega
  rcases this with rfl | rfl | rfl <;> decide
theorem law_7 (hv : VR w l r s k ks ac) (hp : PoolOk b st p) (hb : b ≤ 2 ^ 13) {bare : Bool} {v0 v1 v5 v6 v7 v8 : Option D} {QF : Fl → Store → Prop}
    (q : ∀ m v3 v4 v5 v6 v7, QF (.nx [v0, v1, some (.rf p), v3, v4, v5, v6, v7, v8]) m) :
    Run (r_law_7 [v0, v1, some (.rf p), some (.bl bare), some (ruleD w l r s k e ks ac), v5, v6, v7, v8]) st QF := by
  unfold r_law_7
  simp [-Bool.exists_bool]
  cases bare with
  | true =>
    rw [if_pos rfl]
    exact law_6 hv hp hb fun m v4 v5 v6 v7 => q m _ v4 v5 v6 v7
  | false =>
    rw [if_neg (by decide)]
    have hl3 := hv.hl
    have hk3 := hv.hks
    have e1 : ∀ (st : Store) (R : D → Store → Prop), R (.tup [.int w, .int l, .int r, .str s, .bl e, .str k]) st → Run (vSl (ruleD w l r s k e ks ac) none (some 6)) st R := fun st R h => h
    have e2 : ∀ (st : Store) (R : D → Store → Prop), R (.tup [tupI ac]) st → Run (vSl (ruleD w l r s k e ks ac) (some 7) none) st R := fun st R h => h
    have hcut : cutD (ks.map tupI) none (some 2) = (ks.take 2).map tupI := by
      rw [cut_lo _ (by decide), List.map_take]; rfl
    have hrg : D.tup (fromTo 0 l.toNat) = tupI (rangeI l) := by
      unfold rangeI tupI fromTo
      rw [List.map_map]
      congr 1
      apply List.map_congr_left
      intro i _
      show D.int (0 + (i : Int)) = D.int (i : Int)
      rw [Int.zero_add]
    refine e1 _ _ ?_
    rw [hcut, hrg]
    have hsm := smallI_of (i := l) (by omega) (by omega)
    refine ⟨⟨hsm, by omega⟩, by decide, by rw [List.length_map, List.length_take]; exact Nat.le_trans (show min 2 ks.length + 1 ≤ 3 by omega) (by decide), by decide, ?_⟩
    simp [-Bool.exists_bool]
    refine ⟨by decide, ?_⟩
    refine e2 _ _ ?_
    simp [-Bool.exists_bool]
    refine ⟨by decide, ?_⟩
    have hv2 : VR w l r s k (ks.take 2 ++ [rangeI l]) ac := ⟨hv.hw, hv.hl, hv.hr, hv.hs, hv.hk, ⟨by rw [List.length_append, List.length_take, List.length_singleton]; omega, fun x hx => by
      rcases List.mem_append.mp hx with hx | hx
      · exact hk3.2 x (List.mem_of_mem_take hx)
      · rw [List.mem_singleton] at hx; rw [hx]; exact kind_all hl3⟩, hv.hac⟩
    have hD : D.tup [D.int w, D.int l, D.int r, D.str s, D.bl e, D.str k, D.tup ((ks.take 2).map tupI ++ [tupI (rangeI l)]), tupI ac] = ruleD w l r s k e (ks.take 2 ++ [rangeI l]) ac := by
      unfold ruleD; rw [List.map_append]; rfl
    have hD2 : D.tup [D.int w, D.int l, D.int r, D.str s, D.bl e, D.str k, D.tup (List.take 2 (ks.map tupI) ++ [tupI (rangeI l)]), tupI ac] = ruleD w l r s k e (ks.take 2 ++ [rangeI l]) ac := by
      rw [← List.map_take]; exact hD
    first | rw [hD] | rw [hD2]
    exact law_6 hv2 hp hb fun m v4 v5 v6 v7 => q m _ v4 v5 v6 v7
theorem law_10 {ns : List Int} {k0 : Int} (hk : 0 ≤ k0) {v2 v3 v4 v5 v6 v7 v8 : Option D} {QF : Fl → Store → Prop}
    (q : ∀ m v2 v3 v4 v5 v6 v7, QF (.nx [some (.cl (ns.map D.int)), some (.int k0), v2, v3, v4, v5, v6, v7, v8]) m) :
    Run (r_law_10 [some (.cl (ns.map D.int)), some (.int k0), v2, v3, v4, v5, v6, v7, v8]) st QF := by
  unfold r_law_10
  simp [-Bool.exists_bool]
  refine sp_pool hk fun m hp => ?_
  unfold r_law_9
  simp [-Bool.exists_bool]
  refine sp_draw hp (by decide) (by decide) (by decide) fun j st1 j0 j1 g1 => ?_
  refine ⟨_, eqPy_int, ?_⟩
  unfold r_law_8
  simp [-Bool.exists_bool]
  refine sp_law_rule g1.pool (by decide) (by decide) fun w l r s k e ks ac st2 g2 hv _ => ?_
  exact law_7 hv g2.pool (by decide) fun m v3 v4 v5 v6 v7 => q m _ v3 v4 v5 v6 v7
end
def invK42 (S : D) : List D → Env → Store → Prop := fun L ρ _ => ∃ (i : Int) (n : Nat) (v1 v2 v3 v4 v5 v6 v7 v8 : Option D), 0 ≤ i ∧ L = fromTo i n ∧ ρ = [some S, v1, v2, v3, v4, v5, v6, v7, v8]
theorem law_true (ns : List Int) (hn : ns.length ≤ 63) : ∃ st', g_law [.cl (ns.map D.int)] [] = .ok (.bl true) st' := by
  have main : Run (g_law [.cl (ns.map D.int)]) [] LawQ := by
    unfold g_law b_law r_law_11
    refine (run_gFn (by rfl)).mpr ?_
    simp [-Bool.exists_bool, startE, run_gFor]
    generalize hc : (if 1 < if (ns.length : Int) < 4 then (ns.length : Int) else 4 then if (ns.length : Int) < 4 then (ns.length : Int) else 4 else 1) = c
    have hcb : 1 ≤ c ∧ c ≤ 4 := by
      rw [← hc]
      split <;> split <;> omega
    refine ⟨smallI_of (by omega) (by omega), ?_⟩
    refine run_loop (invK42 (.cl (ns.map D.int))) (fun _ _ _ _ => trivial) ?_ ?_ _ _ _ ⟨0, c.toNat, _, _, _, _, _, _, _, _, by decide, rfl, rfl⟩
    · rintro d l' ρ s' ⟨i, n, v1, v2, v3, v4, v5, v6, v7, v8, hi, hL, rfl⟩
      cases n with
      | zero => cases hL
      | succ n =>
        rw [fromTo_step] at hL
        have h23 := List.cons.inj hL
        rw [h23.1, h23.2]
        clear hL h23
        simp [-Bool.exists_bool]
        exact law_10 hi fun m v2 v3 v4 v5 v6 v7 => ⟨i + 1, n, _, _, _, _, _, _, _, _, by omega, rfl, rfl⟩
    · rintro ρ s' ⟨i, n, v1, v2, v3, v4, v5, v6, v7, v8, hi, hL, rfl⟩
      simp [-Bool.exists_bool]
      rfl
  obtain ⟨d, st', e, rfl⟩ := main.get
  exact ⟨st', e⟩
end DL
namespace DL
open PySem L2
def topS (i : Nat) : Stmt := PySem.Challenge.pw_heldwrites_k42_programs_with_fences.main.body.getD i (.Pass ⟨0, 0, 0, 0⟩)
abbrev s__law_pool : Stmt := topS 50
abbrev N__law_pool : List Str := ["script", "k", "cell"]
abbrev p__law_pool : List Str := ["script", "k"]
theorem sc__law_pool : FnScope N__law_pool p__law_pool (defScope s__law_pool) := ⟨rfl, rfl, rfl, by decide +kernel, rfl, by decide +kernel, by decide +kernel⟩
abbrev s__law_draw : Stmt := topS 51
abbrev N__law_draw : List Str := ["pool", "many", "found", "mixed", "turn"]
abbrev p__law_draw : List Str := ["pool", "many"]
theorem sc__law_draw : FnScope N__law_draw p__law_draw (defScope s__law_draw) := ⟨rfl, rfl, rfl, by decide +kernel, rfl, by decide +kernel, by decide +kernel⟩
abbrev s__law_part : Stmt := topS 52
abbrev N__law_part : List Str := ["number", "many", "k"]
abbrev p__law_part : List Str := ["number", "many"]
theorem sc__law_part : FnScope N__law_part p__law_part (defScope s__law_part) := ⟨rfl, rfl, rfl, by decide +kernel, rfl, by decide +kernel, by decide +kernel⟩
abbrev s__law_rule : Stmt := topS 53
abbrev N__law_rule : List Str := ["pool", "widest", "width", "lines", "room", "sends", "eager", "look", "kinds", "k", "acting"]
abbrev p__law_rule : List Str := ["pool", "widest"]
theorem sc__law_rule : FnScope N__law_rule p__law_rule (defScope s__law_rule) := ⟨rfl, rfl, rfl, by decide +kernel, rfl, by decide +kernel, by decide +kernel⟩
abbrev s__law_row : Stmt := topS 54
abbrev N__law_row : List Str := ["pool", "rule", "near", "k", "many", "word", "op", "fences", "nexts"]
abbrev p__law_row : List Str := ["pool", "rule", "near", "k", "many"]
theorem sc__law_row : FnScope N__law_row p__law_row (defScope s__law_row) := ⟨rfl, rfl, rfl, by decide +kernel, rfl, by decide +kernel, by decide +kernel⟩
abbrev s__law_program : Stmt := topS 55
abbrev N__law_program : List Str := ["pool", "rule", "most", "many", "near", "k"]
abbrev p__law_program : List Str := ["pool", "rule", "most"]
theorem sc__law_program : FnScope N__law_program p__law_program (defScope s__law_program) := ⟨rfl, rfl, rfl, by decide +kernel, rfl, by decide +kernel, by decide +kernel⟩
abbrev s_is_tuple_of : Stmt := topS 33
abbrev N_is_tuple_of : List Str := ["thing", "fewest", "most"]
abbrev p_is_tuple_of : List Str := ["thing", "fewest", "most"]
theorem sc_is_tuple_of : FnScope N_is_tuple_of p_is_tuple_of (defScope s_is_tuple_of) := ⟨rfl, rfl, rfl, by decide +kernel, rfl, by decide +kernel, by decide +kernel⟩
abbrev s_is_integer : Stmt := topS 29
abbrev N_is_integer : List Str := ["thing"]
abbrev p_is_integer : List Str := ["thing"]
theorem sc_is_integer : FnScope N_is_integer p_is_integer (defScope s_is_integer) := ⟨rfl, rfl, rfl, by decide +kernel, rfl, by decide +kernel, by decide +kernel⟩
abbrev s_is_integer_within : Stmt := topS 30
abbrev N_is_integer_within : List Str := ["thing", "low", "high"]
abbrev p_is_integer_within : List Str := ["thing", "low", "high"]
theorem sc_is_integer_within : FnScope N_is_integer_within p_is_integer_within (defScope s_is_integer_within) := ⟨rfl, rfl, rfl, by decide +kernel, rfl, by decide +kernel, by decide +kernel⟩
abbrev s_are_numbers_below : Stmt := topS 32
abbrev N_are_numbers_below : List Str := ["thing", "limit", "least", "number"]
abbrev p_are_numbers_below : List Str := ["thing", "limit"]
theorem sc_are_numbers_below : FnScope N_are_numbers_below p_are_numbers_below (defScope s_are_numbers_below) := ⟨rfl, rfl, rfl, by decide +kernel, rfl, by decide +kernel, by decide +kernel⟩
abbrev s_is_word_of : Stmt := topS 31
abbrev N_is_word_of : List Str := ["thing", "words"]
abbrev p_is_word_of : List Str := ["thing", "words"]
theorem sc_is_word_of : FnScope N_is_word_of p_is_word_of (defScope s_is_word_of) := ⟨rfl, rfl, rfl, by decide +kernel, rfl, by decide +kernel, by decide +kernel⟩
abbrev s_is_kind : Stmt := topS 35
abbrev N_is_kind : List Str := ["thing", "lines"]
abbrev p_is_kind : List Str := ["thing", "lines"]
theorem sc_is_kind : FnScope N_is_kind p_is_kind (defScope s_is_kind) := ⟨rfl, rfl, rfl, by decide +kernel, rfl, by decide +kernel, by decide +kernel⟩
abbrev s_places_of : Stmt := topS 34
abbrev N_places_of : List Str := ["rule"]
abbrev p_places_of : List Str := ["rule"]
theorem sc_places_of : FnScope N_places_of p_places_of (defScope s_places_of) := ⟨rfl, rfl, rfl, by decide +kernel, rfl, by decide +kernel, by decide +kernel⟩
abbrev s_is_rule : Stmt := topS 36
abbrev N_is_rule : List Str := ["thing", "part", "kinds_fit", "kind"]
abbrev p_is_rule : List Str := ["thing"]
theorem sc_is_rule : FnScope N_is_rule p_is_rule (defScope s_is_rule) := ⟨rfl, rfl, rfl, by decide +kernel, rfl, by decide +kernel, by decide +kernel⟩
abbrev s_check_rule : Stmt := topS 41
abbrev N_check_rule : List Str := ["rule"]
abbrev p_check_rule : List Str := ["rule"]
theorem sc_check_rule : FnScope N_check_rule p_check_rule (defScope s_check_rule) := ⟨rfl, rfl, rfl, by decide +kernel, rfl, by decide +kernel, by decide +kernel⟩
abbrev s_is_operation : Stmt := topS 37
abbrev N_is_operation : List Str := ["rule", "thing"]
abbrev p_is_operation : List Str := ["rule", "thing"]
theorem sc_is_operation : FnScope N_is_operation p_is_operation (defScope s_is_operation) := ⟨rfl, rfl, rfl, by decide +kernel, rfl, by decide +kernel, by decide +kernel⟩
abbrev s_is_fenced_operation : Stmt := topS 38
abbrev N_is_fenced_operation : List Str := ["rule", "thing", "op", "fences"]
abbrev p_is_fenced_operation : List Str := ["rule", "thing"]
theorem sc_is_fenced_operation : FnScope N_is_fenced_operation p_is_fenced_operation (defScope s_is_fenced_operation) := ⟨rfl, rfl, rfl, by decide +kernel, rfl, by decide +kernel, by decide +kernel⟩
abbrev s_is_row : Stmt := topS 39
abbrev N_is_row : List Str := ["rule", "thing", "rows", "op", "fences", "nexts"]
abbrev p_is_row : List Str := ["rule", "thing", "rows"]
theorem sc_is_row : FnScope N_is_row p_is_row (defScope s_is_row) := ⟨rfl, rfl, rfl, by decide +kernel, rfl, by decide +kernel, by decide +kernel⟩
abbrev s_has_rows : Stmt := topS 40
abbrev N_has_rows : List Str := ["rule", "thing", "row"]
abbrev p_has_rows : List Str := ["rule", "thing"]
theorem sc_has_rows : FnScope N_has_rows p_has_rows (defScope s_has_rows) := ⟨rfl, rfl, rfl, by decide +kernel, rfl, by decide +kernel, by decide +kernel⟩
abbrev s_check_program : Stmt := topS 42
abbrev N_check_program : List Str := ["rule", "program"]
abbrev p_check_program : List Str := ["rule", "program"]
theorem sc_check_program : FnScope N_check_program p_check_program (defScope s_check_program) := ⟨rfl, rfl, rfl, by decide +kernel, rfl, by decide +kernel, by decide +kernel⟩
abbrev s_is_spot : Stmt := topS 44
abbrev N_is_spot : List Str := ["rule", "program", "thing", "row", "kind"]
abbrev p_is_spot : List Str := ["rule", "program", "thing"]
theorem sc_is_spot : FnScope N_is_spot p_is_spot (defScope s_is_spot) := ⟨rfl, rfl, rfl, by decide +kernel, rfl, by decide +kernel, by decide +kernel⟩
abbrev s_check_lot : Stmt := topS 45
abbrev N_check_lot : List Str := ["rule", "program", "lot", "spot"]
abbrev p_check_lot : List Str := ["rule", "program", "lot"]
theorem sc_check_lot : FnScope N_check_lot p_check_lot (defScope s_check_lot) := ⟨rfl, rfl, rfl, by decide +kernel, rfl, by decide +kernel, by decide +kernel⟩
abbrev s_program_with : Stmt := topS 46
abbrev N_program_with : List Str := ["program", "lot", "rows", "number", "added", "op", "fences", "nexts", "row", "kind"]
abbrev p_program_with : List Str := ["program", "lot"]
theorem sc_program_with : FnScope N_program_with p_program_with (defScope s_program_with) := ⟨rfl, rfl, rfl, by decide +kernel, rfl, by decide +kernel, by decide +kernel⟩
abbrev s_with_fences : Stmt := topS 48
abbrev N_with_fences : List Str := ["rule", "program", "lot"]
abbrev p_with_fences : List Str := ["rule", "program", "lot"]
theorem sc_with_fences : FnScope N_with_fences p_with_fences (defScope s_with_fences) := ⟨rfl, rfl, rfl, by decide +kernel, rfl, by decide +kernel, by decide +kernel⟩
abbrev s__law_only : Stmt := topS 58
abbrev N__law_only : List Str := ["error", "due", "kinds", "k"]
abbrev p__law_only : List Str := ["error", "due"]
theorem sc__law_only : FnScope N__law_only p__law_only (defScope s__law_only) := ⟨rfl, rfl, rfl, by decide +kernel, rfl, by decide +kernel, by decide +kernel⟩
abbrev s__law_refused : Stmt := topS 60
abbrev N__law_refused : List Str := ["rule", "program", "handed", "caught", "e"]
abbrev p__law_refused : List Str := ["rule", "program", "handed"]
theorem sc__law_refused : FnScope N__law_refused p__law_refused (defScope s__law_refused) := ⟨rfl, rfl, rfl, by decide +kernel, rfl, by decide +kernel, by decide +kernel⟩
abbrev s__law_plain : Stmt := topS 61
abbrev N__law_plain : List Str := ["program", "row"]
abbrev p__law_plain : List Str := ["program"]
theorem sc__law_plain : FnScope N__law_plain p__law_plain (defScope s__law_plain) := ⟨rfl, rfl, rfl, by decide +kernel, rfl, by decide +kernel, by decide +kernel⟩
abbrev s__law_fenced : Stmt := topS 57
abbrev N__law_fenced : List Str := ["program", "spots", "rows", "k", "more", "row", "kind"]
abbrev p__law_fenced : List Str := ["program", "spots"]
theorem sc__law_fenced : FnScope N__law_fenced p__law_fenced (defScope s__law_fenced) := ⟨rfl, rfl, rfl, by decide +kernel, rfl, by decide +kernel, by decide +kernel⟩
abbrev s__law_no_lot : Stmt := topS 59
abbrev N__law_no_lot : List Str := ["pool", "rule", "program", "spots", "at", "way", "row", "kind", "second", "odd"]
abbrev p__law_no_lot : List Str := ["pool", "rule", "program", "spots"]
theorem sc__law_no_lot : FnScope N__law_no_lot p__law_no_lot (defScope s__law_no_lot) := ⟨rfl, rfl, rfl, by decide +kernel, rfl, by decide +kernel, by decide +kernel⟩
abbrev s__law_spots : Stmt := topS 56
abbrev N__law_spots : List Str := ["rule", "program", "found", "row", "kind"]
abbrev p__law_spots : List Str := ["rule", "program"]
theorem sc__law_spots : FnScope N__law_spots p__law_spots (defScope s__law_spots) := ⟨rfl, rfl, rfl, by decide +kernel, rfl, by decide +kernel, by decide +kernel⟩
abbrev s_law : Stmt := topS 62
abbrev N_law : List Str := ["script", "k", "pool", "bare", "rule", "program", "spots", "found", "spot"]
abbrev p_law : List Str := ["script"]
theorem sc_law : FnScope N_law p_law (defScope s_law) := ⟨rfl, rfl, rfl, by decide +kernel, rfl, by decide +kernel, by decide +kernel⟩
structure Top (K : PySem.W.Frag) (Tb : List (Addr × Str)) (mg : Str → Option Value) (base : Heap) : Prop where
  z_all : mg "all" = none
  z_bool : mg "bool" = none
  z_enumerate : mg "enumerate" = none
  z_int : mg "int" = none
  z_isinstance : mg "isinstance" = none
  z_len : mg "len" = none
  z_list : mg "list" = none
  z_max : mg "max" = none
  z_min : mg "min" = none
  z_range : mg "range" = none
  z_set : mg "set" = none
  z_sorted : mg "sorted" = none
  z_str : mg "str" = none
  z_tuple : mg "tuple" = none
  k_ACTING : ∃ t, mg "ACTING" = some (.int 7 t)
  k_EAGER : ∃ t, mg "EAGER" = some (.int 4 t)
  k_KINDS : ∃ t, mg "KINDS" = some (.int 6 t)
  k_LINES : ∃ t, mg "LINES" = some (.int 1 t)
  k_LOOK : ∃ t, mg "LOOK" = some (.int 5 t)
  k_LOOK_WORDS : ∃ a, mg "LOOK_WORDS" = some (.ref a) ∧ (∀ H, SqT K H a [.str (Str.ofString "into"), .str (Str.ofString "past"), .str (Str.ofString "first")]) ∧ ∃ o, List.lookup a K = some o ∧ o.cls = Value.type "tuple" ∧ o.dict = Option.none
  k_MOST_ROWS : ∃ t, mg "MOST_ROWS" = some (.int 8 t)
  k_PLACE_WORDS : ∃ a, mg "PLACE_WORDS" = some (.ref a) ∧ (∀ H, SqT K H a [.str (Str.ofString "write"), .str (Str.ofString "put"), .str (Str.ofString "read")]) ∧ ∃ o, List.lookup a K = some o ∧ o.cls = Value.type "tuple" ∧ o.dict = Option.none
  k_ROOM : ∃ t, mg "ROOM" = some (.int 2 t)
  k_SENDS : ∃ t, mg "SENDS" = some (.int 3 t)
  k_SENDS_WORDS : ∃ a, mg "SENDS_WORDS" = some (.ref a) ∧ (∀ H, SqT K H a [.str (Str.ofString "whole"), .str (Str.ofString "parts"), .str (Str.ofString "filled")]) ∧ ∃ o, List.lookup a K = some o ∧ o.cls = Value.type "tuple" ∧ o.dict = Option.none
  k_WIDTH : ∃ t, mg "WIDTH" = some (.int 0 t)
  xt_BadProgram : ∃ C, mg "BadProgram" = some (.ref C) ∧ XT K lt_BadProgram (.ref C)
  xt_BadQuestion : ∃ C, mg "BadQuestion" = some (.ref C) ∧ XT K lt_BadQuestion (.ref C)
  xt_BadRule : ∃ C, mg "BadRule" = some (.ref C) ∧ XT K lt_BadRule (.ref C)
  xt_BadSpot : ∃ C, mg "BadSpot" = some (.ref C) ∧ XT K lt_BadSpot (.ref C)
  xt_BadStep : ∃ C, mg "BadStep" = some (.ref C) ∧ XT K lt_BadStep (.ref C)
  xt_NotEnough : ∃ C, mg "NotEnough" = some (.ref C) ∧ XT K lt_NotEnough (.ref C)
  xt_TooMany : ∃ C, mg "TooMany" = some (.ref C) ∧ XT K lt_TooMany (.ref C)
  xt_ValueError : XT K lt_ValueError (.type "ValueError")
  z_ValueError : mg "ValueError" = none
  xts_0 : ∃ C0 C1 C2 C3 C4, mg "UnlikeRules" = some (.ref C0) ∧ mg "BadText" = some (.ref C1) ∧ mg "BadCommand" = some (.ref C2) ∧ mg "BadIndex" = some (.ref C3) ∧ mg "BadLong" = some (.ref C4) ∧ XTs K lts_0 [.ref C0, .ref C1, .ref C2, .ref C3, .ref C4]
  xts_1 : ∃ C0 C1, mg "NothingToUndo" = some (.ref C0) ∧ mg "BadPlace" = some (.ref C1) ∧ XTs K lts_1 [.ref C0, .ref C1]
  xm_GatherError : ∃ C, mg "GatherError" = some (.ref C) ∧ XM K lm_GatherError (.ref C)
  xr_BadProgram : ∃ C, ClsAt K "BadProgram" C ∧ mg "BadProgram" = some (.ref C) ∧ XCls K C ∧ PySem.W.excIn K C [.type "ValueError", .type "Exception", .type "BaseException", .type "object"] "ValueError.__new__" = true
  xr_BadRule : ∃ C, ClsAt K "BadRule" C ∧ mg "BadRule" = some (.ref C) ∧ XCls K C ∧ PySem.W.excIn K C [.type "ValueError", .type "Exception", .type "BaseException", .type "object"] "ValueError.__new__" = true
  xr_BadSpot : ∃ C, ClsAt K "BadSpot" C ∧ mg "BadSpot" = some (.ref C) ∧ XCls K C ∧ PySem.W.excIn K C [.type "ValueError", .type "Exception", .type "BaseException", .type "object"] "ValueError.__new__" = true
  d__law_pool : ∃ f fd, Fun K "_law_pool" "_law_pool" s__law_pool f fd ∧ mg "_law_pool" = some (.ref f) ∧ Binds K fd p__law_pool []
  d__law_draw : ∃ f fd, Fun K "_law_draw" "_law_draw" s__law_draw f fd ∧ mg "_law_draw" = some (.ref f) ∧ Binds K fd p__law_draw []
  d__law_part : ∃ f fd, Fun K "_law_part" "_law_part" s__law_part f fd ∧ mg "_law_part" = some (.ref f) ∧ Binds K fd p__law_part []
  d__law_rule : ∃ f fd, Fun K "_law_rule" "_law_rule" s__law_rule f fd ∧ mg "_law_rule" = some (.ref f) ∧ Binds K fd p__law_rule []
  d__law_row : ∃ f fd, Fun K "_law_row" "_law_row" s__law_row f fd ∧ mg "_law_row" = some (.ref f) ∧ Binds K fd p__law_row []
  d__law_program : ∃ f fd, Fun K "_law_program" "_law_program" s__law_program f fd ∧ mg "_law_program" = some (.ref f) ∧ Binds K fd p__law_program []
  d_is_tuple_of : ∃ f fd, Fun K "is_tuple_of" "is_tuple_of" s_is_tuple_of f fd ∧ mg "is_tuple_of" = some (.ref f) ∧ Binds K fd p_is_tuple_of []
  d_is_integer : ∃ f fd, Fun K "is_integer" "is_integer" s_is_integer f fd ∧ mg "is_integer" = some (.ref f) ∧ Binds K fd p_is_integer []
  d_is_integer_within : ∃ f fd, Fun K "is_integer_within" "is_integer_within" s_is_integer_within f fd ∧ mg "is_integer_within" = some (.ref f) ∧ Binds K fd p_is_integer_within []
  d_are_numbers_below : ∃ f fd, Fun K "are_numbers_below" "are_numbers_below" s_are_numbers_below f fd ∧ mg "are_numbers_below" = some (.ref f) ∧ Binds K fd p_are_numbers_below []
  d_is_word_of : ∃ f fd, Fun K "is_word_of" "is_word_of" s_is_word_of f fd ∧ mg "is_word_of" = some (.ref f) ∧ Binds K fd p_is_word_of []
  d_is_kind : ∃ f fd, Fun K "is_kind" "is_kind" s_is_kind f fd ∧ mg "is_kind" = some (.ref f) ∧ Binds K fd p_is_kind []
  d_places_of : ∃ f fd, Fun K "places_of" "places_of" s_places_of f fd ∧ mg "places_of" = some (.ref f) ∧ Binds K fd p_places_of []
  d_is_rule : ∃ f fd, Fun K "is_rule" "is_rule" s_is_rule f fd ∧ mg "is_rule" = some (.ref f) ∧ Binds K fd p_is_rule []
  d_check_rule : ∃ f fd, Fun K "check_rule" "check_rule" s_check_rule f fd ∧ mg "check_rule" = some (.ref f) ∧ Binds K fd p_check_rule []
  d_is_operation : ∃ f fd, Fun K "is_operation" "is_operation" s_is_operation f fd ∧ mg "is_operation" = some (.ref f) ∧ Binds K fd p_is_operation []
  d_is_fenced_operation : ∃ f fd, Fun K "is_fenced_operation" "is_fenced_operation" s_is_fenced_operation f fd ∧ mg "is_fenced_operation" = some (.ref f) ∧ Binds K fd p_is_fenced_operation []
  d_is_row : ∃ f fd, Fun K "is_row" "is_row" s_is_row f fd ∧ mg "is_row" = some (.ref f) ∧ Binds K fd p_is_row []
  d_has_rows : ∃ f fd, Fun K "has_rows" "has_rows" s_has_rows f fd ∧ mg "has_rows" = some (.ref f) ∧ Binds K fd p_has_rows []
  d_check_program : ∃ f fd, Fun K "check_program" "check_program" s_check_program f fd ∧ mg "check_program" = some (.ref f) ∧ Binds K fd p_check_program []
  d_is_spot : ∃ f fd, Fun K "is_spot" "is_spot" s_is_spot f fd ∧ mg "is_spot" = some (.ref f) ∧ Binds K fd p_is_spot []
  d_check_lot : ∃ f fd, Fun K "check_lot" "check_lot" s_check_lot f fd ∧ mg "check_lot" = some (.ref f) ∧ Binds K fd p_check_lot []
  d_program_with : ∃ f fd, Fun K "program_with" "program_with" s_program_with f fd ∧ mg "program_with" = some (.ref f) ∧ Binds K fd p_program_with []
  d_with_fences : ∃ f fd, Fun K "with_fences" "with_fences" s_with_fences f fd ∧ mg "with_fences" = some (.ref f) ∧ Binds K fd p_with_fences []
  d__law_only : ∃ f fd, Fun K "_law_only" "_law_only" s__law_only f fd ∧ mg "_law_only" = some (.ref f) ∧ Binds K fd p__law_only []
  d__law_refused : ∃ f fd, Fun K "_law_refused" "_law_refused" s__law_refused f fd ∧ mg "_law_refused" = some (.ref f) ∧ Binds K fd p__law_refused []
  d__law_plain : ∃ f fd, Fun K "_law_plain" "_law_plain" s__law_plain f fd ∧ mg "_law_plain" = some (.ref f) ∧ Binds K fd p__law_plain []
  d__law_fenced : ∃ f fd, Fun K "_law_fenced" "_law_fenced" s__law_fenced f fd ∧ mg "_law_fenced" = some (.ref f) ∧ Binds K fd p__law_fenced []
  d__law_no_lot : ∃ f fd, Fun K "_law_no_lot" "_law_no_lot" s__law_no_lot f fd ∧ mg "_law_no_lot" = some (.ref f) ∧ Binds K fd p__law_no_lot []
  d__law_spots : ∃ f fd, Fun K "_law_spots" "_law_spots" s__law_spots f fd ∧ mg "_law_spots" = some (.ref f) ∧ Binds K fd p__law_spots []
  d_law : ∃ f fd, Fun K "law" "law" s_law f fd ∧ mg "law" = some (.ref f) ∧ Binds K fd p_law []
section
variable {P : Program} {w : World} {K : PySem.W.Frag} {Tb : List (Addr × Str)} {mg : Str → Option Value} {base : Heap}
theorem f__law_pool (T : Top K Tb mg base) {f : Addr} {fd : FuncData} (F : Fun K "_law_pool" "_law_pool" s__law_pool f fd) : FnOk P w K mg base CX0 1 f fd p__law_pool (spD K Tb 2 g__law_pool) := by
  refine fn_mk (b := b__law_pool) (N := N__law_pool) (ps := p__law_pool) F sc__law_pool fun cdv A outer s H E hr => ?_
  exact (ss_cons (q1 := (gAsg (gC (.int 0)) (gName 2))) (q2 := r__law_pool_2) (s_asg d_int (dg_name 2 sc__law_pool.nd))
      (ss_cons (q1 := (gIfS (tB (gOp vLt (gVar 1) (gUn vLenC (gVar 0)))) (gAsg (gUn vInt (gOp vIxC (gVar 0) (gVar 1))) (gName 2)) gNext)) (q2 := r__law_pool_1) (s_if (d_tcmp op_lt s_lt (d_var 1) (d_call1 call_len s_lenC T.z_len (d_var 0))) (ss_one (s_asg (d_callT1 call_int1 s_int T.z_int (d_ixC (d_var 0) (d_var 1))) (dg_name 2 sc__law_pool.nd))) ss_nil)
      (ss_cons (q1 := (gIfS (tB (gOp vGe (gVar 2) (gC (.int 1000000000000000000)))) (gRet (gNew (gLst (gCons (gOp vSub (gVar 2) (gC (.int 1000000000000000000))) (gCons (gC (.int 1)) (gCons (gC (.int 0)) (gCons (gVar 1) gNil))))))) gNext)) (q2 := (gRet (gNew (gLst (gCons (gVar 2) (gCons (gC (.int 0)) (gCons (gC (.int 0)) (gCons (gVar 1) gNil)))))))) (s_if (d_tcmp op_ge s_ge (d_var 2) d_int) (ss_one (s_ret (d_new (dl_lst (da_cons (d_op op_sub s_sub (d_var 2) d_int) (da_cons d_int (da_cons d_int (da_cons (d_var 1) da_nil)))))))) ss_nil)
      (ss_one (s_ret (d_new (dl_lst (da_cons (d_var 2) (da_cons d_int (da_cons d_int (da_cons (d_var 1) da_nil)))))))))))
theorem c__law_pool (T : Top K Tb mg base) : Cal P w K Tb mg base 1 "_law_pool" 2 g__law_pool := by
  obtain ⟨f, fd, F, hm, hb⟩ := T.d__law_pool
  exact cal_mk (f__law_pool T F) hm F.kp hb
theorem f__law_draw (T : Top K Tb mg base) {f : Addr} {fd : FuncData} (F : Fun K "_law_draw" "_law_draw" s__law_draw f fd) : FnOk P w K mg base CX0 1 f fd p__law_draw (spD K Tb 2 g__law_draw) := by
  refine fn_mk (b := b__law_draw) (N := N__law_draw) (ps := p__law_draw) F sc__law_draw fun cdv A outer s H E hr => ?_
  exact (ss_cons (q1 := (gIfS (tB (gOp vEq (gOp vIx (gVar 0) (gC (.int 1))) (gC (.int 1)))) r__law_draw_2 gNext)) (q2 := r__law_draw_8) (s_if (d_tcmp (op_eqD hr.units) s_eq (d_ix (d_var 0) d_int) d_int) (ss_cons (q1 := (gAsg (gOp vMod (gUn vInt (gOp vIx (gVar 0) (gC (.int 0)))) (gVar 1)) (gName 2))) (q2 := r__law_draw_1) (s_asg (d_op op_mod s_mod (d_callT1 call_int1 s_int T.z_int (d_ix (d_var 0) d_int)) (d_var 1)) (dg_name 2 sc__law_draw.nd))
      (ss_cons (q1 := (gSet (gOp vDiv (gOp vIx (gVar 0) (gC (.int 0))) (gVar 1)) (gVar 0) (gC (.int 0)))) (q2 := (gRet (gVar 2))) (s_set (d_op op_fdivW s_div (d_ix (d_var 0) d_int) (d_var 1)) (d_var 0) d_int)
      (ss_one (s_ret (d_var 2))))) ss_nil)
      (ss_cons (q1 := (gSet (gOp vAdd (gOp vIx (gVar 0) (gC (.int 2))) (gC (.int 1))) (gVar 0) (gC (.int 2)))) (q2 := r__law_draw_7) (s_set (d_op op_addA s_add (d_ix (d_var 0) d_int) d_int) (d_var 0) d_int)
      (ss_cons (q1 := (gAsg (gOp vAdd (gOp vMod (gUn vInt (gOp vAdd (gOp vAdd (gOp vMul (gOp vIx (gVar 0) (gC (.int 0))) (gC (.int 7))) (gOp vIx (gVar 0) (gC (.int 3)))) (gC (.int 1)))) (gC (.int 1000000007))) (gC (.int 3))) (gName 3))) (q2 := r__law_draw_6) (s_asg (d_op op_addA s_add (d_op op_mod s_mod (d_callT1 call_int1 s_int T.z_int (d_op op_addA s_add (d_op op_addA s_add (d_op op_mulA s_mul (d_ix (d_var 0) d_int) d_int) (d_ix (d_var 0) d_int)) d_int)) d_int) d_int) (dg_name 3 sc__law_draw.nd))
      (ss_cons (q1 := (gAsg (gOp vIx (gVar 0) (gC (.int 2))) (gName 4))) (q2 := r__law_draw_5) (s_asg (d_ix (d_var 0) d_int) (dg_name 4 sc__law_draw.nd))
      (ss_cons (q1 := (gAsg (gOp vMod (gUn vInt (gOp vAdd (gOp vMul (gOp vMul (gVar 3) (gOp vAdd (gOp vMul (gC (.int 2)) (gVar 4)) (gC (.int 1)))) (gC (.int 69069))) (gOp vMul (gOp vMul (gVar 4) (gVar 4)) (gC (.int 40503))))) (gC (.int 2147483629))) (gName 3))) (q2 := r__law_draw_4) (s_asg (d_op op_mod s_mod (d_callT1 call_int1 s_int T.z_int (d_op op_addA s_add (d_op op_mulA s_mul (d_op op_mulA s_mul (d_var 3) (d_op op_addA s_add (d_op op_mulA s_mul d_int (d_var 4)) d_int)) d_int) (d_op op_mulA s_mul (d_op op_mulA s_mul (d_var 4) (d_var 4)) d_int))) d_int) (dg_name 3 sc__law_draw.nd))
      (ss_cons (q1 := (gAsg (gOp vMod (gUn vInt (gOp vAdd (gOp vMul (gVar 3) (gVar 3)) (gOp vMul (gC (.int 977)) (gVar 4)))) (gC (.int 2147483587))) (gName 3))) (q2 := r__law_draw_3) (s_asg (d_op op_mod s_mod (d_callT1 call_int1 s_int T.z_int (d_op op_addA s_add (d_op op_mulA s_mul (d_var 3) (d_var 3)) (d_op op_mulA s_mul d_int (d_var 4)))) d_int) (dg_name 3 sc__law_draw.nd))
      (ss_cons (q1 := (gAsg (gOp vMod (gUn vInt (gOp vMul (gVar 3) (gOp vAdd (gVar 3) (gC (.int 8121))))) (gC (.int 1999999973))) (gName 3))) (q2 := (gRet (gOp vMod (gUn vInt (gOp vDiv (gVar 3) (gC (.int 97)))) (gVar 1)))) (s_asg (d_op op_mod s_mod (d_callT1 call_int1 s_int T.z_int (d_op op_mulA s_mul (d_var 3) (d_op op_addA s_add (d_var 3) d_int))) d_int) (dg_name 3 sc__law_draw.nd))
      (ss_one (s_ret (d_op op_mod s_mod (d_callT1 call_int1 s_int T.z_int (d_op op_fdivW s_div (d_var 3) d_int)) (d_var 1)))))))))))
theorem c__law_draw (T : Top K Tb mg base) : Cal P w K Tb mg base 1 "_law_draw" 2 g__law_draw := by
  obtain ⟨f, fd, F, hm, hb⟩ := T.d__law_draw
  exact cal_mk (f__law_draw T F) hm F.kp hb
theorem f__law_part (T : Top K Tb mg base) {f : Addr} {fd : FuncData} (F : Fun K "_law_part" "_law_part" s__law_part f fd) : FnOk P w K mg base CX0 1 f fd p__law_part (spD K Tb 2 g__law_part) := by
  refine fn_mk (b := b__law_part) (N := N__law_part) (ps := p__law_part) F sc__law_part fun cdv A outer s H E hr => ?_
  exact (ss_one (s_ret (d_tupOf rfl T.z_tuple (dl_comp (own := [("k", 2)]) (di_range rfl T.z_range (d_var 1)) sc__law_part.nd (blkOk_by (N := N__law_part) (sc := defScope s__law_part) (by decide +kernel)) (fun _ _ _ _ _ => (dg_name 2 sc__law_part.nd)) (fun _ _ _ _ _ => (ts_one (d_tcmp (op_eqD hr.units) s_eq (d_op op_mod s_mod (d_callT1 call_int1 s_int T.z_int (d_op op_fdivW s_div (d_var 0) (d_ixL (dl_lst (da_cons d_int (da_cons d_int (da_cons d_int (da_cons d_int (da_cons d_int (da_cons d_int (da_cons d_int (da_cons d_int da_nil))))))))) (d_var 2)))) d_int) d_int))) (fun _ _ _ _ _ => (d_var 2)) (by decide)))))
theorem c__law_part (T : Top K Tb mg base) : Cal P w K Tb mg base 1 "_law_part" 2 g__law_part := by
  obtain ⟨f, fd, F, hm, hb⟩ := T.d__law_part
  exact cal_mk (f__law_part T F) hm F.kp hb
theorem f__law_rule (T : Top K Tb mg base) {f : Addr} {fd : FuncData} (F : Fun K "_law_rule" "_law_rule" s__law_rule f fd) : FnOk P w K mg base CX0 2 f fd p__law_rule (spD K Tb 2 g__law_rule) := by
  refine fn_mk (b := b__law_rule) (N := N__law_rule) (ps := p__law_rule) F sc__law_rule fun cdv A outer s H E hr => ?_
  exact (ss_cons (q1 := (gAsg (gOp vAdd (gC (.int 1)) (gCall g__law_draw (gCons (gVar 0) (gCons (gVar 1) gNil)))) (gName 2))) (q2 := r__law_rule_8) (s_asg (d_op op_addA s_add d_int (d_call (c__law_draw T) (hr.mono (by decide)) (da_cons (d_var 0) (da_cons (d_var 1) da_nil)))) (dg_name 2 sc__law_rule.nd))
      (ss_cons (q1 := (gAsg (gOp vAdd (gC (.int 1)) (gCall g__law_draw (gCons (gVar 0) (gCons (gC (.int 3)) gNil)))) (gName 3))) (q2 := r__law_rule_7) (s_asg (d_op op_addA s_add d_int (d_call (c__law_draw T) (hr.mono (by decide)) (da_cons (d_var 0) (da_cons d_int da_nil)))) (dg_name 3 sc__law_rule.nd))
      (ss_cons (q1 := (gAsg (gOp vAdd (gC (.int 1)) (gCall g__law_draw (gCons (gVar 0) (gCons (gC (.int 3)) gNil)))) (gName 4))) (q2 := r__law_rule_6) (s_asg (d_op op_addA s_add d_int (d_call (c__law_draw T) (hr.mono (by decide)) (da_cons (d_var 0) (da_cons d_int da_nil)))) (dg_name 4 sc__law_rule.nd))
      (ss_cons (q1 := (gAsg (gIxL (gLst (gCons (gC (.str (Str.ofString "whole"))) (gCons (gC (.str (Str.ofString "parts"))) (gCons (gC (.str (Str.ofString "filled"))) gNil)))) (gCall g__law_draw (gCons (gVar 0) (gCons (gC (.int 3)) gNil)))) (gName 5))) (q2 := r__law_rule_5) (s_asg (d_ixL (dl_lst (da_cons d_str (da_cons d_str (da_cons d_str da_nil)))) (d_call (c__law_draw T) (hr.mono (by decide)) (da_cons (d_var 0) (da_cons d_int da_nil)))) (dg_name 5 sc__law_rule.nd))
      (ss_cons (q1 := (gAsg (gOp vEq (gCall g__law_draw (gCons (gVar 0) (gCons (gC (.int 3)) gNil))) (gC (.int 1))) (gName 6))) (q2 := r__law_rule_4) (s_asg (d_cmp (op_eqD hr.units) s_eq (d_call (c__law_draw T) (hr.mono (by decide)) (da_cons (d_var 0) (da_cons d_int da_nil))) d_int) (dg_name 6 sc__law_rule.nd))
      (ss_cons (q1 := (gAsg (gIxL (gLst (gCons (gC (.str (Str.ofString "into"))) (gCons (gC (.str (Str.ofString "past"))) (gCons (gC (.str (Str.ofString "first"))) gNil)))) (gCall g__law_draw (gCons (gVar 0) (gCons (gC (.int 3)) gNil)))) (gName 7))) (q2 := r__law_rule_3) (s_asg (d_ixL (dl_lst (da_cons d_str (da_cons d_str (da_cons d_str da_nil)))) (d_call (c__law_draw T) (hr.mono (by decide)) (da_cons (d_var 0) (da_cons d_int da_nil)))) (dg_name 7 sc__law_rule.nd))
      (ss_cons (q1 := (gAsg (gNew (gLst gNil)) (gName 8))) (q2 := r__law_rule_2) (s_asg (d_new (dl_lst da_nil)) (dg_name 8 sc__law_rule.nd))
      (ss_cons (q1 := (gFor (wRange (gCall g__law_draw (gCons (gVar 0) (gCons (gC (.int 4)) gNil)))) (gName 9) (gDrop (gApp (gVar 8) (gCall g__law_part (gCons (gOp vAdd (gC (.int 1)) (gCall g__law_draw (gCons (gVar 0) (gCons (gIxL (gLst (gCons (gC (.int 1)) (gCons (gC (.int 3)) (gCons (gC (.int 7)) gNil)))) (gOp vSub (gVar 3) (gC (.int 1)))) gNil)))) (gCons (gVar 3) gNil))))))) (q2 := r__law_rule_1) (s_for (di_range rfl T.z_range (d_call (c__law_draw T) (hr.mono (by decide)) (da_cons (d_var 0) (da_cons d_int da_nil)))) (dg_name 9 sc__law_rule.nd) (ss_one (s_expr (d_app rfl (d_var 8) (d_call (c__law_part T) (hr.mono (by decide)) (da_cons (d_op op_addA s_add d_int (d_call (c__law_draw T) (hr.mono (by decide)) (da_cons (d_var 0) (da_cons (d_ixL (dl_lst (da_cons d_int (da_cons d_int (da_cons d_int da_nil)))) (d_op op_sub s_sub (d_var 3) d_int)) da_nil)))) (da_cons (d_var 3) da_nil)))))))
      (ss_cons (q1 := (gAsg (gNew (gLc (wRange (gCall g__law_draw (gCons (gVar 0) (gCons (gC (.int 3)) gNil)))) (gName 9) tYes (gCall g__law_draw (gCons (gVar 0) (gCons (gOp vMul (gVar 2) (gVar 3)) gNil))) [9])) (gName 10))) (q2 := (gRet (gTup (gCons (gVar 2) (gCons (gVar 3) (gCons (gVar 4) (gCons (gVar 5) (gCons (gVar 6) (gCons (gVar 7) (gCons (gUn vTuple (gVar 8)) (gCons (gTupOf (gSortS (gSeen (gVar 10)))) gNil))))))))))) (s_setLc (i := 10) (own := [("k", 9)]) (di_range rfl T.z_range (d_call (c__law_draw T) (hr.mono (by decide)) (da_cons (d_var 0) (da_cons d_int da_nil)))) sc__law_rule.nd (blkOk_by (N := N__law_rule) (sc := defScope s__law_rule) (by decide +kernel)) (fun _ _ _ _ _ => (dg_name 9 sc__law_rule.nd)) (fun _ _ _ _ _ => ts_nil) (fun _ _ _ _ _ => (d_call (c__law_draw T) (hr.mono (by decide)) (da_cons (d_var 0) (da_cons (d_op op_mulA s_mul (d_var 2) (d_var 3)) da_nil)))) (by decide) (sw_true rfl rfl rfl (by decide +kernel)))
      (ss_one (s_ret (d_tup (da_cons (d_var 2) (da_cons (d_var 3) (da_cons (d_var 4) (da_cons (d_var 5) (da_cons (d_var 6) (da_cons (d_var 7) (da_cons (d_callT1 call_tuple_of s_tuple T.z_tuple (d_var 8)) (da_cons (d_tupOf rfl T.z_tuple (dl_sortS rfl rfl T.z_sorted T.z_set (dr_val (d_var 10)))) da_nil))))))))))))))))))))
theorem c__law_rule (T : Top K Tb mg base) : Cal P w K Tb mg base 2 "_law_rule" 2 g__law_rule := by
  obtain ⟨f, fd, F, hm, hb⟩ := T.d__law_rule
  exact cal_mk (f__law_rule T F) hm F.kp hb
theorem f__law_row (T : Top K Tb mg base) {f : Addr} {fd : FuncData} (F : Fun K "_law_row" "_law_row" s__law_row f fd) : FnOk P w K mg base CX0 2 f fd p__law_row (spD K Tb 5 g__law_row) := by
  refine fn_mk (b := b__law_row) (N := N__law_row) (ps := p__law_row) F sc__law_row fun cdv A outer s H E hr => ?_
  exact (ss_cons (q1 := (gAsg (gIxL (gLst (gCons (gC (.str (Str.ofString "write"))) (gCons (gC (.str (Str.ofString "put"))) (gCons (gC (.str (Str.ofString "read"))) (gCons (gC (.str (Str.ofString "write"))) (gCons (gC (.str (Str.ofString "pass"))) (gCons (gC (.str (Str.ofString "write"))) gNil))))))) (gCall g__law_draw (gCons (gVar 0) (gCons (gC (.int 6)) gNil)))) (gName 5))) (q2 := r__law_row_7) (s_asg (d_ixL (dl_lst (da_cons d_str (da_cons d_str (da_cons d_str (da_cons d_str (da_cons d_str (da_cons d_str da_nil))))))) (d_call (c__law_draw T) (hr.mono (by decide)) (da_cons (d_var 0) (da_cons d_int da_nil)))) (dg_name 5 sc__law_row.nd))
      (ss_cons (q1 := (gAsg (gTup (gCons (gVar 5) (gCons (gOp vIx (gOp vAdd (gOp vAdd (gVar 2) (gVar 2)) (gNew (gLst (gCons (gCall g__law_draw (gCons (gVar 0) (gCons (gOp vMul (gOp vIx (gVar 1) (gC (.int 0))) (gOp vIx (gVar 1) (gC (.int 1)))) gNil))) gNil)))) (gCall g__law_draw (gCons (gVar 0) (gCons (gC (.int 5)) gNil)))) gNil))) (gName 6))) (q2 := r__law_row_6) (s_asg (d_tup (da_cons (d_var 5) (da_cons (d_ix (d_op op_addA s_add (d_op op_addA s_add (d_var 2) (d_var 2)) (d_new (dl_lst (da_cons (d_call (c__law_draw T) (hr.mono (by decide)) (da_cons (d_var 0) (da_cons (d_op op_mulA s_mul (d_ix (d_var 1) d_int) (d_ix (d_var 1) d_int)) da_nil))) da_nil)))) (d_call (c__law_draw T) (hr.mono (by decide)) (da_cons (d_var 0) (da_cons d_int da_nil)))) da_nil))) (dg_name 6 sc__law_row.nd))
      (ss_cons (q1 := (gIfS (tB (gOp vEq (gVar 5) (gC (.str (Str.ofString "pass"))))) (gAsg (gTup (gCons (gC (.str (Str.ofString "pass"))) gNil)) (gName 6)) gNext)) (q2 := r__law_row_5) (s_if (d_tcmp (op_eqD hr.units) s_eq (d_var 5) d_str) (ss_one (s_asg (d_tup (da_cons d_str da_nil)) (dg_name 6 sc__law_row.nd))) ss_nil)
      (ss_cons (q1 := (gAsg (gTup gNil) (gName 7))) (q2 := r__law_row_4) (s_asg (d_tup da_nil) (dg_name 7 sc__law_row.nd))
      (ss_cons (q1 := (gIfS (tB (gOp vEq (gCall g__law_draw (gCons (gVar 0) (gCons (gC (.int 3)) gNil))) (gC (.int 1)))) (gAsg (gCall g__law_part (gCons (gCall g__law_draw (gCons (gVar 0) (gCons (gIxL (gLst (gCons (gC (.int 1)) (gCons (gC (.int 2)) (gCons (gC (.int 4)) (gCons (gC (.int 8)) gNil))))) (gUn vLen (gOp vIx (gVar 1) (gC (.int 6))))) gNil))) (gCons (gUn vLen (gOp vIx (gVar 1) (gC (.int 6)))) gNil))) (gName 7)) gNext)) (q2 := r__law_row_3) (s_if (d_tcmp (op_eqD hr.units) s_eq (d_call (c__law_draw T) (hr.mono (by decide)) (da_cons (d_var 0) (da_cons d_int da_nil))) d_int) (ss_one (s_asg (d_call (c__law_part T) (hr.mono (by decide)) (da_cons (d_call (c__law_draw T) (hr.mono (by decide)) (da_cons (d_var 0) (da_cons (d_ixL (dl_lst (da_cons d_int (da_cons d_int (da_cons d_int (da_cons d_int da_nil))))) (d_call1 call_len s_len T.z_len (d_ix (d_var 1) d_int))) da_nil))) (da_cons (d_call1 call_len s_len T.z_len (d_ix (d_var 1) d_int)) da_nil))) (dg_name 7 sc__law_row.nd))) ss_nil)
      (ss_cons (q1 := (gAsg (gTup gNil) (gName 8))) (q2 := r__law_row_2) (s_asg (d_tup da_nil) (dg_name 8 sc__law_row.nd))
      (ss_cons (q1 := (gIfS (tB (gOp vLt (gOp vAdd (gVar 3) (gC (.int 1))) (gVar 4))) (gAsg (gTup (gCons (gOp vAdd (gVar 3) (gC (.int 1))) gNil)) (gName 8)) gNext)) (q2 := r__law_row_1) (s_if (d_tcmp op_lt s_lt (d_op op_addA s_add (d_var 3) d_int) (d_var 4)) (ss_one (s_asg (d_tup (da_cons (d_op op_addA s_add (d_var 3) d_int) da_nil)) (dg_name 8 sc__law_row.nd))) ss_nil)
      (ss_cons (q1 := (gIfS (tB (gOp vEq (gCall g__law_draw (gCons (gVar 0) (gCons (gC (.int 4)) gNil))) (gC (.int 1)))) (gAsg (gCall g__law_part (gCons (gCall g__law_draw (gCons (gVar 0) (gCons (gIxL (gLst (gCons (gC (.int 2)) (gCons (gC (.int 4)) (gCons (gC (.int 8)) (gCons (gC (.int 16)) (gCons (gC (.int 32)) (gCons (gC (.int 64)) (gCons (gC (.int 128)) (gCons (gC (.int 256)) gNil))))))))) (gOp vSub (gVar 4) (gC (.int 1)))) gNil))) (gCons (gVar 4) gNil))) (gName 8)) gNext)) (q2 := (gRet (gTup (gCons (gVar 6) (gCons (gVar 7) (gCons (gVar 8) gNil)))))) (s_if (d_tcmp (op_eqD hr.units) s_eq (d_call (c__law_draw T) (hr.mono (by decide)) (da_cons (d_var 0) (da_cons d_int da_nil))) d_int) (ss_one (s_asg (d_call (c__law_part T) (hr.mono (by decide)) (da_cons (d_call (c__law_draw T) (hr.mono (by decide)) (da_cons (d_var 0) (da_cons (d_ixL (dl_lst (da_cons d_int (da_cons d_int (da_cons d_int (da_cons d_int (da_cons d_int (da_cons d_int (da_cons d_int (da_cons d_int da_nil))))))))) (d_op op_sub s_sub (d_var 4) d_int)) da_nil))) (da_cons (d_var 4) da_nil))) (dg_name 8 sc__law_row.nd))) ss_nil)
      (ss_one (s_ret (d_tup (da_cons (d_var 6) (da_cons (d_var 7) (da_cons (d_var 8) da_nil))))))))))))))
theorem c__law_row (T : Top K Tb mg base) : Cal P w K Tb mg base 2 "_law_row" 5 g__law_row := by
  obtain ⟨f, fd, F, hm, hb⟩ := T.d__law_row
  exact cal_mk (f__law_row T F) hm F.kp hb
theorem f__law_program (T : Top K Tb mg base) {f : Addr} {fd : FuncData} (F : Fun K "_law_program" "_law_program" s__law_program f fd) : FnOk P w K mg base CX0 3 f fd p__law_program (spD K Tb 3 g__law_program) := by
  refine fn_mk (b := b__law_program) (N := N__law_program) (ps := p__law_program) F sc__law_program fun cdv A outer s H E hr => ?_
  exact (ss_cons (q1 := (gAsg (gIxL (gLst (gCons (gOp vAdd (gC (.int 1)) (gCall g__law_draw (gCons (gVar 0) (gCons (gVar 2) gNil)))) (gCons (gVar 2) gNil))) (gCall g__law_draw (gCons (gVar 0) (gCons (gC (.int 2)) gNil)))) (gName 3))) (q2 := r__law_program_1) (s_asg (d_ixL (dl_lst (da_cons (d_op op_addA s_add d_int (d_call (c__law_draw T) (hr.mono (by decide)) (da_cons (d_var 0) (da_cons (d_var 2) da_nil)))) (da_cons (d_var 2) da_nil))) (d_call (c__law_draw T) (hr.mono (by decide)) (da_cons (d_var 0) (da_cons d_int da_nil)))) (dg_name 3 sc__law_program.nd))
      (ss_cons (q1 := (gAsg (gNew (gLst (gCons (gCall g__law_draw (gCons (gVar 0) (gCons (gOp vMul (gOp vIx (gVar 1) (gC (.int 0))) (gOp vIx (gVar 1) (gC (.int 1)))) gNil))) (gCons (gCall g__law_draw (gCons (gVar 0) (gCons (gOp vMul (gOp vIx (gVar 1) (gC (.int 0))) (gOp vIx (gVar 1) (gC (.int 1)))) gNil))) gNil)))) (gName 4))) (q2 := (gRet (gTupOf (gLc (wRange (gVar 3)) (gName 5) tYes (gCall g__law_row (gCons (gVar 0) (gCons (gVar 1) (gCons (gVar 4) (gCons (gVar 5) (gCons (gVar 3) gNil)))))) [5])))) (s_asg (d_new (dl_lst (da_cons (d_call (c__law_draw T) (hr.mono (by decide)) (da_cons (d_var 0) (da_cons (d_op op_mulA s_mul (d_ix (d_var 1) d_int) (d_ix (d_var 1) d_int)) da_nil))) (da_cons (d_call (c__law_draw T) (hr.mono (by decide)) (da_cons (d_var 0) (da_cons (d_op op_mulA s_mul (d_ix (d_var 1) d_int) (d_ix (d_var 1) d_int)) da_nil))) da_nil)))) (dg_name 4 sc__law_program.nd))
      (ss_one (s_ret (d_tupOf rfl T.z_tuple (dl_comp (own := [("k", 5)]) (di_range rfl T.z_range (d_var 3)) sc__law_program.nd (blkOk_by (N := N__law_program) (sc := defScope s__law_program) (by decide +kernel)) (fun _ _ _ _ _ => (dg_name 5 sc__law_program.nd)) (fun _ _ _ _ _ => ts_nil) (fun _ _ _ _ _ => (d_call (c__law_row T) (hr.mono (by decide)) (da_cons (d_var 0) (da_cons (d_var 1) (da_cons (d_var 4) (da_cons (d_var 5) (da_cons (d_var 3) da_nil))))))) (by decide)))))))
theorem c__law_program (T : Top K Tb mg base) : Cal P w K Tb mg base 3 "_law_program" 3 g__law_program := by
  obtain ⟨f, fd, F, hm, hb⟩ := T.d__law_program
  exact cal_mk (f__law_program T F) hm F.kp hb
theorem f_is_tuple_of (T : Top K Tb mg base) {f : Addr} {fd : FuncData} (F : Fun K "is_tuple_of" "is_tuple_of" s_is_tuple_of f fd) : FnOk P w K mg base CX0 1 f fd p_is_tuple_of (spD K Tb 3 g_is_tuple_of) := by
  refine fn_mk (b := b_is_tuple_of) (N := N_is_tuple_of) (ps := p_is_tuple_of) F sc_is_tuple_of fun cdv A outer s H E hr => ?_
  exact (ss_one (s_ret (d_and (d_isi .tuple rfl T.z_isinstance T.z_tuple (d_var 0)) (d_one (d_chain op_le s_le op_le s_le (d_var 1) (d_call1 call_len s_len T.z_len (d_var 0)) (d_var 2))))))
theorem c_is_tuple_of (T : Top K Tb mg base) : Cal P w K Tb mg base 1 "is_tuple_of" 3 g_is_tuple_of := by
  obtain ⟨f, fd, F, hm, hb⟩ := T.d_is_tuple_of
  exact cal_mk (f_is_tuple_of T F) hm F.kp hb
theorem f_is_integer (T : Top K Tb mg base) {f : Addr} {fd : FuncData} (F : Fun K "is_integer" "is_integer" s_is_integer f fd) : FnOk P w K mg base CX0 1 f fd p_is_integer (spD K Tb 1 g_is_integer) := by
  refine fn_mk (b := b_is_integer) (N := N_is_integer) (ps := p_is_integer) F sc_is_integer fun cdv A outer s H E hr => ?_
  exact (ss_one (s_ret (d_and (d_isi .int rfl T.z_isinstance T.z_int (d_var 0)) (d_one (d_not (d_isi .bool rfl T.z_isinstance T.z_bool (d_var 0)))))))
theorem c_is_integer (T : Top K Tb mg base) : Cal P w K Tb mg base 1 "is_integer" 1 g_is_integer := by
  obtain ⟨f, fd, F, hm, hb⟩ := T.d_is_integer
  exact cal_mk (f_is_integer T F) hm F.kp hb
theorem f_is_integer_within (T : Top K Tb mg base) {f : Addr} {fd : FuncData} (F : Fun K "is_integer_within" "is_integer_within" s_is_integer_within f fd) : FnOk P w K mg base CX0 2 f fd p_is_integer_within (spD K Tb 3 g_is_integer_within) := by
  refine fn_mk (b := b_is_integer_within) (N := N_is_integer_within) (ps := p_is_integer_within) F sc_is_integer_within fun cdv A outer s H E hr => ?_
  exact (ss_one (s_ret (d_and (d_call (c_is_integer T) (hr.mono (by decide)) (da_cons (d_var 0) da_nil)) (d_one (d_chain op_le s_le op_le s_le (d_var 1) (d_var 0) (d_var 2))))))
theorem c_is_integer_within (T : Top K Tb mg base) : Cal P w K Tb mg base 2 "is_integer_within" 3 g_is_integer_within := by
  obtain ⟨f, fd, F, hm, hb⟩ := T.d_is_integer_within
  exact cal_mk (f_is_integer_within T F) hm F.kp hb
theorem f_are_numbers_below (T : Top K Tb mg base) {f : Addr} {fd : FuncData} (F : Fun K "are_numbers_below" "are_numbers_below" s_are_numbers_below f fd) : FnOk P w K mg base CX0 3 f fd p_are_numbers_below (spD K Tb 2 g_are_numbers_below) := by
  refine fn_mk (b := b_are_numbers_below) (N := N_are_numbers_below) (ps := p_are_numbers_below) F sc_are_numbers_below fun cdv A outer s H E hr => ?_
  exact (ss_cons (q1 := (gIfS (tNot (tTru (gUn (vIsi .tuple) (gVar 0)))) (gRet (gC (.bl false))) gNext)) (q2 := r_are_numbers_below_3) (s_if (t_not (t_tru (d_isi .tuple rfl T.z_isinstance T.z_tuple (d_var 0)))) (ss_one (s_ret d_bl)) ss_nil)
      (ss_cons (q1 := (gAsg (gC (.int 0)) (gName 2))) (q2 := r_are_numbers_below_2) (s_asg d_int (dg_name 2 sc_are_numbers_below.nd))
      (ss_cons (q1 := (gFor (wSeq (gVar 0)) (gName 3) r_are_numbers_below_1)) (q2 := (gRet (gC (.bl true)))) (s_for (di_seq (d_var 0)) (dg_name 3 sc_are_numbers_below.nd) (ss_cons (q1 := (gIfS (tNot (tTru (gCall g_is_integer_within (gCons (gVar 3) (gCons (gVar 2) (gCons (gOp vSub (gVar 1) (gC (.int 1))) gNil)))))) (gRet (gC (.bl false))) gNext)) (q2 := (gAsg (gOp vAdd (gVar 3) (gC (.int 1))) (gName 2))) (s_if (t_not (t_tru (d_call (c_is_integer_within T) (hr.mono (by decide)) (da_cons (d_var 3) (da_cons (d_var 2) (da_cons (d_op op_sub s_sub (d_var 1) d_int) da_nil)))))) (ss_one (s_ret d_bl)) ss_nil)
      (ss_one (s_asg (d_op op_addA s_add (d_var 3) d_int) (dg_name 2 sc_are_numbers_below.nd)))))
      (ss_one (s_ret d_bl)))))
theorem c_are_numbers_below (T : Top K Tb mg base) : Cal P w K Tb mg base 3 "are_numbers_below" 2 g_are_numbers_below := by
  obtain ⟨f, fd, F, hm, hb⟩ := T.d_are_numbers_below
  exact cal_mk (f_are_numbers_below T F) hm F.kp hb
theorem f_is_word_of (T : Top K Tb mg base) {f : Addr} {fd : FuncData} (F : Fun K "is_word_of" "is_word_of" s_is_word_of f fd) : FnOk P w K mg base CX0 1 f fd p_is_word_of (spD K Tb 2 g_is_word_of) := by
  refine fn_mk (b := b_is_word_of) (N := N_is_word_of) (ps := p_is_word_of) F sc_is_word_of fun cdv A outer s H E hr => ?_
  exact (ss_one (s_ret (d_and (d_isi .str rfl T.z_isinstance T.z_str (d_var 0)) (d_one (d_cmp (op_inA (u65 hr)) s_in (d_var 0) (d_var 1))))))
theorem c_is_word_of (T : Top K Tb mg base) : Cal P w K Tb mg base 1 "is_word_of" 2 g_is_word_of := by
  obtain ⟨f, fd, F, hm, hb⟩ := T.d_is_word_of
  exact cal_mk (f_is_word_of T F) hm F.kp hb
theorem f_is_kind (T : Top K Tb mg base) {f : Addr} {fd : FuncData} (F : Fun K "is_kind" "is_kind" s_is_kind f fd) : FnOk P w K mg base CX0 4 f fd p_is_kind (spD K Tb 2 g_is_kind) := by
  refine fn_mk (b := b_is_kind) (N := N_is_kind) (ps := p_is_kind) F sc_is_kind fun cdv A outer s H E hr => ?_
  exact (ss_one (s_ret (d_and (d_call (c_is_tuple_of T) (hr.mono (by decide)) (da_cons (d_var 0) (da_cons d_int (da_cons (d_var 1) da_nil)))) (d_one (d_call (c_are_numbers_below T) (hr.mono (by decide)) (da_cons (d_var 0) (da_cons (d_var 1) da_nil)))))))
theorem c_is_kind (T : Top K Tb mg base) : Cal P w K Tb mg base 4 "is_kind" 2 g_is_kind := by
  obtain ⟨f, fd, F, hm, hb⟩ := T.d_is_kind
  exact cal_mk (f_is_kind T F) hm F.kp hb
theorem f_places_of (T : Top K Tb mg base) {f : Addr} {fd : FuncData} (F : Fun K "places_of" "places_of" s_places_of f fd) : FnOk P w K mg base CX0 1 f fd p_places_of (spD K Tb 1 g_places_of) := by
  obtain ⟨t_LINES, m_LINES⟩ := T.k_LINES
  obtain ⟨t_WIDTH, m_WIDTH⟩ := T.k_WIDTH
  refine fn_mk (b := b_places_of) (N := N_places_of) (ps := p_places_of) F sc_places_of fun cdv A outer s H E hr => ?_
  exact (ss_one (s_ret (d_op op_mulA s_mul (d_ix (d_var 0) (d_glob (v := .int 0) m_WIDTH ⟨_, rfl⟩ (fun _ _ => (.int _)))) (d_ix (d_var 0) (d_glob (v := .int 1) m_LINES ⟨_, rfl⟩ (fun _ _ => (.int _)))))))
theorem c_places_of (T : Top K Tb mg base) : Cal P w K Tb mg base 1 "places_of" 1 g_places_of := by
  obtain ⟨f, fd, F, hm, hb⟩ := T.d_places_of
  exact cal_mk (f_places_of T F) hm F.kp hb
theorem f_is_rule (T : Top K Tb mg base) {f : Addr} {fd : FuncData} (F : Fun K "is_rule" "is_rule" s_is_rule f fd) : FnOk P w K mg base CX0 5 f fd p_is_rule (spD K Tb 1 g_is_rule) := by
  obtain ⟨t_ACTING, m_ACTING⟩ := T.k_ACTING
  obtain ⟨t_EAGER, m_EAGER⟩ := T.k_EAGER
  obtain ⟨t_KINDS, m_KINDS⟩ := T.k_KINDS
  obtain ⟨t_LINES, m_LINES⟩ := T.k_LINES
  obtain ⟨t_LOOK, m_LOOK⟩ := T.k_LOOK
  obtain ⟨a_LOOK_WORDS, m_LOOK_WORDS, q_LOOK_WORDS, zz_LOOK_WORDS⟩ := T.k_LOOK_WORDS
  obtain ⟨t_ROOM, m_ROOM⟩ := T.k_ROOM
  obtain ⟨t_SENDS, m_SENDS⟩ := T.k_SENDS
  obtain ⟨a_SENDS_WORDS, m_SENDS_WORDS, q_SENDS_WORDS, zz_SENDS_WORDS⟩ := T.k_SENDS_WORDS
  obtain ⟨t_WIDTH, m_WIDTH⟩ := T.k_WIDTH
  refine fn_mk (b := b_is_rule) (N := N_is_rule) (ps := p_is_rule) F sc_is_rule fun cdv A outer s H E hr => ?_
  exact (ss_cons (q1 := (gIfS (tNot (tTru (gCall g_is_tuple_of (gCons (gVar 0) (gCons (gC (.int 8)) (gCons (gC (.int 8)) gNil)))))) (gRet (gC (.bl false))) gNext)) (q2 := r_is_rule_5) (s_if (t_not (t_tru (d_call (c_is_tuple_of T) (hr.mono (by decide)) (da_cons (d_var 0) (da_cons d_int (da_cons d_int da_nil)))))) (ss_one (s_ret d_bl)) ss_nil)
      (ss_cons (q1 := (gFor (wSeq (gTup (gCons (gC (.int 0)) (gCons (gC (.int 1)) (gCons (gC (.int 2)) gNil))))) (gName 1) (gIfS (tNot (tTru (gCall g_is_integer_within (gCons (gOp vIx (gVar 0) (gVar 1)) (gCons (gC (.int 1)) (gCons (gC (.int 3)) gNil)))))) (gRet (gC (.bl false))) gNext))) (q2 := r_is_rule_4) (s_for (di_seq (d_tup (da_cons (d_glob (v := .int 0) m_WIDTH ⟨_, rfl⟩ (fun _ _ => (.int _))) (da_cons (d_glob (v := .int 1) m_LINES ⟨_, rfl⟩ (fun _ _ => (.int _))) (da_cons (d_glob (v := .int 2) m_ROOM ⟨_, rfl⟩ (fun _ _ => (.int _))) da_nil))))) (dg_name 1 sc_is_rule.nd) (ss_one (s_if (t_not (t_tru (d_call (c_is_integer_within T) (hr.mono (by decide)) (da_cons (d_ix (d_var 0) (d_var 1)) (da_cons d_int (da_cons d_int da_nil)))))) (ss_one (s_ret d_bl)) ss_nil)))
      (ss_cons (q1 := (gIfS (tOr (tNot (tTru (gCall g_is_word_of (gCons (gOp vIx (gVar 0) (gC (.int 3))) (gCons (gC (.tup [(.str (Str.ofString "whole")), (.str (Str.ofString "parts")), (.str (Str.ofString "filled"))])) gNil))))) (tNot (tTru (gCall g_is_word_of (gCons (gOp vIx (gVar 0) (gC (.int 5))) (gCons (gC (.tup [(.str (Str.ofString "into")), (.str (Str.ofString "past")), (.str (Str.ofString "first"))])) gNil)))))) (gRet (gC (.bl false))) gNext)) (q2 := r_is_rule_3) (s_if (t_w (t_or (t_not (t_tru (d_call (c_is_word_of T) (hr.mono (by decide)) (da_cons (d_ix (d_var 0) (d_glob (v := .int 3) m_SENDS ⟨_, rfl⟩ (fun _ _ => (.int _)))) (da_cons (d_glob (v := .ref a_SENDS_WORDS) m_SENDS_WORDS rfl (fun _ H => .tup (q_SENDS_WORDS H) (.cons (.str _) (.cons (.str _) (.cons (.str _) .nil))))) da_nil))))) (t_or1 (t_not (t_tru (d_call (c_is_word_of T) (hr.mono (by decide)) (da_cons (d_ix (d_var 0) (d_glob (v := .int 5) m_LOOK ⟨_, rfl⟩ (fun _ _ => (.int _)))) (da_cons (d_glob (v := .ref a_LOOK_WORDS) m_LOOK_WORDS rfl (fun _ H => .tup (q_LOOK_WORDS H) (.cons (.str _) (.cons (.str _) (.cons (.str _) .nil))))) da_nil)))))))) (ss_one (s_ret d_bl)) ss_nil)
      (ss_cons (q1 := (gIfS (tNot (tTru (gUn (vIsi .bool) (gOp vIx (gVar 0) (gC (.int 4)))))) (gRet (gC (.bl false))) gNext)) (q2 := r_is_rule_2) (s_if (t_not (t_tru (d_isi .bool rfl T.z_isinstance T.z_bool (d_ix (d_var 0) (d_glob (v := .int 4) m_EAGER ⟨_, rfl⟩ (fun _ _ => (.int _))))))) (ss_one (s_ret d_bl)) ss_nil)
      (ss_cons (q1 := (gIfS (tOr (tNot (tTru (gCall g_is_tuple_of (gCons (gOp vIx (gVar 0) (gC (.int 6))) (gCons (gC (.int 0)) (gCons (gC (.int 3)) gNil)))))) (tNot (tTru (gCall g_is_tuple_of (gCons (gOp vIx (gVar 0) (gC (.int 7))) (gCons (gC (.int 0)) (gCons (gC (.int 2)) gNil))))))) (gRet (gC (.bl false))) gNext)) (q2 := r_is_rule_1) (s_if (t_w (t_or (t_not (t_tru (d_call (c_is_tuple_of T) (hr.mono (by decide)) (da_cons (d_ix (d_var 0) (d_glob (v := .int 6) m_KINDS ⟨_, rfl⟩ (fun _ _ => (.int _)))) (da_cons d_int (da_cons d_int da_nil)))))) (t_or1 (t_not (t_tru (d_call (c_is_tuple_of T) (hr.mono (by decide)) (da_cons (d_ix (d_var 0) (d_glob (v := .int 7) m_ACTING ⟨_, rfl⟩ (fun _ _ => (.int _)))) (da_cons d_int (da_cons d_int da_nil))))))))) (ss_one (s_ret d_bl)) ss_nil)
      (ss_cons (q1 := (gAsg (gAll (gLc (wSeq (gOp vIx (gVar 0) (gC (.int 6)))) (gName 3) tYes (gCall g_is_kind (gCons (gVar 3) (gCons (gOp vIx (gVar 0) (gC (.int 1))) gNil))) [3])) (gName 2))) (q2 := (gRet (gAnd (gVar 2) (gCall g_are_numbers_below (gCons (gOp vIx (gVar 0) (gC (.int 7))) (gCons (gCall g_places_of (gCons (gVar 0) gNil)) gNil)))))) (s_asg (d_all rfl T.z_all (dl_comp (own := [("kind", 3)]) (di_seq (d_ix (d_var 0) (d_glob (v := .int 6) m_KINDS ⟨_, rfl⟩ (fun _ _ => (.int _))))) sc_is_rule.nd (blkOk_by (N := N_is_rule) (sc := defScope s_is_rule) (by decide +kernel)) (fun _ _ _ _ _ => (dg_name 3 sc_is_rule.nd)) (fun _ _ _ _ _ => ts_nil) (fun _ _ _ _ _ => (d_call (c_is_kind T) (hr.mono (by decide)) (da_cons (d_var 3) (da_cons (d_ix (d_var 0) (d_glob (v := .int 1) m_LINES ⟨_, rfl⟩ (fun _ _ => (.int _)))) da_nil)))) (by decide))) (dg_name 2 sc_is_rule.nd))
      (ss_one (s_ret (d_and (d_var 2) (d_one (d_call (c_are_numbers_below T) (hr.mono (by decide)) (da_cons (d_ix (d_var 0) (d_glob (v := .int 7) m_ACTING ⟨_, rfl⟩ (fun _ _ => (.int _)))) (da_cons (d_call (c_places_of T) (hr.mono (by decide)) (da_cons (d_var 0) da_nil)) da_nil)))))))))))))
theorem c_is_rule (T : Top K Tb mg base) : Cal P w K Tb mg base 5 "is_rule" 1 g_is_rule := by
  obtain ⟨f, fd, F, hm, hb⟩ := T.d_is_rule
  exact cal_mk (f_is_rule T F) hm F.kp hb
theorem f_check_rule (T : Top K Tb mg base) {f : Addr} {fd : FuncData} (F : Fun K "check_rule" "check_rule" s_check_rule f fd) : FnOk P w K mg base (L2.CX P w) 6 f fd p_check_rule (spX K Tb 1 g_check_rule) := by
  obtain ⟨R_BadRule, e_BadRule, m_BadRule, q_BadRule, w_BadRule⟩ := T.xr_BadRule
  refine fnX_mk (b := b_check_rule) (N := N_check_rule) (ps := p_check_rule) F sc_check_rule fun cdv A outer s H E hr => ?_
  exact (sx_one (sx_if (tx_pure (t_not (t_tru (d_call (c_is_rule T) (hr.mono (by decide)) (da_cons (d_var 0) da_nil))))) (sx_one (sx_raise takesX PySem.F.excBase_ValueError w_BadRule e_BadRule m_BadRule q_BadRule)) sx_nil))
theorem c_check_rule (T : Top K Tb mg base) : CalX P w K Tb mg base 6 "check_rule" 1 g_check_rule := by
  obtain ⟨f, fd, F, hm, hb⟩ := T.d_check_rule
  exact calX_mk (f_check_rule T F) hm F.kp hb
theorem f_is_operation (T : Top K Tb mg base) {f : Addr} {fd : FuncData} (F : Fun K "is_operation" "is_operation" s_is_operation f fd) : FnOk P w K mg base CX0 3 f fd p_is_operation (spD K Tb 2 g_is_operation) := by
  obtain ⟨a_PLACE_WORDS, m_PLACE_WORDS, q_PLACE_WORDS, zz_PLACE_WORDS⟩ := T.k_PLACE_WORDS
  refine fn_mk (b := b_is_operation) (N := N_is_operation) (ps := p_is_operation) F sc_is_operation fun cdv A outer s H E hr => ?_
  exact (ss_cons (q1 := (gIfS (tNot (tTru (gCall g_is_tuple_of (gCons (gVar 1) (gCons (gC (.int 1)) (gCons (gC (.int 2)) gNil)))))) (gRet (gC (.bl false))) gNext)) (q2 := r_is_operation_1) (s_if (t_not (t_tru (d_call (c_is_tuple_of T) (hr.mono (by decide)) (da_cons (d_var 1) (da_cons d_int (da_cons d_int da_nil)))))) (ss_one (s_ret d_bl)) ss_nil)
      (ss_cons (q1 := (gIfS (tB (gOp vEq (gUn vLen (gVar 1)) (gC (.int 1)))) (gRet (gCall g_is_word_of (gCons (gOp vIx (gVar 1) (gC (.int 0))) (gCons (gTup (gCons (gC (.str (Str.ofString "pass"))) gNil)) gNil)))) gNext)) (q2 := (gRet (gAnd (gCall g_is_word_of (gCons (gOp vIx (gVar 1) (gC (.int 0))) (gCons (gC (.tup [(.str (Str.ofString "write")), (.str (Str.ofString "put")), (.str (Str.ofString "read"))])) gNil))) (gCall g_is_integer_within (gCons (gOp vIx (gVar 1) (gC (.int 1))) (gCons (gC (.int 0)) (gCons (gOp vSub (gCall g_places_of (gCons (gVar 0) gNil)) (gC (.int 1))) gNil))))))) (s_if (d_tcmp (op_eqD hr.units) s_eq (d_call1 call_len s_len T.z_len (d_var 1)) d_int) (ss_one (s_ret (d_call (c_is_word_of T) (hr.mono (by decide)) (da_cons (d_ix (d_var 1) d_int) (da_cons (d_tup (da_cons d_str da_nil)) da_nil))))) ss_nil)
      (ss_one (s_ret (d_and (d_call (c_is_word_of T) (hr.mono (by decide)) (da_cons (d_ix (d_var 1) d_int) (da_cons (d_glob (v := .ref a_PLACE_WORDS) m_PLACE_WORDS rfl (fun _ H => .tup (q_PLACE_WORDS H) (.cons (.str _) (.cons (.str _) (.cons (.str _) .nil))))) da_nil))) (d_one (d_call (c_is_integer_within T) (hr.mono (by decide)) (da_cons (d_ix (d_var 1) d_int) (da_cons d_int (da_cons (d_op op_sub s_sub (d_call (c_places_of T) (hr.mono (by decide)) (da_cons (d_var 0) da_nil)) d_int) da_nil))))))))))
theorem c_is_operation (T : Top K Tb mg base) : Cal P w K Tb mg base 3 "is_operation" 2 g_is_operation := by
  obtain ⟨f, fd, F, hm, hb⟩ := T.d_is_operation
  exact cal_mk (f_is_operation T F) hm F.kp hb
theorem f_is_fenced_operation (T : Top K Tb mg base) {f : Addr} {fd : FuncData} (F : Fun K "is_fenced_operation" "is_fenced_operation" s_is_fenced_operation f fd) : FnOk P w K mg base CX0 4 f fd p_is_fenced_operation (spD K Tb 2 g_is_fenced_operation) := by
  obtain ⟨t_KINDS, m_KINDS⟩ := T.k_KINDS
  refine fn_mk (b := b_is_fenced_operation) (N := N_is_fenced_operation) (ps := p_is_fenced_operation) F sc_is_fenced_operation fun cdv A outer s H E hr => ?_
  exact (ss_cons (q1 := (gIfS (tNot (tTru (gCall g_is_tuple_of (gCons (gVar 1) (gCons (gC (.int 2)) (gCons (gC (.int 2)) gNil)))))) (gRet (gC (.bl false))) gNext)) (q2 := r_is_fenced_operation_1) (s_if (t_not (t_tru (d_call (c_is_tuple_of T) (hr.mono (by decide)) (da_cons (d_var 1) (da_cons d_int (da_cons d_int da_nil)))))) (ss_one (s_ret d_bl)) ss_nil)
      (ss_cons (q1 := (gAsg (gVar 1) (gUnpack 2 (ggCons (gName 2) (ggCons (gName 3) ggNil))))) (q2 := (gRet (gAnd (gCall g_is_operation (gCons (gVar 0) (gCons (gVar 2) gNil))) (gCall g_are_numbers_below (gCons (gVar 3) (gCons (gUn vLen (gOp vIx (gVar 0) (gC (.int 6)))) gNil)))))) (s_asg (d_var 1) (dg_tup (dgs_cons (dg_name 2 sc_is_fenced_operation.nd) (dgs_cons (dg_name 3 sc_is_fenced_operation.nd) dgs_nil))))
      (ss_one (s_ret (d_and (d_call (c_is_operation T) (hr.mono (by decide)) (da_cons (d_var 0) (da_cons (d_var 2) da_nil))) (d_one (d_call (c_are_numbers_below T) (hr.mono (by decide)) (da_cons (d_var 3) (da_cons (d_call1 call_len s_len T.z_len (d_ix (d_var 0) (d_glob (v := .int 6) m_KINDS ⟨_, rfl⟩ (fun _ _ => (.int _))))) da_nil)))))))))
theorem c_is_fenced_operation (T : Top K Tb mg base) : Cal P w K Tb mg base 4 "is_fenced_operation" 2 g_is_fenced_operation := by
  obtain ⟨f, fd, F, hm, hb⟩ := T.d_is_fenced_operation
  exact cal_mk (f_is_fenced_operation T F) hm F.kp hb
theorem f_is_row (T : Top K Tb mg base) {f : Addr} {fd : FuncData} (F : Fun K "is_row" "is_row" s_is_row f fd) : FnOk P w K mg base CX0 5 f fd p_is_row (spD K Tb 3 g_is_row) := by
  refine fn_mk (b := b_is_row) (N := N_is_row) (ps := p_is_row) F sc_is_row fun cdv A outer s H E hr => ?_
  exact (ss_cons (q1 := (gIfS (tNot (tTru (gCall g_is_tuple_of (gCons (gVar 1) (gCons (gC (.int 3)) (gCons (gC (.int 3)) gNil)))))) (gRet (gC (.bl false))) gNext)) (q2 := r_is_row_1) (s_if (t_not (t_tru (d_call (c_is_tuple_of T) (hr.mono (by decide)) (da_cons (d_var 1) (da_cons d_int (da_cons d_int da_nil)))))) (ss_one (s_ret d_bl)) ss_nil)
      (ss_cons (q1 := (gAsg (gVar 1) (gUnpack 3 (ggCons (gName 3) (ggCons (gName 4) (ggCons (gName 5) ggNil)))))) (q2 := (gRet (gAnd (gCall g_is_fenced_operation (gCons (gVar 0) (gCons (gTup (gCons (gVar 3) (gCons (gVar 4) gNil))) gNil))) (gCall g_are_numbers_below (gCons (gVar 5) (gCons (gVar 2) gNil)))))) (s_asg (d_var 1) (dg_tup (dgs_cons (dg_name 3 sc_is_row.nd) (dgs_cons (dg_name 4 sc_is_row.nd) (dgs_cons (dg_name 5 sc_is_row.nd) dgs_nil)))))
      (ss_one (s_ret (d_and (d_call (c_is_fenced_operation T) (hr.mono (by decide)) (da_cons (d_var 0) (da_cons (d_tup (da_cons (d_var 3) (da_cons (d_var 4) da_nil))) da_nil))) (d_one (d_call (c_are_numbers_below T) (hr.mono (by decide)) (da_cons (d_var 5) (da_cons (d_var 2) da_nil)))))))))
theorem c_is_row (T : Top K Tb mg base) : Cal P w K Tb mg base 5 "is_row" 3 g_is_row := by
  obtain ⟨f, fd, F, hm, hb⟩ := T.d_is_row
  exact cal_mk (f_is_row T F) hm F.kp hb
theorem f_has_rows (T : Top K Tb mg base) {f : Addr} {fd : FuncData} (F : Fun K "has_rows" "has_rows" s_has_rows f fd) : FnOk P w K mg base CX0 6 f fd p_has_rows (spD K Tb 2 g_has_rows) := by
  obtain ⟨t_MOST_ROWS, m_MOST_ROWS⟩ := T.k_MOST_ROWS
  refine fn_mk (b := b_has_rows) (N := N_has_rows) (ps := p_has_rows) F sc_has_rows fun cdv A outer s H E hr => ?_
  exact (ss_one (s_ret (d_and (d_call (c_is_tuple_of T) (hr.mono (by decide)) (da_cons (d_var 1) (da_cons d_int (da_cons (d_glob (v := .int 8) m_MOST_ROWS ⟨_, rfl⟩ (fun _ _ => (.int _))) da_nil)))) (d_one (d_all rfl T.z_all (dl_comp (own := [("row", 2)]) (di_seq (d_var 1)) sc_has_rows.nd (blkOk_by (N := N_has_rows) (sc := defScope s_has_rows) (by decide +kernel)) (fun _ _ _ _ _ => (dg_name 2 sc_has_rows.nd)) (fun _ _ _ _ _ => ts_nil) (fun _ _ _ _ _ => (d_call (c_is_row T) (hr.mono (by decide)) (da_cons (d_var 0) (da_cons (d_var 2) (da_cons (d_call1 call_len s_len T.z_len (d_var 1)) da_nil))))) (by decide)))))))
theorem c_has_rows (T : Top K Tb mg base) : Cal P w K Tb mg base 6 "has_rows" 2 g_has_rows := by
  obtain ⟨f, fd, F, hm, hb⟩ := T.d_has_rows
  exact cal_mk (f_has_rows T F) hm F.kp hb
theorem f_check_program (T : Top K Tb mg base) {f : Addr} {fd : FuncData} (F : Fun K "check_program" "check_program" s_check_program f fd) : FnOk P w K mg base (L2.CX P w) 7 f fd p_check_program (spX K Tb 2 g_check_program) := by
  obtain ⟨R_BadProgram, e_BadProgram, m_BadProgram, q_BadProgram, w_BadProgram⟩ := T.xr_BadProgram
  refine fnX_mk (b := b_check_program) (N := N_check_program) (ps := p_check_program) F sc_check_program fun cdv A outer s H E hr => ?_
  exact (sx_cons (ga := (gDrop (gCall g_check_rule (xE (gCons (gVar 0) gNil))))) (gb := (gIfS (xE (tNot (tTru (gCall g_has_rows (gCons (gVar 0) (gCons (gVar 1) gNil)))))) (gRaise "BadProgram") gNext)) (sx_expr (dx_call (c_check_rule T) takesX (hr.mono (by decide)) (ax_pure (da_cons (d_var 0) da_nil))))
      (sx_one (sx_if (tx_pure (t_not (t_tru (d_call (c_has_rows T) (hr.mono (by decide)) (da_cons (d_var 0) (da_cons (d_var 1) da_nil)))))) (sx_one (sx_raise takesX PySem.F.excBase_ValueError w_BadProgram e_BadProgram m_BadProgram q_BadProgram)) sx_nil)))
theorem c_check_program (T : Top K Tb mg base) : CalX P w K Tb mg base 7 "check_program" 2 g_check_program := by
  obtain ⟨f, fd, F, hm, hb⟩ := T.d_check_program
  exact calX_mk (f_check_program T F) hm F.kp hb
theorem f_is_spot (T : Top K Tb mg base) {f : Addr} {fd : FuncData} (F : Fun K "is_spot" "is_spot" s_is_spot f fd) : FnOk P w K mg base CX0 3 f fd p_is_spot (spD K Tb 3 g_is_spot) := by
  obtain ⟨t_KINDS, m_KINDS⟩ := T.k_KINDS
  refine fn_mk (b := b_is_spot) (N := N_is_spot) (ps := p_is_spot) F sc_is_spot fun cdv A outer s H E hr => ?_
  exact (ss_cons (q1 := (gIfS (tOr (tNot (tTru (gUn (vIsi .tuple) (gVar 2)))) (tB (gOp vNe (gUn vLen (gVar 2)) (gC (.int 2))))) (gRet (gC (.bl false))) gNext)) (q2 := r_is_spot_1) (s_if (t_w (t_or (t_not (t_tru (d_isi .tuple rfl T.z_isinstance T.z_tuple (d_var 2)))) (t_or1 (d_tcmp (op_neD hr.units) s_ne (d_call1 call_len s_len T.z_len (d_var 2)) d_int)))) (ss_one (s_ret d_bl)) ss_nil)
      (ss_cons (q1 := (gAsg (gVar 2) (gUnpack 2 (ggCons (gName 3) (ggCons (gName 4) ggNil))))) (q2 := (gRet (gAnd (gCall g_is_integer_within (gCons (gVar 3) (gCons (gC (.int 0)) (gCons (gOp vSub (gUn vLen (gVar 1)) (gC (.int 1))) gNil)))) (gCall g_is_integer_within (gCons (gVar 4) (gCons (gC (.int 0)) (gCons (gOp vSub (gUn vLen (gOp vIx (gVar 0) (gC (.int 6)))) (gC (.int 1))) gNil))))))) (s_asg (d_var 2) (dg_tup (dgs_cons (dg_name 3 sc_is_spot.nd) (dgs_cons (dg_name 4 sc_is_spot.nd) dgs_nil))))
      (ss_one (s_ret (d_and (d_call (c_is_integer_within T) (hr.mono (by decide)) (da_cons (d_var 3) (da_cons d_int (da_cons (d_op op_sub s_sub (d_call1 call_len s_len T.z_len (d_var 1)) d_int) da_nil)))) (d_one (d_call (c_is_integer_within T) (hr.mono (by decide)) (da_cons (d_var 4) (da_cons d_int (da_cons (d_op op_sub s_sub (d_call1 call_len s_len T.z_len (d_ix (d_var 0) (d_glob (v := .int 6) m_KINDS ⟨_, rfl⟩ (fun _ _ => (.int _))))) d_int) da_nil))))))))))
theorem c_is_spot (T : Top K Tb mg base) : Cal P w K Tb mg base 3 "is_spot" 3 g_is_spot := by
  obtain ⟨f, fd, F, hm, hb⟩ := T.d_is_spot
  exact cal_mk (f_is_spot T F) hm F.kp hb
theorem f_check_lot (T : Top K Tb mg base) {f : Addr} {fd : FuncData} (F : Fun K "check_lot" "check_lot" s_check_lot f fd) : FnOk P w K mg base (L2.CX P w) 4 f fd p_check_lot (spX K Tb 3 g_check_lot) := by
  obtain ⟨R_BadSpot, e_BadSpot, m_BadSpot, q_BadSpot, w_BadSpot⟩ := T.xr_BadSpot
  refine fnX_mk (b := b_check_lot) (N := N_check_lot) (ps := p_check_lot) F sc_check_lot fun cdv A outer s H E hr => ?_
  exact (sx_cons (ga := (gIfS (xE (tOr (tNot (tTru (gUn (vIsi .tuple) (gVar 2)))) (tNot (tTru (gAll (gLc (wSeq (gVar 2)) (gName 3) tYes (gCall g_is_spot (gCons (gVar 0) (gCons (gVar 1) (gCons (gVar 3) gNil)))) [3])))))) (gRaise "BadSpot") gNext)) (gb := (gIfS (xE (tB (gOp vNe (gVar 2) (gTupOf (gSortSP (gVar 2)))))) (gRaise "BadSpot") gNext)) (sx_if (tx_pure (t_w (t_or (t_not (t_tru (d_isi .tuple rfl T.z_isinstance T.z_tuple (d_var 2)))) (t_or1 (t_not (t_tru (d_all rfl T.z_all (dl_comp (own := [("spot", 3)]) (di_seq (d_var 2)) sc_check_lot.nd (blkOk_by (N := N_check_lot) (sc := defScope s_check_lot) (by decide +kernel)) (fun _ _ _ _ _ => (dg_name 3 sc_check_lot.nd)) (fun _ _ _ _ _ => ts_nil) (fun _ _ _ _ _ => (d_call (c_is_spot T) (hr.mono (by decide)) (da_cons (d_var 0) (da_cons (d_var 1) (da_cons (d_var 3) da_nil))))) (by decide))))))))) (sx_one (sx_raise takesX PySem.F.excBase_ValueError w_BadSpot e_BadSpot m_BadSpot q_BadSpot)) sx_nil)
      (sx_one (sx_if (tx_pure (d_tcmp (op_neD hr.units) s_ne (d_var 2) (d_tupOf rfl T.z_tuple (dl_sortSP (hr.mono (Nat.zero_le _)) rfl rfl T.z_sorted T.z_set (d_var 2))))) (sx_one (sx_raise takesX PySem.F.excBase_ValueError w_BadSpot e_BadSpot m_BadSpot q_BadSpot)) sx_nil)))
theorem c_check_lot (T : Top K Tb mg base) : CalX P w K Tb mg base 4 "check_lot" 3 g_check_lot := by
  obtain ⟨f, fd, F, hm, hb⟩ := T.d_check_lot
  exact calX_mk (f_check_lot T F) hm F.kp hb
theorem f_program_with (T : Top K Tb mg base) {f : Addr} {fd : FuncData} (F : Fun K "program_with" "program_with" s_program_with f fd) : FnOk P w K mg base CX0 1 f fd p_program_with (spD K Tb 2 g_program_with) := by
  refine fn_mk (b := b_program_with) (N := N_program_with) (ps := p_program_with) F sc_program_with fun cdv A outer s H E hr => ?_
  exact (ss_cons (q1 := (gAsg (gNew (gLst gNil)) (gName 2))) (q2 := r_program_with_2) (s_asg (d_new (dl_lst da_nil)) (dg_name 2 sc_program_with.nd))
      (ss_cons (q1 := (gFor (wEnum (gVar 0)) (gUnpack 2 (ggCons (gName 3) (ggCons (gUnpack 3 (ggCons (gName 5) (ggCons (gName 6) (ggCons (gName 7) ggNil)))) ggNil))) r_program_with_1)) (q2 := (gRet (gUn vTuple (gVar 2)))) (s_for (di_enum rfl T.z_enumerate (d_var 0)) (dg_tup (dgs_cons (dg_name 3 sc_program_with.nd) (dgs_cons (dg_tup (dgs_cons (dg_name 5 sc_program_with.nd) (dgs_cons (dg_name 6 sc_program_with.nd) (dgs_cons (dg_name 7 sc_program_with.nd) dgs_nil)))) dgs_nil))) (ss_cons (q1 := (gAsg (gNew (gLc (wSeq (gVar 1)) (gUnpack 2 (ggCons (gName 8) (ggCons (gName 9) ggNil))) (tB (gOp vEq (gVar 8) (gVar 3))) (gVar 9) [8, 9])) (gName 4))) (q2 := (gDrop (gApp (gVar 2) (gTup (gCons (gVar 5) (gCons (gTupOf (gSortS (gLst (gStar (gVar 6) (gStar (gVar 4) gNil))))) (gCons (gVar 7) gNil))))))) (s_setLc (i := 4) (own := [("row", 8), ("kind", 9)]) (di_seq (d_var 1)) sc_program_with.nd (blkOk_by (N := N_program_with) (sc := defScope s_program_with) (by decide +kernel)) (fun _ _ _ _ _ => (dg_tup (dgs_cons (dg_name 8 sc_program_with.nd) (dgs_cons (dg_name 9 sc_program_with.nd) dgs_nil)))) (fun _ _ _ _ _ => (ts_one (d_tcmp (op_eqD hr.units) s_eq (d_var 8) (d_var 3)))) (fun _ _ _ _ _ => (d_var 9)) (by decide) (sw_true rfl rfl rfl (by decide +kernel)))
      (ss_one (s_expr (d_app rfl (d_var 2) (d_tup (da_cons (d_var 5) (da_cons (d_tupOf rfl T.z_tuple (dl_sortS rfl rfl T.z_sorted T.z_set (dr_new (dl_lst (da_star (d_var 6) (da_star (d_var 4) da_nil)))))) (da_cons (d_var 7) da_nil)))))))))
      (ss_one (s_ret (d_callT1 call_tuple_of s_tuple T.z_tuple (d_var 2))))))
theorem c_program_with (T : Top K Tb mg base) : Cal P w K Tb mg base 1 "program_with" 2 g_program_with := by
  obtain ⟨f, fd, F, hm, hb⟩ := T.d_program_with
  exact cal_mk (f_program_with T F) hm F.kp hb
theorem f_with_fences (T : Top K Tb mg base) {f : Addr} {fd : FuncData} (F : Fun K "with_fences" "with_fences" s_with_fences f fd) : FnOk P w K mg base (L2.CX P w) 8 f fd p_with_fences (spX K Tb 3 g_with_fences) := by
  refine fnX_mk (b := b_with_fences) (N := N_with_fences) (ps := p_with_fences) F sc_with_fences fun cdv A outer s H E hr => ?_
  exact (sx_cons (ga := (gDrop (gCall g_check_program (xE (gCons (gVar 0) (gCons (gVar 1) gNil)))))) (gb := r_with_fences_1) (sx_expr (dx_call (c_check_program T) takesX (hr.mono (by decide)) (ax_pure (da_cons (d_var 0) (da_cons (d_var 1) da_nil)))))
      (sx_cons (ga := (gDrop (gCall g_check_lot (xE (gCons (gVar 0) (gCons (gVar 1) (gCons (gVar 2) gNil))))))) (gb := (xE (gRet (gCall g_program_with (gCons (gVar 1) (gCons (gVar 2) gNil)))))) (sx_expr (dx_call (c_check_lot T) takesX (hr.mono (by decide)) (ax_pure (da_cons (d_var 0) (da_cons (d_var 1) (da_cons (d_var 2) da_nil))))))
      (sx_one (sx_pure (s_ret (d_call (c_program_with T) (hr.mono (by decide)) (da_cons (d_var 1) (da_cons (d_var 2) da_nil))))))))
theorem c_with_fences (T : Top K Tb mg base) : CalX P w K Tb mg base 8 "with_fences" 3 g_with_fences := by
  obtain ⟨f, fd, F, hm, hb⟩ := T.d_with_fences
  exact calX_mk (f_with_fences T F) hm F.kp hb
theorem f__law_only (T : Top K Tb mg base) {f : Addr} {fd : FuncData} (F : Fun K "_law_only" "_law_only" s__law_only f fd) : FnOk P w K mg base CX0 1 f fd p__law_only (spD K Tb 2 g__law_only) := by
  obtain ⟨C_BadProgram, m_BadProgram, x_BadProgram⟩ := T.xt_BadProgram
  obtain ⟨C_BadQuestion, m_BadQuestion, x_BadQuestion⟩ := T.xt_BadQuestion
  obtain ⟨C_BadRule, m_BadRule, x_BadRule⟩ := T.xt_BadRule
  obtain ⟨C_BadSpot, m_BadSpot, x_BadSpot⟩ := T.xt_BadSpot
  obtain ⟨C_BadStep, m_BadStep, x_BadStep⟩ := T.xt_BadStep
  obtain ⟨C_NotEnough, m_NotEnough, x_NotEnough⟩ := T.xt_NotEnough
  obtain ⟨C_TooMany, m_TooMany, x_TooMany⟩ := T.xt_TooMany
  have x_ValueError := T.xt_ValueError
  obtain ⟨Ct0_UnlikeRules, Ct0_BadText, Ct0_BadCommand, Ct0_BadIndex, Ct0_BadLong, mt0_UnlikeRules, mt0_BadText, mt0_BadCommand, mt0_BadIndex, mt0_BadLong, xs_0⟩ := T.xts_0
  obtain ⟨Ct1_NothingToUndo, Ct1_BadPlace, mt1_NothingToUndo, mt1_BadPlace, xs_1⟩ := T.xts_1
  refine fn_mk (b := b__law_only) (N := N__law_only) (ps := p__law_only) F sc__law_only fun cdv A outer s H E hr => ?_
  exact (ss_cons (q1 := (gAsg (gNew (gLst (gCons (gUn (vIsX lt_BadRule) (gVar 0)) (gCons (gUn (vIsX lt_BadProgram) (gVar 0)) (gCons (gUn (vIsX lt_BadStep) (gVar 0)) gNil))))) (gName 2))) (q2 := r__law_only_3) (s_asg (d_new (dl_lst (da_cons (d_isX x_BadRule (.own _) (pe_glob rfl m_BadRule rfl) T.z_isinstance (d_var 0)) (da_cons (d_isX x_BadProgram (.own _) (pe_glob rfl m_BadProgram rfl) T.z_isinstance (d_var 0)) (da_cons (d_isX x_BadStep (.own _) (pe_glob rfl m_BadStep rfl) T.z_isinstance (d_var 0)) da_nil))))) (dg_name 2 sc__law_only.nd))
      (ss_cons (q1 := (gAsg (gOp vAdd (gVar 2) (gNew (gLst (gCons (gUn (vIsX lt_BadQuestion) (gVar 0)) (gCons (gUn (vIsX lt_BadSpot) (gVar 0)) (gCons (gUn (vIsX lt_TooMany) (gVar 0)) gNil)))))) (gName 2))) (q2 := r__law_only_2) (s_asg (d_op op_addA s_add (d_var 2) (d_new (dl_lst (da_cons (d_isX x_BadQuestion (.own _) (pe_glob rfl m_BadQuestion rfl) T.z_isinstance (d_var 0)) (da_cons (d_isX x_BadSpot (.own _) (pe_glob rfl m_BadSpot rfl) T.z_isinstance (d_var 0)) (da_cons (d_isX x_TooMany (.own _) (pe_glob rfl m_TooMany rfl) T.z_isinstance (d_var 0)) da_nil)))))) (dg_name 2 sc__law_only.nd))
      (ss_cons (q1 := (gDrop (gApp (gVar 2) (gUn (vIsX lt_NotEnough) (gVar 0))))) (q2 := r__law_only_1) (s_expr (d_app rfl (d_var 2) (d_isX x_NotEnough (.own _) (pe_glob rfl m_NotEnough rfl) T.z_isinstance (d_var 0))))
      (ss_cons (q1 := (gIfS (tOr (tNot (tTru (gUn (vIsX lt_ValueError) (gVar 0)))) (tTru (gUn (vIsX lts_0) (gVar 0)))) (gRet (gC (.bl false))) gNext)) (q2 := (gRet (gAnd (gOp vEq (gVar 2) (gNew (gLc (wRange (gC (.int 7))) (gName 3) tYes (gOp vEq (gVar 3) (gVar 1)) [3]))) (gNot (gUn (vIsX lts_1) (gVar 0)))))) (s_if (t_w (t_or (t_not (t_tru (d_isX x_ValueError (.ty "ValueError") (pe_bltn (v := .ty "ValueError") rfl T.z_ValueError boot_ValueErr rfl) T.z_isinstance (d_var 0)))) (t_or1 (t_tru (d_isXT xs_0 (pcs_cons (pe_glob (v := .ref Ct0_UnlikeRules) rfl mt0_UnlikeRules rfl) (.own _) (pcs_cons (pe_glob (v := .ref Ct0_BadText) rfl mt0_BadText rfl) (.own _) (pcs_cons (pe_glob (v := .ref Ct0_BadCommand) rfl mt0_BadCommand rfl) (.own _) (pcs_cons (pe_glob (v := .ref Ct0_BadIndex) rfl mt0_BadIndex rfl) (.own _) (pcs_cons (pe_glob (v := .ref Ct0_BadLong) rfl mt0_BadLong rfl) (.own _) pcs_nil))))) (by simp) T.z_isinstance (d_var 0)))))) (ss_one (s_ret d_bl)) ss_nil)
      (ss_one (s_ret (d_and (d_cmp (op_eqD hr.units) s_eq (d_var 2) (d_new (dl_comp (own := [("k", 3)]) (di_range rfl T.z_range d_int) sc__law_only.nd (blkOk_by (N := N__law_only) (sc := defScope s__law_only) (by decide +kernel)) (fun _ _ _ _ _ => (dg_name 3 sc__law_only.nd)) (fun _ _ _ _ _ => ts_nil) (fun _ _ _ _ _ => (d_cmp (op_eqD hr.units) s_eq (d_var 3) (d_var 1))) (by decide)))) (d_one (d_not (d_isXT xs_1 (pcs_cons (pe_glob (v := .ref Ct1_NothingToUndo) rfl mt1_NothingToUndo rfl) (.own _) (pcs_cons (pe_glob (v := .ref Ct1_BadPlace) rfl mt1_BadPlace rfl) (.own _) pcs_nil)) (by simp) T.z_isinstance (d_var 0)))))))))))
theorem c__law_only (T : Top K Tb mg base) : Cal P w K Tb mg base 1 "_law_only" 2 g__law_only := by
  obtain ⟨f, fd, F, hm, hb⟩ := T.d__law_only
  exact cal_mk (f__law_only T F) hm F.kp hb
theorem f__law_refused (T : Top K Tb mg base) {f : Addr} {fd : FuncData} (F : Fun K "_law_refused" "_law_refused" s__law_refused f fd) : FnOk P w K mg base CX0 9 f fd p__law_refused (spD K Tb 3 g__law_refused) := by
  obtain ⟨D_GatherError, n_GatherError, y_GatherError⟩ := T.xm_GatherError
  refine fn_mk (b := b__law_refused) (N := N__law_refused) (ps := p__law_refused) F sc__law_refused fun cdv A outer s H E hr => ?_
  exact (ss_cons (q1 := (gAsg (gC .non) (gName 3))) (q2 := r__law_refused_1) (s_asg d_non (dg_name 3 sc__law_refused.nd))
      (ss_cons (q1 := (gTry lm_GatherError 4 (gDrop (gCall g_with_fences (xE (gCons (gVar 0) (gCons (gVar 1) (gCons (gVar 2) gNil)))))) (gAsg (gVar 4) (gName 3)))) (q2 := (gRet (gAnd (gOp vIsNot (gVar 3) (gC .non)) (gCall g__law_only (gCons (gVar 3) (gCons (gC (.int 4)) gNil)))))) (s_try (i := 4) y_GatherError ⟨rfl, by decide, .inl n_GatherError⟩ sc__law_refused.nd (fun W pn xe tk _ => (sx_one (sx_expr (dx_call (c_with_fences T) tk (hr.mono (by decide)) (ax_pure (da_cons (d_var 0) (da_cons (d_var 1) (da_cons (d_var 2) da_nil)))))))) (fun a pn => (ss_one (s_asg (d_var 4) (dg_name 3 sc__law_refused.nd)))))
      (ss_one (s_ret (d_and (d_cmp op_isNotA s_isNot (d_var 3) d_non) (d_one (d_call (c__law_only T) (hr.mono (by decide)) (da_cons (d_var 3) (da_cons d_int da_nil)))))))))
theorem c__law_refused (T : Top K Tb mg base) : Cal P w K Tb mg base 9 "_law_refused" 3 g__law_refused := by
  obtain ⟨f, fd, F, hm, hb⟩ := T.d__law_refused
  exact cal_mk (f__law_refused T F) hm F.kp hb
theorem f__law_plain (T : Top K Tb mg base) {f : Addr} {fd : FuncData} (F : Fun K "_law_plain" "_law_plain" s__law_plain f fd) : FnOk P w K mg base CX0 1 f fd p__law_plain (spD K Tb 1 g__law_plain) := by
  refine fn_mk (b := b__law_plain) (N := N__law_plain) (ps := p__law_plain) F sc__law_plain fun cdv A outer s H E hr => ?_
  exact (ss_cons (q1 := (gIfS (tOr (tNot (tTru (gUn (vIsi .tuple) (gVar 0)))) (tB (gOp vNe (gNew (gLc (wSeq (gVar 0)) (gName 1) (tNot (tTru (gUn (vIsi .tuple) (gVar 1)))) (gVar 1) [1])) (gNew (gLst gNil))))) (gRet (gC (.bl false))) gNext)) (q2 := (gRet (gOp vEq (gNew (gLc (wSeq (gVar 0)) (gName 1) (tOr (tNot (tTru (gUn (vIsi .tuple) (gOp vIx (gVar 1) (gC (.int 1)))))) (tNot (tTru (gUn (vIsi .tuple) (gOp vIx (gVar 1) (gC (.int 2))))))) (gVar 1) [1])) (gNew (gLst gNil))))) (s_if (t_w (t_or (t_not (t_tru (d_isi .tuple rfl T.z_isinstance T.z_tuple (d_var 0)))) (t_or1 (d_tcmp (op_neD hr.units) s_ne (d_new (dl_comp (own := [("row", 1)]) (di_seq (d_var 0)) sc__law_plain.nd (blkOk_by (N := N__law_plain) (sc := defScope s__law_plain) (by decide +kernel)) (fun _ _ _ _ _ => (dg_name 1 sc__law_plain.nd)) (fun _ _ _ _ _ => (ts_one (t_not (t_tru (d_isi .tuple rfl T.z_isinstance T.z_tuple (d_var 1)))))) (fun _ _ _ _ _ => (d_var 1)) (by decide))) (d_new (dl_lst da_nil)))))) (ss_one (s_ret d_bl)) ss_nil)
      (ss_one (s_ret (d_cmp (op_eqD hr.units) s_eq (d_new (dl_comp (own := [("row", 1)]) (di_seq (d_var 0)) sc__law_plain.nd (blkOk_by (N := N__law_plain) (sc := defScope s__law_plain) (by decide +kernel)) (fun _ _ _ _ _ => (dg_name 1 sc__law_plain.nd)) (fun _ _ _ _ _ => (ts_one (t_w (t_or (t_not (t_tru (d_isi .tuple rfl T.z_isinstance T.z_tuple (d_ix (d_var 1) d_int)))) (t_or1 (t_not (t_tru (d_isi .tuple rfl T.z_isinstance T.z_tuple (d_ix (d_var 1) d_int))))))))) (fun _ _ _ _ _ => (d_var 1)) (by decide))) (d_new (dl_lst da_nil))))))
theorem c__law_plain (T : Top K Tb mg base) : Cal P w K Tb mg base 1 "_law_plain" 1 g__law_plain := by
  obtain ⟨f, fd, F, hm, hb⟩ := T.d__law_plain
  exact cal_mk (f__law_plain T F) hm F.kp hb
theorem f__law_fenced (T : Top K Tb mg base) {f : Addr} {fd : FuncData} (F : Fun K "_law_fenced" "_law_fenced" s__law_fenced f fd) : FnOk P w K mg base CX0 1 f fd p__law_fenced (spD K Tb 2 g__law_fenced) := by
  refine fn_mk (b := b__law_fenced) (N := N__law_fenced) (ps := p__law_fenced) F sc__law_fenced fun cdv A outer s H E hr => ?_
  exact (ss_cons (q1 := (gAsg (gNew (gLst gNil)) (gName 2))) (q2 := r__law_fenced_2) (s_asg (d_new (dl_lst da_nil)) (dg_name 2 sc__law_fenced.nd))
      (ss_cons (q1 := (gFor (wRange (gUn vLen (gVar 0))) (gName 3) r__law_fenced_1)) (q2 := (gRet (gUn vTuple (gVar 2)))) (s_for (di_range rfl T.z_range (d_call1 call_len s_len T.z_len (d_var 0))) (dg_name 3 sc__law_fenced.nd) (ss_cons (q1 := (gAsg (gNew (gLc (wSeq (gVar 1)) (gUnpack 2 (ggCons (gName 5) (ggCons (gName 6) ggNil))) (tB (gOp vEq (gVar 5) (gVar 3))) (gVar 6) [5, 6])) (gName 4))) (q2 := (gDrop (gApp (gVar 2) (gTup (gCons (gOp vIx (gOp vIx (gVar 0) (gVar 3)) (gC (.int 0))) (gCons (gTupOf (gSortS (gSeen (gOp vAdd (gNew (gList (gOp vIx (gOp vIx (gVar 0) (gVar 3)) (gC (.int 1))))) (gVar 4))))) (gCons (gOp vIx (gOp vIx (gVar 0) (gVar 3)) (gC (.int 2))) gNil))))))) (s_setLc (i := 4) (own := [("row", 5), ("kind", 6)]) (di_seq (d_var 1)) sc__law_fenced.nd (blkOk_by (N := N__law_fenced) (sc := defScope s__law_fenced) (by decide +kernel)) (fun _ _ _ _ _ => (dg_tup (dgs_cons (dg_name 5 sc__law_fenced.nd) (dgs_cons (dg_name 6 sc__law_fenced.nd) dgs_nil)))) (fun _ _ _ _ _ => (ts_one (d_tcmp (op_eqD hr.units) s_eq (d_var 5) (d_var 3)))) (fun _ _ _ _ _ => (d_var 6)) (by decide) (sw_true rfl rfl rfl (by decide +kernel)))
      (ss_one (s_expr (d_app rfl (d_var 2) (d_tup (da_cons (d_ix (d_ix (d_var 0) (d_var 3)) d_int) (da_cons (d_tupOf rfl T.z_tuple (dl_sortS rfl rfl T.z_sorted T.z_set (dr_val (d_op op_addA s_add (d_new (dl_list rfl T.z_list (d_ix (d_ix (d_var 0) (d_var 3)) d_int))) (d_var 4))))) (da_cons (d_ix (d_ix (d_var 0) (d_var 3)) d_int) da_nil)))))))))
      (ss_one (s_ret (d_callT1 call_tuple_of s_tuple T.z_tuple (d_var 2))))))
theorem c__law_fenced (T : Top K Tb mg base) : Cal P w K Tb mg base 1 "_law_fenced" 2 g__law_fenced := by
  obtain ⟨f, fd, F, hm, hb⟩ := T.d__law_fenced
  exact cal_mk (f__law_fenced T F) hm F.kp hb
theorem f__law_no_lot (T : Top K Tb mg base) {f : Addr} {fd : FuncData} (F : Fun K "_law_no_lot" "_law_no_lot" s__law_no_lot f fd) : FnOk P w K mg base CX0 2 f fd p__law_no_lot (spD K Tb 4 g__law_no_lot) := by
  refine fn_mk (b := b__law_no_lot) (N := N__law_no_lot) (ps := p__law_no_lot) F sc__law_no_lot fun cdv A outer s H E hr => ?_
  exact (ss_cons (q1 := (gAsg (gCall g__law_draw (gCons (gVar 0) (gCons (gOp vAdd (gUn vLen (gVar 3)) (gC (.int 1))) gNil))) (gName 4))) (q2 := r__law_no_lot_6) (s_asg (d_call (c__law_draw T) (hr.mono (by decide)) (da_cons (d_var 0) (da_cons (d_op op_addA s_add (d_call1 call_len s_len T.z_len (d_var 3)) d_int) da_nil))) (dg_name 4 sc__law_no_lot.nd))
      (ss_cons (q1 := (gAsg (gCall g__law_draw (gCons (gVar 0) (gCons (gC (.int 10)) gNil))) (gName 5))) (q2 := r__law_no_lot_5) (s_asg (d_call (c__law_draw T) (hr.mono (by decide)) (da_cons (d_var 0) (da_cons d_int da_nil))) (dg_name 5 sc__law_no_lot.nd))
      (ss_cons (q1 := (gAsg (gOp vIx (gOp vAdd (gVar 3) (gTup (gCons (gTup (gCons (gC (.int 0)) (gCons (gC (.int 0)) gNil))) gNil))) (gVar 4)) (gUnpack 2 (ggCons (gName 6) (ggCons (gName 7) ggNil))))) (q2 := r__law_no_lot_4) (s_asg (d_ix (d_op op_addA s_add (d_var 3) (d_tup (da_cons (d_tup (da_cons d_int (da_cons d_int da_nil))) da_nil))) (d_var 4)) (dg_tup (dgs_cons (dg_name 6 sc__law_no_lot.nd) (dgs_cons (dg_name 7 sc__law_no_lot.nd) dgs_nil))))
      (ss_cons (q1 := (gIfS (tB (gOp vEq (gVar 5) (gC (.int 0)))) (gRet (gNew (gList (gVar 3)))) gNext)) (q2 := r__law_no_lot_3) (s_if (d_tcmp (op_eqD hr.units) s_eq (d_var 5) d_int) (ss_one (s_ret (d_new (dl_list rfl T.z_list (d_var 3))))) ss_nil)
      (ss_cons (q1 := (gIfS (tB (gOp vLt (gVar 5) (gC (.int 3)))) r__law_no_lot_1 gNext)) (q2 := r__law_no_lot_2) (s_if (d_tcmp op_lt s_lt (d_var 5) d_int) (ss_cons (q1 := (gAsg (gIxL (gLst (gCons (gTup (gCons (gVar 6) (gCons (gVar 7) gNil))) (gCons (gTup (gCons (gC (.int 0)) (gCons (gC (.int 0)) gNil))) gNil))) (gOp vSub (gVar 5) (gC (.int 1)))) (gName 8))) (q2 := (gRet (gOp vAdd (gOp vAdd (gSl (gVar 3) oNone (oSome (gVar 4))) (gTup (gCons (gTup (gCons (gVar 6) (gCons (gVar 7) gNil))) (gCons (gVar 8) gNil)))) (gSl (gVar 3) (oSome (gOp vAdd (gVar 4) (gC (.int 1)))) oNone)))) (s_asg (d_ixL (dl_lst (da_cons (d_tup (da_cons (d_var 6) (da_cons (d_var 7) da_nil))) (da_cons (d_tup (da_cons d_int (da_cons d_int da_nil))) da_nil))) (d_op op_sub s_sub (d_var 5) d_int)) (dg_name 8 sc__law_no_lot.nd))
      (ss_one (s_ret (d_op op_addA s_add (d_op op_addA s_add (d_sl (d_var 3) do_none (do_some (d_var 4))) (d_tup (da_cons (d_tup (da_cons (d_var 6) (da_cons (d_var 7) da_nil))) (da_cons (d_var 8) da_nil)))) (d_sl (d_var 3) (do_some (d_op op_addA s_add (d_var 4) d_int)) do_none))))) ss_nil)
      (ss_cons (q1 := (gAsg (gNew (gLst (gCons (gTup (gCons (gUn vLen (gVar 2)) (gCons (gVar 7) gNil))) (gCons (gTup (gCons (gVar 6) (gCons (gUn vLen (gOp vIx (gVar 1) (gC (.int 6)))) gNil))) (gCons (gTup (gCons (gUn vNeg (gC (.int 1))) (gCons (gVar 7) gNil))) (gCons (gTup (gCons (gVar 6) (gCons (gUn vNeg (gC (.int 1))) gNil))) (gCons (gNew (gLst (gCons (gVar 6) (gCons (gVar 7) gNil)))) (gCons (gTup (gCons (gVar 6) (gCons (gVar 7) (gCons (gC (.int 0)) gNil)))) (gCons (gTup (gCons (gC (.bl true)) (gCons (gUn vNeg (gC (.int 1))) gNil))) gNil))))))))) (gName 9))) (q2 := (gRet (gOp vAdd (gOp vAdd (gSl (gVar 3) oNone (oSome (gVar 4))) (gTup (gCons (gOp vIx (gVar 9) (gOp vSub (gVar 5) (gC (.int 3)))) gNil))) (gSl (gVar 3) (oSome (gOp vAdd (gVar 4) (gC (.int 1)))) oNone)))) (s_asg (d_new (dl_lst (da_cons (d_tup (da_cons (d_call1 call_len s_len T.z_len (d_var 2)) (da_cons (d_var 7) da_nil))) (da_cons (d_tup (da_cons (d_var 6) (da_cons (d_call1 call_len s_len T.z_len (d_ix (d_var 1) d_int)) da_nil))) (da_cons (d_tup (da_cons (d_un un_neg s_neg d_int) (da_cons (d_var 7) da_nil))) (da_cons (d_tup (da_cons (d_var 6) (da_cons (d_un un_neg s_neg d_int) da_nil))) (da_cons (d_new (dl_lst (da_cons (d_var 6) (da_cons (d_var 7) da_nil)))) (da_cons (d_tup (da_cons (d_var 6) (da_cons (d_var 7) (da_cons d_int da_nil)))) (da_cons (d_tup (da_cons d_bl (da_cons (d_un un_neg s_neg d_int) da_nil))) da_nil))))))))) (dg_name 9 sc__law_no_lot.nd))
      (ss_one (s_ret (d_op op_addA s_add (d_op op_addA s_add (d_sl (d_var 3) do_none (do_some (d_var 4))) (d_tup (da_cons (d_ix (d_var 9) (d_op op_sub s_sub (d_var 5) d_int)) da_nil))) (d_sl (d_var 3) (do_some (d_op op_addA s_add (d_var 4) d_int)) do_none))))))))))
theorem c__law_no_lot (T : Top K Tb mg base) : Cal P w K Tb mg base 2 "_law_no_lot" 4 g__law_no_lot := by
  obtain ⟨f, fd, F, hm, hb⟩ := T.d__law_no_lot
  exact cal_mk (f__law_no_lot T F) hm F.kp hb
theorem f__law_spots (T : Top K Tb mg base) {f : Addr} {fd : FuncData} (F : Fun K "_law_spots" "_law_spots" s__law_spots f fd) : FnOk P w K mg base CX0 1 f fd p__law_spots (spD K Tb 2 g__law_spots) := by
  refine fn_mk (b := b__law_spots) (N := N__law_spots) (ps := p__law_spots) F sc__law_spots fun cdv A outer s H E hr => ?_
  exact (ss_cons (q1 := (gAsg (gNew (gLst gNil)) (gName 2))) (q2 := r__law_spots_1) (s_asg (d_new (dl_lst da_nil)) (dg_name 2 sc__law_spots.nd))
      (ss_cons (q1 := (gFor (wRange (gUn vLen (gVar 1))) (gName 3) (gDrop (gExt (gVar 2) (gLc (wRange (gUn vLen (gOp vIx (gVar 0) (gC (.int 6))))) (gName 4) tYes (gTup (gCons (gVar 3) (gCons (gVar 4) gNil))) [4]))))) (q2 := (gRet (gVar 2))) (s_for (di_range rfl T.z_range (d_call1 call_len s_len T.z_len (d_var 1))) (dg_name 3 sc__law_spots.nd) (ss_one (s_expr (d_ext rfl (d_var 2) (dl_comp (own := [("kind", 4)]) (di_range rfl T.z_range (d_call1 call_len s_len T.z_len (d_ix (d_var 0) d_int))) sc__law_spots.nd (blkOk_by (N := N__law_spots) (sc := defScope s__law_spots) (by decide +kernel)) (fun _ _ _ _ _ => (dg_name 4 sc__law_spots.nd)) (fun _ _ _ _ _ => ts_nil) (fun _ _ _ _ _ => (d_tup (da_cons (d_var 3) (da_cons (d_var 4) da_nil)))) (by decide))))))
      (ss_one (s_ret (d_var 2)))))
theorem c__law_spots (T : Top K Tb mg base) : Cal P w K Tb mg base 1 "_law_spots" 2 g__law_spots := by
  obtain ⟨f, fd, F, hm, hb⟩ := T.d__law_spots
  exact cal_mk (f__law_spots T F) hm F.kp hb
theorem f_law (T : Top K Tb mg base) {f : Addr} {fd : FuncData} (F : Fun K "law" "law" s_law f fd) : FnOk P w K mg base CX0 10 f fd p_law (spD K Tb 1 g_law) := by
  refine fn_mk (b := b_law) (N := N_law) (ps := p_law) F sc_law fun cdv A outer s H E hr => ?_
  exact (ss_cons (q1 := (gFor (wRange (gOp vMax (gC (.int 1)) (gOp vMin (gC (.int 4)) (gUn vLenC (gVar 0))))) (gName 1) r_law_10)) (q2 := (gRet (gC (.bl true)))) (s_for (di_range rfl T.z_range (d_call2 (call_max2 rfl) s_max T.z_max d_int (d_call2 (call_min2 rfl) s_min T.z_min d_int (d_call1 call_len s_lenC T.z_len (d_var 0))))) (dg_name 1 sc_law.nd) (ss_cons (q1 := (gAsg (gCall g__law_pool (gCons (gVar 0) (gCons (gVar 1) gNil))) (gName 2))) (q2 := r_law_9) (s_asg (d_call (c__law_pool T) (hr.mono (by decide)) (da_cons (d_var 0) (da_cons (d_var 1) da_nil))) (dg_name 2 sc_law.nd))
      (ss_cons (q1 := (gAsg (gOp vEq (gCall g__law_draw (gCons (gVar 2) (gCons (gC (.int 4)) gNil))) (gC (.int 0))) (gName 3))) (q2 := r_law_8) (s_asg (d_cmp (op_eqD hr.units) s_eq (d_call (c__law_draw T) (hr.mono (by decide)) (da_cons (d_var 2) (da_cons d_int da_nil))) d_int) (dg_name 3 sc_law.nd))
      (ss_cons (q1 := (gAsg (gCall g__law_rule (gCons (gVar 2) (gCons (gC (.int 3)) gNil))) (gName 4))) (q2 := r_law_7) (s_asg (d_call (c__law_rule T) (hr.mono (by decide)) (da_cons (d_var 2) (da_cons d_int da_nil))) (dg_name 4 sc_law.nd))
      (ss_cons (q1 := (gIfS (tNot (tTru (gVar 3))) (gAsg (gOp vAdd (gOp vAdd (gSl (gVar 4) oNone (oSome (gC (.int 6)))) (gTup (gCons (gOp vAdd (gSl (gOp vIx (gVar 4) (gC (.int 6))) oNone (oSome (gC (.int 2)))) (gTup (gCons (gUn vTupRg (gOp vIx (gVar 4) (gC (.int 1)))) gNil))) gNil))) (gSl (gVar 4) (oSome (gC (.int 7))) oNone)) (gName 4)) gNext)) (q2 := r_law_6) (s_if (t_not (t_tru (d_var 3))) (ss_one (s_asg (d_op op_addA s_add (d_op op_addA s_add (d_sl (d_var 4) do_none (do_some d_int)) (d_tup (da_cons (d_op op_addA s_add (d_sl (d_ix (d_var 4) d_int) do_none (do_some d_int)) (d_tup (da_cons (d_tupRg rfl rfl T.z_tuple T.z_range (d_ix (d_var 4) d_int)) da_nil))) da_nil))) (d_sl (d_var 4) (do_some d_int) do_none)) (dg_name 4 sc_law.nd))) ss_nil)
      (ss_cons (q1 := (gAsg (gCall g__law_program (gCons (gVar 2) (gCons (gVar 4) (gCons (gC (.int 8)) gNil)))) (gName 5))) (q2 := r_law_5) (s_asg (d_call (c__law_program T) (hr.mono (by decide)) (da_cons (d_var 2) (da_cons (d_var 4) (da_cons d_int da_nil)))) (dg_name 5 sc_law.nd))
      (ss_cons (q1 := (gAsg (gTupOf (gLc (wSeq (gCall g__law_spots (gCons (gVar 4) (gCons (gVar 5) gNil)))) (gName 8) (tB (gOp vEq (gCall g__law_draw (gCons (gVar 2) (gCons (gC (.int 3)) gNil))) (gC (.int 1)))) (gVar 8) [8])) (gName 6))) (q2 := r_law_4) (s_asg (d_tupOf rfl T.z_tuple (dl_comp (own := [("spot", 8)]) (di_seq (d_call (c__law_spots T) (hr.mono (by decide)) (da_cons (d_var 4) (da_cons (d_var 5) da_nil)))) sc_law.nd (blkOk_by (N := N_law) (sc := defScope s_law) (by decide +kernel)) (fun _ _ _ _ _ => (dg_name 8 sc_law.nd)) (fun _ _ _ _ _ => (ts_one (d_tcmp (op_eqD hr.units) s_eq (d_call (c__law_draw T) (hr.mono (by decide)) (da_cons (d_var 2) (da_cons d_int da_nil))) d_int))) (fun _ _ _ _ _ => (d_var 8)) (by decide))) (dg_name 6 sc_law.nd))
      (ss_cons (q1 := (gAsg (gCall g_with_fences (gCons (gVar 4) (gCons (gVar 5) (gCons (gVar 6) gNil)))) (gName 7))) (q2 := r_law_3) (s_asg (d_callN (c_with_fences T) (hr.mono (by decide)) (da_cons (d_var 4) (da_cons (d_var 5) (da_cons (d_var 6) da_nil)))) (dg_name 7 sc_law.nd))
      (ss_cons (q1 := (gIfS (tOr (tNot (tTru (gCall g__law_plain (gCons (gVar 7) gNil)))) (tB (gOp vNe (gVar 7) (gCall g__law_fenced (gCons (gVar 5) (gCons (gVar 6) gNil)))))) (gRet (gC (.bl false))) gNext)) (q2 := r_law_2) (s_if (t_w (t_or (t_not (t_tru (d_call (c__law_plain T) (hr.mono (by decide)) (da_cons (d_var 7) da_nil)))) (t_or1 (d_tcmp (op_neD hr.units) s_ne (d_var 7) (d_call (c__law_fenced T) (hr.mono (by decide)) (da_cons (d_var 5) (da_cons (d_var 6) da_nil))))))) (ss_one (s_ret d_bl)) ss_nil)
      (ss_cons (q1 := (gIfS (tOr (tB (gOp vNe (gCall g_with_fences (gCons (gVar 4) (gCons (gVar 7) (gCons (gVar 6) gNil)))) (gVar 7))) (tB (gOp vNe (gCall g_with_fences (gCons (gVar 4) (gCons (gVar 5) (gCons (gTup gNil) gNil)))) (gVar 5)))) (gRet (gC (.bl false))) gNext)) (q2 := r_law_1) (s_if (t_w (t_or (d_tcmp (op_neD hr.units) s_ne (d_callN (c_with_fences T) (hr.mono (by decide)) (da_cons (d_var 4) (da_cons (d_var 7) (da_cons (d_var 6) da_nil)))) (d_var 7)) (t_or1 (d_tcmp (op_neD hr.units) s_ne (d_callN (c_with_fences T) (hr.mono (by decide)) (da_cons (d_var 4) (da_cons (d_var 5) (da_cons (d_tup da_nil) da_nil)))) (d_var 5))))) (ss_one (s_ret d_bl)) ss_nil)
      (ss_cons (q1 := (gIfS (tNot (tTru (gCall g__law_refused (gCons (gVar 4) (gCons (gVar 5) (gCons (gCall g__law_no_lot (gCons (gVar 2) (gCons (gVar 4) (gCons (gVar 5) (gCons (gVar 6) gNil))))) gNil)))))) (gRet (gC (.bl false))) gNext)) (q2 := (gIfS (tNot (tTru (gCall g__law_refused (gCons (gVar 4) (gCons (gVar 5) (gCons (gIxL (gLst (gCons (gC .non) (gCons (gC (.bl true)) (gCons (gC (.str (Str.ofString ""))) (gCons (gTup (gCons (gC .non) gNil)) (gCons (gTup (gCons (gTup (gCons (gC (.int 0)) gNil)) gNil)) (gCons (gTup (gCons (gTup (gCons (gC (.int 0)) (gCons (gC (.bl false)) gNil))) gNil)) gNil))))))) (gCall g__law_draw (gCons (gVar 2) (gCons (gC (.int 6)) gNil)))) gNil)))))) (gRet (gC (.bl false))) gNext)) (s_if (t_not (t_tru (d_call (c__law_refused T) (hr.mono (by decide)) (da_cons (d_var 4) (da_cons (d_var 5) (da_cons (d_call (c__law_no_lot T) (hr.mono (by decide)) (da_cons (d_var 2) (da_cons (d_var 4) (da_cons (d_var 5) (da_cons (d_var 6) da_nil))))) da_nil)))))) (ss_one (s_ret d_bl)) ss_nil)
      (ss_one (s_if (t_not (t_tru (d_call (c__law_refused T) (hr.mono (by decide)) (da_cons (d_var 4) (da_cons (d_var 5) (da_cons (d_ixL (dl_lst (da_cons d_non (da_cons d_bl (da_cons d_str (da_cons (d_tup (da_cons d_non da_nil)) (da_cons (d_tup (da_cons (d_tup (da_cons d_int da_nil)) da_nil)) (da_cons (d_tup (da_cons (d_tup (da_cons d_int (da_cons d_bl da_nil))) da_nil)) da_nil))))))) (d_call (c__law_draw T) (hr.mono (by decide)) (da_cons (d_var 2) (da_cons d_int da_nil)))) da_nil)))))) (ss_one (s_ret d_bl)) ss_nil)))))))))))))
      (ss_one (s_ret d_bl)))
theorem c_law (T : Top K Tb mg base) : Cal P w K Tb mg base 10 "law" 1 g_law := by
  obtain ⟨f, fd, F, hm, hb⟩ := T.d_law
  exact cal_mk (f_law T F) hm F.kp hb
end
end DL
namespace DL
open PySem L2
theorem all_mk {P : Program} {w : World} {K : PySem.W.Frag} {h : Heap} {mg : Str → Option Value} {fa : Addr} (X : K.In h) (G : h.Ns mainGlobals mg) (hfa : mg "law" = some (.ref fa))
    {f0 f1 f2 f3 f4 f5 f6 f7 f8 f9 f10 f11 f12 f13 f14 f15 f16 f17 f18 f19 f20 f21 f22 f23 f24 f25 f26 f27 f28 f29 f30 : Addr} {od0 an0 od1 an1 od2 an2 od3 an3 od4 an4 od5 an5 od6 an6 od7 an7 od8 an8 od9 an9 od10 an10 od11 an11 od12 an12 od13 an13 od14 an14 od15 an15 od16 an16 od17 an17 od18 an18 od19 an19 od20 an20 od21 an21 od22 an22 od23 an23 od24 an24 od25 an25 od26 an26 od27 an27 od28 an28 od29 an29 od30 an30 : Option Addr} {sl0 sl1 sl2 sl3 sl4 sl5 sl6 sl7 sl8 sl9 sl10 sl11 sl12 sl13 sl14 sl15 sl16 sl17 sl18 sl19 sl20 sl21 sl22 sl23 sl24 sl25 sl26 sl27 sl28 sl29 sl30 : Array (Option Value)} {oc0 kV0 dc0 pm0 cd0 ct0 oc1 kV1 dc1 pm1 cd1 ct1 oc2 kV2 dc2 pm2 cd2 ct2 oc3 kV3 dc3 pm3 cd3 ct3 oc4 kV4 dc4 pm4 cd4 ct4 oc5 kV5 dc5 pm5 cd5 ct5 oc6 kV6 dc6 pm6 cd6 ct6 oc7 kV7 dc7 pm7 cd7 ct7 oc8 kV8 dc8 pm8 cd8 ct8 oc9 kV9 dc9 pm9 cd9 ct9 oc10 kV10 dc10 pm10 cd10 ct10 oc11 kV11 dc11 pm11 cd11 ct11 oc12 kV12 dc12 pm12 cd12 ct12 oc13 kV13 dc13 pm13 cd13 ct13 oc14 kV14 dc14 pm14 cd14 ct14 oc15 kV15 dc15 pm15 cd15 ct15 oc16 kV16 dc16 pm16 cd16 ct16 oc17 kV17 dc17 pm17 cd17 ct17 oc18 kV18 dc18 pm18 cd18 ct18 oc19 kV19 dc19 pm19 cd19 ct19 oc20 kV20 dc20 pm20 cd20 ct20 oc21 kV21 dc21 pm21 cd21 ct21 oc22 kV22 dc22 pm22 cd22 ct22 oc23 kV23 dc23 pm23 cd23 ct23 oc24 kV24 dc24 pm24 cd24 ct24 oc25 kV25 dc25 pm25 cd25 ct25 oc26 kV26 dc26 pm26 cd26 ct26 oc27 kV27 dc27 pm27 cd27 ct27 oc28 kV28 dc28 pm28 cd28 ct28 oc29 kV29 dc29 pm29 cd29 ct29 oc30 kV30 dc30 pm30 cd30 ct30 : Value}
    {t_ACTING t_EAGER t_KINDS t_LINES t_LOOK t_MOST_ROWS t_ROOM t_SENDS t_WIDTH : Tok}
    {a_LOOK_WORDS : Addr} {n_LOOK_WORDS : Nat} {sl_LOOK_WORDS : Array (Option Value)} {u_LOOK_WORDS_0 u_LOOK_WORDS_1 u_LOOK_WORDS_2 : Tok}
    {a_PLACE_WORDS : Addr} {n_PLACE_WORDS : Nat} {sl_PLACE_WORDS : Array (Option Value)} {u_PLACE_WORDS_0 u_PLACE_WORDS_1 u_PLACE_WORDS_2 : Tok}
    {a_SENDS_WORDS : Addr} {n_SENDS_WORDS : Nat} {sl_SENDS_WORDS : Array (Option Value)} {u_SENDS_WORDS_0 u_SENDS_WORDS_1 u_SENDS_WORDS_2 : Tok}
    (a0 : PySem.W.nsIn K mainGlobals "_law_pool" = some (some (.ref f0))) (l0 : K.lookup f0 = some ⟨oc0, od0, .func (PySem.W.fnOf "_law_pool" "_law_pool" (defArgs s__law_pool) (defBody s__law_pool) (defScope s__law_pool) .none kV0 dc0 pm0 an0 cd0 ct0), sl0⟩) (c0 : PySem.W.codeIn K cd0 "_law_pool" = true) (k0 : PySem.W.keepIn K (.ref f0) = true)
    (a1 : PySem.W.nsIn K mainGlobals "_law_draw" = some (some (.ref f1))) (l1 : K.lookup f1 = some ⟨oc1, od1, .func (PySem.W.fnOf "_law_draw" "_law_draw" (defArgs s__law_draw) (defBody s__law_draw) (defScope s__law_draw) .none kV1 dc1 pm1 an1 cd1 ct1), sl1⟩) (c1 : PySem.W.codeIn K cd1 "_law_draw" = true) (k1 : PySem.W.keepIn K (.ref f1) = true)
    (a2 : PySem.W.nsIn K mainGlobals "_law_part" = some (some (.ref f2))) (l2 : K.lookup f2 = some ⟨oc2, od2, .func (PySem.W.fnOf "_law_part" "_law_part" (defArgs s__law_part) (defBody s__law_part) (defScope s__law_part) .none kV2 dc2 pm2 an2 cd2 ct2), sl2⟩) (c2 : PySem.W.codeIn K cd2 "_law_part" = true) (k2 : PySem.W.keepIn K (.ref f2) = true)
    (a3 : PySem.W.nsIn K mainGlobals "_law_rule" = some (some (.ref f3))) (l3 : K.lookup f3 = some ⟨oc3, od3, .func (PySem.W.fnOf "_law_rule" "_law_rule" (defArgs s__law_rule) (defBody s__law_rule) (defScope s__law_rule) .none kV3 dc3 pm3 an3 cd3 ct3), sl3⟩) (c3 : PySem.W.codeIn K cd3 "_law_rule" = true) (k3 : PySem.W.keepIn K (.ref f3) = true)
    (a4 : PySem.W.nsIn K mainGlobals "_law_row" = some (some (.ref f4))) (l4 : K.lookup f4 = some ⟨oc4, od4, .func (PySem.W.fnOf "_law_row" "_law_row" (defArgs s__law_row) (defBody s__law_row) (defScope s__law_row) .none kV4 dc4 pm4 an4 cd4 ct4), sl4⟩) (c4 : PySem.W.codeIn K cd4 "_law_row" = true) (k4 : PySem.W.keepIn K (.ref f4) = true)
    (a5 : PySem.W.nsIn K mainGlobals "_law_program" = some (some (.ref f5))) (l5 : K.lookup f5 = some ⟨oc5, od5, .func (PySem.W.fnOf "_law_program" "_law_program" (defArgs s__law_program) (defBody s__law_program) (defScope s__law_program) .none kV5 dc5 pm5 an5 cd5 ct5), sl5⟩) (c5 : PySem.W.codeIn K cd5 "_law_program" = true) (k5 : PySem.W.keepIn K (.ref f5) = true)
    (a6 : PySem.W.nsIn K mainGlobals "is_tuple_of" = some (some (.ref f6))) (l6 : K.lookup f6 = some ⟨oc6, od6, .func (PySem.W.fnOf "is_tuple_of" "is_tuple_of" (defArgs s_is_tuple_of) (defBody s_is_tuple_of) (defScope s_is_tuple_of) .none kV6 dc6 pm6 an6 cd6 ct6), sl6⟩) (c6 : PySem.W.codeIn K cd6 "is_tuple_of" = true) (k6 : PySem.W.keepIn K (.ref f6) = true)
    (a7 : PySem.W.nsIn K mainGlobals "is_integer" = some (some (.ref f7))) (l7 : K.lookup f7 = some ⟨oc7, od7, .func (PySem.W.fnOf "is_integer" "is_integer" (defArgs s_is_integer) (defBody s_is_integer) (defScope s_is_integer) .none kV7 dc7 pm7 an7 cd7 ct7), sl7⟩) (c7 : PySem.W.codeIn K cd7 "is_integer" = true) (k7 : PySem.W.keepIn K (.ref f7) = true)
    (a8 : PySem.W.nsIn K mainGlobals "is_integer_within" = some (some (.ref f8))) (l8 : K.lookup f8 = some ⟨oc8, od8, .func (PySem.W.fnOf "is_integer_within" "is_integer_within" (defArgs s_is_integer_within) (defBody s_is_integer_within) (defScope s_is_integer_within) .none kV8 dc8 pm8 an8 cd8 ct8), sl8⟩) (c8 : PySem.W.codeIn K cd8 "is_integer_within" = true) (k8 : PySem.W.keepIn K (.ref f8) = true)
    (a9 : PySem.W.nsIn K mainGlobals "are_numbers_below" = some (some (.ref f9))) (l9 : K.lookup f9 = some ⟨oc9, od9, .func (PySem.W.fnOf "are_numbers_below" "are_numbers_below" (defArgs s_are_numbers_below) (defBody s_are_numbers_below) (defScope s_are_numbers_below) .none kV9 dc9 pm9 an9 cd9 ct9), sl9⟩) (c9 : PySem.W.codeIn K cd9 "are_numbers_below" = true) (k9 : PySem.W.keepIn K (.ref f9) = true)
    (a10 : PySem.W.nsIn K mainGlobals "is_word_of" = some (some (.ref f10))) (l10 : K.lookup f10 = some ⟨oc10, od10, .func (PySem.W.fnOf "is_word_of" "is_word_of" (defArgs s_is_word_of) (defBody s_is_word_of) (defScope s_is_word_of) .none kV10 dc10 pm10 an10 cd10 ct10), sl10⟩) (c10 : PySem.W.codeIn K cd10 "is_word_of" = true) (k10 : PySem.W.keepIn K (.ref f10) = true)
    (a11 : PySem.W.nsIn K mainGlobals "is_kind" = some (some (.ref f11))) (l11 : K.lookup f11 = some ⟨oc11, od11, .func (PySem.W.fnOf "is_kind" "is_kind" (defArgs s_is_kind) (defBody s_is_kind) (defScope s_is_kind) .none kV11 dc11 pm11 an11 cd11 ct11), sl11⟩) (c11 : PySem.W.codeIn K cd11 "is_kind" = true) (k11 : PySem.W.keepIn K (.ref f11) = true)
    (a12 : PySem.W.nsIn K mainGlobals "places_of" = some (some (.ref f12))) (l12 : K.lookup f12 = some ⟨oc12, od12, .func (PySem.W.fnOf "places_of" "places_of" (defArgs s_places_of) (defBody s_places_of) (defScope s_places_of) .none kV12 dc12 pm12 an12 cd12 ct12), sl12⟩) (c12 : PySem.W.codeIn K cd12 "places_of" = true) (k12 : PySem.W.keepIn K (.ref f12) = true)
    (a13 : PySem.W.nsIn K mainGlobals "is_rule" = some (some (.ref f13))) (l13 : K.lookup f13 = some ⟨oc13, od13, .func (PySem.W.fnOf "is_rule" "is_rule" (defArgs s_is_rule) (defBody s_is_rule) (defScope s_is_rule) .none kV13 dc13 pm13 an13 cd13 ct13), sl13⟩) (c13 : PySem.W.codeIn K cd13 "is_rule" = true) (k13 : PySem.W.keepIn K (.ref f13) = true)
    (a14 : PySem.W.nsIn K mainGlobals "check_rule" = some (some (.ref f14))) (l14 : K.lookup f14 = some ⟨oc14, od14, .func (PySem.W.fnOf "check_rule" "check_rule" (defArgs s_check_rule) (defBody s_check_rule) (defScope s_check_rule) .none kV14 dc14 pm14 an14 cd14 ct14), sl14⟩) (c14 : PySem.W.codeIn K cd14 "check_rule" = true) (k14 : PySem.W.keepIn K (.ref f14) = true)
    (a15 : PySem.W.nsIn K mainGlobals "is_operation" = some (some (.ref f15))) (l15 : K.lookup f15 = some ⟨oc15, od15, .func (PySem.W.fnOf "is_operation" "is_operation" (defArgs s_is_operation) (defBody s_is_operation) (defScope s_is_operation) .none kV15 dc15 pm15 an15 cd15 ct15), sl15⟩) (c15 : PySem.W.codeIn K cd15 "is_operation" = true) (k15 : PySem.W.keepIn K (.ref f15) = true)
    (a16 : PySem.W.nsIn K mainGlobals "is_fenced_operation" = some (some (.ref f16))) (l16 : K.lookup f16 = some ⟨oc16, od16, .func (PySem.W.fnOf "is_fenced_operation" "is_fenced_operation" (defArgs s_is_fenced_operation) (defBody s_is_fenced_operation) (defScope s_is_fenced_operation) .none kV16 dc16 pm16 an16 cd16 ct16), sl16⟩) (c16 : PySem.W.codeIn K cd16 "is_fenced_operation" = true) (k16 : PySem.W.keepIn K (.ref f16) = true)
    (a17 : PySem.W.nsIn K mainGlobals "is_row" = some (some (.ref f17))) (l17 : K.lookup f17 = some ⟨oc17, od17, .func (PySem.W.fnOf "is_row" "is_row" (defArgs s_is_row) (defBody s_is_row) (defScope s_is_row) .none kV17 dc17 pm17 an17 cd17 ct17), sl17⟩) (c17 : PySem.W.codeIn K cd17 "is_row" = true) (k17 : PySem.W.keepIn K (.ref f17) = true)
    (a18 : PySem.W.nsIn K mainGlobals "has_rows" = some (some (.ref f18))) (l18 : K.lookup f18 = some ⟨oc18, od18, .func (PySem.W.fnOf "has_rows" "has_rows" (defArgs s_has_rows) (defBody s_has_rows) (defScope s_has_rows) .none kV18 dc18 pm18 an18 cd18 ct18), sl18⟩) (c18 : PySem.W.codeIn K cd18 "has_rows" = true) (k18 : PySem.W.keepIn K (.ref f18) = true)
    (a19 : PySem.W.nsIn K mainGlobals "check_program" = some (some (.ref f19))) (l19 : K.lookup f19 = some ⟨oc19, od19, .func (PySem.W.fnOf "check_program" "check_program" (defArgs s_check_program) (defBody s_check_program) (defScope s_check_program) .none kV19 dc19 pm19 an19 cd19 ct19), sl19⟩) (c19 : PySem.W.codeIn K cd19 "check_program" = true) (k19 : PySem.W.keepIn K (.ref f19) = true)
    (a20 : PySem.W.nsIn K mainGlobals "is_spot" = some (some (.ref f20))) (l20 : K.lookup f20 = some ⟨oc20, od20, .func (PySem.W.fnOf "is_spot" "is_spot" (defArgs s_is_spot) (defBody s_is_spot) (defScope s_is_spot) .none kV20 dc20 pm20 an20 cd20 ct20), sl20⟩) (c20 : PySem.W.codeIn K cd20 "is_spot" = true) (k20 : PySem.W.keepIn K (.ref f20) = true)
    (a21 : PySem.W.nsIn K mainGlobals "check_lot" = some (some (.ref f21))) (l21 : K.lookup f21 = some ⟨oc21, od21, .func (PySem.W.fnOf "check_lot" "check_lot" (defArgs s_check_lot) (defBody s_check_lot) (defScope s_check_lot) .none kV21 dc21 pm21 an21 cd21 ct21), sl21⟩) (c21 : PySem.W.codeIn K cd21 "check_lot" = true) (k21 : PySem.W.keepIn K (.ref f21) = true)
    (a22 : PySem.W.nsIn K mainGlobals "program_with" = some (some (.ref f22))) (l22 : K.lookup f22 = some ⟨oc22, od22, .func (PySem.W.fnOf "program_with" "program_with" (defArgs s_program_with) (defBody s_program_with) (defScope s_program_with) .none kV22 dc22 pm22 an22 cd22 ct22), sl22⟩) (c22 : PySem.W.codeIn K cd22 "program_with" = true) (k22 : PySem.W.keepIn K (.ref f22) = true)
    (a23 : PySem.W.nsIn K mainGlobals "with_fences" = some (some (.ref f23))) (l23 : K.lookup f23 = some ⟨oc23, od23, .func (PySem.W.fnOf "with_fences" "with_fences" (defArgs s_with_fences) (defBody s_with_fences) (defScope s_with_fences) .none kV23 dc23 pm23 an23 cd23 ct23), sl23⟩) (c23 : PySem.W.codeIn K cd23 "with_fences" = true) (k23 : PySem.W.keepIn K (.ref f23) = true)
    (a24 : PySem.W.nsIn K mainGlobals "_law_only" = some (some (.ref f24))) (l24 : K.lookup f24 = some ⟨oc24, od24, .func (PySem.W.fnOf "_law_only" "_law_only" (defArgs s__law_only) (defBody s__law_only) (defScope s__law_only) .none kV24 dc24 pm24 an24 cd24 ct24), sl24⟩) (c24 : PySem.W.codeIn K cd24 "_law_only" = true) (k24 : PySem.W.keepIn K (.ref f24) = true)
    (a25 : PySem.W.nsIn K mainGlobals "_law_refused" = some (some (.ref f25))) (l25 : K.lookup f25 = some ⟨oc25, od25, .func (PySem.W.fnOf "_law_refused" "_law_refused" (defArgs s__law_refused) (defBody s__law_refused) (defScope s__law_refused) .none kV25 dc25 pm25 an25 cd25 ct25), sl25⟩) (c25 : PySem.W.codeIn K cd25 "_law_refused" = true) (k25 : PySem.W.keepIn K (.ref f25) = true)
    (a26 : PySem.W.nsIn K mainGlobals "_law_plain" = some (some (.ref f26))) (l26 : K.lookup f26 = some ⟨oc26, od26, .func (PySem.W.fnOf "_law_plain" "_law_plain" (defArgs s__law_plain) (defBody s__law_plain) (defScope s__law_plain) .none kV26 dc26 pm26 an26 cd26 ct26), sl26⟩) (c26 : PySem.W.codeIn K cd26 "_law_plain" = true) (k26 : PySem.W.keepIn K (.ref f26) = true)
    (a27 : PySem.W.nsIn K mainGlobals "_law_fenced" = some (some (.ref f27))) (l27 : K.lookup f27 = some ⟨oc27, od27, .func (PySem.W.fnOf "_law_fenced" "_law_fenced" (defArgs s__law_fenced) (defBody s__law_fenced) (defScope s__law_fenced) .none kV27 dc27 pm27 an27 cd27 ct27), sl27⟩) (c27 : PySem.W.codeIn K cd27 "_law_fenced" = true) (k27 : PySem.W.keepIn K (.ref f27) = true)
    (a28 : PySem.W.nsIn K mainGlobals "_law_no_lot" = some (some (.ref f28))) (l28 : K.lookup f28 = some ⟨oc28, od28, .func (PySem.W.fnOf "_law_no_lot" "_law_no_lot" (defArgs s__law_no_lot) (defBody s__law_no_lot) (defScope s__law_no_lot) .none kV28 dc28 pm28 an28 cd28 ct28), sl28⟩) (c28 : PySem.W.codeIn K cd28 "_law_no_lot" = true) (k28 : PySem.W.keepIn K (.ref f28) = true)
    (a29 : PySem.W.nsIn K mainGlobals "_law_spots" = some (some (.ref f29))) (l29 : K.lookup f29 = some ⟨oc29, od29, .func (PySem.W.fnOf "_law_spots" "_law_spots" (defArgs s__law_spots) (defBody s__law_spots) (defScope s__law_spots) .none kV29 dc29 pm29 an29 cd29 ct29), sl29⟩) (c29 : PySem.W.codeIn K cd29 "_law_spots" = true) (k29 : PySem.W.keepIn K (.ref f29) = true)
    (a30 : PySem.W.nsIn K mainGlobals "law" = some (some (.ref f30))) (l30 : K.lookup f30 = some ⟨oc30, od30, .func (PySem.W.fnOf "law" "law" (defArgs s_law) (defBody s_law) (defScope s_law) .none kV30 dc30 pm30 an30 cd30 ct30), sl30⟩) (c30 : PySem.W.codeIn K cd30 "law" = true) (k30 : PySem.W.keepIn K (.ref f30) = true)
    (z_all : PySem.W.nsIn K mainGlobals "all" = some none)
    (z_bool : PySem.W.nsIn K mainGlobals "bool" = some none)
    (z_enumerate : PySem.W.nsIn K mainGlobals "enumerate" = some none)
    (z_int : PySem.W.nsIn K mainGlobals "int" = some none)
    (z_isinstance : PySem.W.nsIn K mainGlobals "isinstance" = some none)
    (z_len : PySem.W.nsIn K mainGlobals "len" = some none)
    (z_list : PySem.W.nsIn K mainGlobals "list" = some none)
    (z_max : PySem.W.nsIn K mainGlobals "max" = some none)
    (z_min : PySem.W.nsIn K mainGlobals "min" = some none)
    (z_range : PySem.W.nsIn K mainGlobals "range" = some none)
    (z_set : PySem.W.nsIn K mainGlobals "set" = some none)
    (z_sorted : PySem.W.nsIn K mainGlobals "sorted" = some none)
    (z_str : PySem.W.nsIn K mainGlobals "str" = some none)
    (z_tuple : PySem.W.nsIn K mainGlobals "tuple" = some none)
    (g_ACTING : PySem.W.nsIn K mainGlobals "ACTING" = some (some (.int 7 t_ACTING)))
    (g_EAGER : PySem.W.nsIn K mainGlobals "EAGER" = some (some (.int 4 t_EAGER)))
    (g_KINDS : PySem.W.nsIn K mainGlobals "KINDS" = some (some (.int 6 t_KINDS)))
    (g_LINES : PySem.W.nsIn K mainGlobals "LINES" = some (some (.int 1 t_LINES)))
    (g_LOOK : PySem.W.nsIn K mainGlobals "LOOK" = some (some (.int 5 t_LOOK)))
    (g_MOST_ROWS : PySem.W.nsIn K mainGlobals "MOST_ROWS" = some (some (.int 8 t_MOST_ROWS)))
    (g_ROOM : PySem.W.nsIn K mainGlobals "ROOM" = some (some (.int 2 t_ROOM)))
    (g_SENDS : PySem.W.nsIn K mainGlobals "SENDS" = some (some (.int 3 t_SENDS)))
    (g_WIDTH : PySem.W.nsIn K mainGlobals "WIDTH" = some (some (.int 0 t_WIDTH)))
    (g_LOOK_WORDS : PySem.W.nsIn K mainGlobals "LOOK_WORDS" = some (some (.ref a_LOOK_WORDS))) (o_LOOK_WORDS : K.lookup a_LOOK_WORDS = some ⟨.type "tuple", Option.none, .seq #[.str (Str.ofString "into") u_LOOK_WORDS_0, .str (Str.ofString "past") u_LOOK_WORDS_1, .str (Str.ofString "first") u_LOOK_WORDS_2] n_LOOK_WORDS, sl_LOOK_WORDS⟩)
    (g_PLACE_WORDS : PySem.W.nsIn K mainGlobals "PLACE_WORDS" = some (some (.ref a_PLACE_WORDS))) (o_PLACE_WORDS : K.lookup a_PLACE_WORDS = some ⟨.type "tuple", Option.none, .seq #[.str (Str.ofString "write") u_PLACE_WORDS_0, .str (Str.ofString "put") u_PLACE_WORDS_1, .str (Str.ofString "read") u_PLACE_WORDS_2] n_PLACE_WORDS, sl_PLACE_WORDS⟩)
    (g_SENDS_WORDS : PySem.W.nsIn K mainGlobals "SENDS_WORDS" = some (some (.ref a_SENDS_WORDS))) (o_SENDS_WORDS : K.lookup a_SENDS_WORDS = some ⟨.type "tuple", Option.none, .seq #[.str (Str.ofString "whole") u_SENDS_WORDS_0, .str (Str.ofString "parts") u_SENDS_WORDS_1, .str (Str.ofString "filled") u_SENDS_WORDS_2] n_SENDS_WORDS, sl_SENDS_WORDS⟩)
    {cl_GatherError cl_BadProgram cl_BadQuestion cl_BadRule cl_BadSpot cl_BadStep cl_NotEnough cl_TooMany cl_UnlikeRules cl_BadText cl_BadCommand cl_BadIndex cl_BadLong cl_NothingToUndo cl_BadPlace : Addr}
    (e_GatherError : PySem.W.nsIn K mainGlobals "GatherError" = some (some (.ref cl_GatherError)))
    (e_BadProgram : PySem.W.nsIn K mainGlobals "BadProgram" = some (some (.ref cl_BadProgram)))
    (e_BadQuestion : PySem.W.nsIn K mainGlobals "BadQuestion" = some (some (.ref cl_BadQuestion)))
    (e_BadRule : PySem.W.nsIn K mainGlobals "BadRule" = some (some (.ref cl_BadRule)))
    (e_BadSpot : PySem.W.nsIn K mainGlobals "BadSpot" = some (some (.ref cl_BadSpot)))
    (e_BadStep : PySem.W.nsIn K mainGlobals "BadStep" = some (some (.ref cl_BadStep)))
    (e_NotEnough : PySem.W.nsIn K mainGlobals "NotEnough" = some (some (.ref cl_NotEnough)))
    (e_TooMany : PySem.W.nsIn K mainGlobals "TooMany" = some (some (.ref cl_TooMany)))
    (e_UnlikeRules : PySem.W.nsIn K mainGlobals "UnlikeRules" = some (some (.ref cl_UnlikeRules)))
    (e_BadText : PySem.W.nsIn K mainGlobals "BadText" = some (some (.ref cl_BadText)))
    (e_BadCommand : PySem.W.nsIn K mainGlobals "BadCommand" = some (some (.ref cl_BadCommand)))
    (e_BadIndex : PySem.W.nsIn K mainGlobals "BadIndex" = some (some (.ref cl_BadIndex)))
    (e_BadLong : PySem.W.nsIn K mainGlobals "BadLong" = some (some (.ref cl_BadLong)))
    (e_NothingToUndo : PySem.W.nsIn K mainGlobals "NothingToUndo" = some (some (.ref cl_NothingToUndo)))
    (e_BadPlace : PySem.W.nsIn K mainGlobals "BadPlace" = some (some (.ref cl_BadPlace)))
    (z_ValueError : PySem.W.nsIn K mainGlobals "ValueError" = some none)
    (q_BadProgram : xclB K cl_BadProgram = true) (t_BadProgram : kitLB K cl_BadProgram [(.ref cl_BadProgram, true), (.ref cl_BadQuestion, false), (.ref cl_BadRule, false), (.ref cl_BadSpot, false), (.ref cl_BadStep, false), (.ref cl_NotEnough, false), (.ref cl_TooMany, false), (.type "ValueError", true)] = true) (u_BadProgram : exmLB K cl_BadProgram [(.ref cl_GatherError, true)] = true)
    (w_BadProgram : PySem.W.excIn K cl_BadProgram [.type "ValueError", .type "Exception", .type "BaseException", .type "object"] "ValueError.__new__" = true)
    (v0_BadProgram : PySem.W.kitAny K (.ref cl_BadProgram) [.ref cl_UnlikeRules, .ref cl_BadText, .ref cl_BadCommand, .ref cl_BadIndex, .ref cl_BadLong] = some false)
    (v1_BadProgram : PySem.W.kitAny K (.ref cl_BadProgram) [.ref cl_NothingToUndo, .ref cl_BadPlace] = some false)
    (q_BadRule : xclB K cl_BadRule = true) (t_BadRule : kitLB K cl_BadRule [(.ref cl_BadProgram, false), (.ref cl_BadQuestion, false), (.ref cl_BadRule, true), (.ref cl_BadSpot, false), (.ref cl_BadStep, false), (.ref cl_NotEnough, false), (.ref cl_TooMany, false), (.type "ValueError", true)] = true) (u_BadRule : exmLB K cl_BadRule [(.ref cl_GatherError, true)] = true)
    (w_BadRule : PySem.W.excIn K cl_BadRule [.type "ValueError", .type "Exception", .type "BaseException", .type "object"] "ValueError.__new__" = true)
    (v0_BadRule : PySem.W.kitAny K (.ref cl_BadRule) [.ref cl_UnlikeRules, .ref cl_BadText, .ref cl_BadCommand, .ref cl_BadIndex, .ref cl_BadLong] = some false)
    (v1_BadRule : PySem.W.kitAny K (.ref cl_BadRule) [.ref cl_NothingToUndo, .ref cl_BadPlace] = some false)
    (q_BadSpot : xclB K cl_BadSpot = true) (t_BadSpot : kitLB K cl_BadSpot [(.ref cl_BadProgram, false), (.ref cl_BadQuestion, false), (.ref cl_BadRule, false), (.ref cl_BadSpot, true), (.ref cl_BadStep, false), (.ref cl_NotEnough, false), (.ref cl_TooMany, false), (.type "ValueError", true)] = true) (u_BadSpot : exmLB K cl_BadSpot [(.ref cl_GatherError, true)] = true)
    (w_BadSpot : PySem.W.excIn K cl_BadSpot [.type "ValueError", .type "Exception", .type "BaseException", .type "object"] "ValueError.__new__" = true)
    (v0_BadSpot : PySem.W.kitAny K (.ref cl_BadSpot) [.ref cl_UnlikeRules, .ref cl_BadText, .ref cl_BadCommand, .ref cl_BadIndex, .ref cl_BadLong] = some false)
    (v1_BadSpot : PySem.W.kitAny K (.ref cl_BadSpot) [.ref cl_NothingToUndo, .ref cl_BadPlace] = some false)
    : ∃ fd : FuncData, (∀ (s : Shared) (v : Value), BindsTo s fd ⟨[v], []⟩ [("script", v)]) ∧ ∀ base : Heap, K.In base → base.Ns mainGlobals mg → FnOk P w K mg base CX0 10 fa fd ["script"] (spD K [] 1 g_law) := by
  have e := hfa.symm.trans (PySem.W.mg_of X G a30)
  cases e
  refine ⟨PySem.W.fnOf "law" "law" (defArgs s_law) (defBody s_law) (defScope s_law) .none kV30 dc30 pm30 an30 cd30 ct30, fun s v => .of_eq rfl, fun base _ _ => ?_⟩
  have T : Top K [] mg base := {
    z_all := PySem.W.mg_none_of X G z_all
    z_bool := PySem.W.mg_none_of X G z_bool
    z_enumerate := PySem.W.mg_none_of X G z_enumerate
    z_int := PySem.W.mg_none_of X G z_int
    z_isinstance := PySem.W.mg_none_of X G z_isinstance
    z_len := PySem.W.mg_none_of X G z_len
    z_list := PySem.W.mg_none_of X G z_list
    z_max := PySem.W.mg_none_of X G z_max
    z_min := PySem.W.mg_none_of X G z_min
    z_range := PySem.W.mg_none_of X G z_range
    z_set := PySem.W.mg_none_of X G z_set
    z_sorted := PySem.W.mg_none_of X G z_sorted
    z_str := PySem.W.mg_none_of X G z_str
    z_tuple := PySem.W.mg_none_of X G z_tuple
    k_ACTING := ⟨_, PySem.W.mg_of X G g_ACTING⟩
    k_EAGER := ⟨_, PySem.W.mg_of X G g_EAGER⟩
    k_KINDS := ⟨_, PySem.W.mg_of X G g_KINDS⟩
    k_LINES := ⟨_, PySem.W.mg_of X G g_LINES⟩
    k_LOOK := ⟨_, PySem.W.mg_of X G g_LOOK⟩
    k_MOST_ROWS := ⟨_, PySem.W.mg_of X G g_MOST_ROWS⟩
    k_ROOM := ⟨_, PySem.W.mg_of X G g_ROOM⟩
    k_SENDS := ⟨_, PySem.W.mg_of X G g_SENDS⟩
    k_WIDTH := ⟨_, PySem.W.mg_of X G g_WIDTH⟩
    k_LOOK_WORDS := ⟨_, PySem.W.mg_of X G g_LOOK_WORDS, fun H => .inr ⟨_, _, _, o_LOOK_WORDS, rfl, rfl, (by show 3 ≤ sizeLine; decide), (.cons ⟨_, rfl⟩ (.cons ⟨_, rfl⟩ (.cons ⟨_, rfl⟩ .nil)))⟩, _, o_LOOK_WORDS, rfl, rfl⟩
    k_PLACE_WORDS := ⟨_, PySem.W.mg_of X G g_PLACE_WORDS, fun H => .inr ⟨_, _, _, o_PLACE_WORDS, rfl, rfl, (by show 3 ≤ sizeLine; decide), (.cons ⟨_, rfl⟩ (.cons ⟨_, rfl⟩ (.cons ⟨_, rfl⟩ .nil)))⟩, _, o_PLACE_WORDS, rfl, rfl⟩
    k_SENDS_WORDS := ⟨_, PySem.W.mg_of X G g_SENDS_WORDS, fun H => .inr ⟨_, _, _, o_SENDS_WORDS, rfl, rfl, (by show 3 ≤ sizeLine; decide), (.cons ⟨_, rfl⟩ (.cons ⟨_, rfl⟩ (.cons ⟨_, rfl⟩ .nil)))⟩, _, o_SENDS_WORDS, rfl, rfl⟩
    xt_BadProgram := ⟨cl_BadProgram, PySem.W.mg_of X G e_BadProgram, (by
      intro c b h
      simp only [lt_BadProgram, List.lookup] at h
      split at h
      · rename_i g; obtain rfl := beq_iff_eq.mp g; injection h with h; subst h; exact ⟨cl_BadProgram, e_BadProgram, xclB_ok q_BadProgram, kitLB_ok t_BadProgram (by simp)⟩
      split at h
      · rename_i g; obtain rfl := beq_iff_eq.mp g; injection h with h; subst h; exact ⟨cl_BadRule, e_BadRule, xclB_ok q_BadRule, kitLB_ok t_BadRule (by simp)⟩
      split at h
      · rename_i g; obtain rfl := beq_iff_eq.mp g; injection h with h; subst h; exact ⟨cl_BadSpot, e_BadSpot, xclB_ok q_BadSpot, kitLB_ok t_BadSpot (by simp)⟩
      cases h)⟩
    xt_BadQuestion := ⟨cl_BadQuestion, PySem.W.mg_of X G e_BadQuestion, (by
      intro c b h
      simp only [lt_BadQuestion, List.lookup] at h
      split at h
      · rename_i g; obtain rfl := beq_iff_eq.mp g; injection h with h; subst h; exact ⟨cl_BadProgram, e_BadProgram, xclB_ok q_BadProgram, kitLB_ok t_BadProgram (by simp)⟩
      split at h
      · rename_i g; obtain rfl := beq_iff_eq.mp g; injection h with h; subst h; exact ⟨cl_BadRule, e_BadRule, xclB_ok q_BadRule, kitLB_ok t_BadRule (by simp)⟩
      split at h
      · rename_i g; obtain rfl := beq_iff_eq.mp g; injection h with h; subst h; exact ⟨cl_BadSpot, e_BadSpot, xclB_ok q_BadSpot, kitLB_ok t_BadSpot (by simp)⟩
      cases h)⟩
    xt_BadRule := ⟨cl_BadRule, PySem.W.mg_of X G e_BadRule, (by
      intro c b h
      simp only [lt_BadRule, List.lookup] at h
      split at h
      · rename_i g; obtain rfl := beq_iff_eq.mp g; injection h with h; subst h; exact ⟨cl_BadProgram, e_BadProgram, xclB_ok q_BadProgram, kitLB_ok t_BadProgram (by simp)⟩
      split at h
      · rename_i g; obtain rfl := beq_iff_eq.mp g; injection h with h; subst h; exact ⟨cl_BadRule, e_BadRule, xclB_ok q_BadRule, kitLB_ok t_BadRule (by simp)⟩
      split at h
      · rename_i g; obtain rfl := beq_iff_eq.mp g; injection h with h; subst h; exact ⟨cl_BadSpot, e_BadSpot, xclB_ok q_BadSpot, kitLB_ok t_BadSpot (by simp)⟩
      cases h)⟩
    xt_BadSpot := ⟨cl_BadSpot, PySem.W.mg_of X G e_BadSpot, (by
      intro c b h
      simp only [lt_BadSpot, List.lookup] at h
      split at h
      · rename_i g; obtain rfl := beq_iff_eq.mp g; injection h with h; subst h; exact ⟨cl_BadProgram, e_BadProgram, xclB_ok q_BadProgram, kitLB_ok t_BadProgram (by simp)⟩
      split at h
      · rename_i g; obtain rfl := beq_iff_eq.mp g; injection h with h; subst h; exact ⟨cl_BadRule, e_BadRule, xclB_ok q_BadRule, kitLB_ok t_BadRule (by simp)⟩
      split at h
      · rename_i g; obtain rfl := beq_iff_eq.mp g; injection h with h; subst h; exact ⟨cl_BadSpot, e_BadSpot, xclB_ok q_BadSpot, kitLB_ok t_BadSpot (by simp)⟩
      cases h)⟩
    xt_BadStep := ⟨cl_BadStep, PySem.W.mg_of X G e_BadStep, (by
      intro c b h
      simp only [lt_BadStep, List.lookup] at h
      split at h
      · rename_i g; obtain rfl := beq_iff_eq.mp g; injection h with h; subst h; exact ⟨cl_BadProgram, e_BadProgram, xclB_ok q_BadProgram, kitLB_ok t_BadProgram (by simp)⟩
      split at h
      · rename_i g; obtain rfl := beq_iff_eq.mp g; injection h with h; subst h; exact ⟨cl_BadRule, e_BadRule, xclB_ok q_BadRule, kitLB_ok t_BadRule (by simp)⟩
      split at h
      · rename_i g; obtain rfl := beq_iff_eq.mp g; injection h with h; subst h; exact ⟨cl_BadSpot, e_BadSpot, xclB_ok q_BadSpot, kitLB_ok t_BadSpot (by simp)⟩
      cases h)⟩
    xt_NotEnough := ⟨cl_NotEnough, PySem.W.mg_of X G e_NotEnough, (by
      intro c b h
      simp only [lt_NotEnough, List.lookup] at h
      split at h
      · rename_i g; obtain rfl := beq_iff_eq.mp g; injection h with h; subst h; exact ⟨cl_BadProgram, e_BadProgram, xclB_ok q_BadProgram, kitLB_ok t_BadProgram (by simp)⟩
      split at h
      · rename_i g; obtain rfl := beq_iff_eq.mp g; injection h with h; subst h; exact ⟨cl_BadRule, e_BadRule, xclB_ok q_BadRule, kitLB_ok t_BadRule (by simp)⟩
      split at h
      · rename_i g; obtain rfl := beq_iff_eq.mp g; injection h with h; subst h; exact ⟨cl_BadSpot, e_BadSpot, xclB_ok q_BadSpot, kitLB_ok t_BadSpot (by simp)⟩
      cases h)⟩
    xt_TooMany := ⟨cl_TooMany, PySem.W.mg_of X G e_TooMany, (by
      intro c b h
      simp only [lt_TooMany, List.lookup] at h
      split at h
      · rename_i g; obtain rfl := beq_iff_eq.mp g; injection h with h; subst h; exact ⟨cl_BadProgram, e_BadProgram, xclB_ok q_BadProgram, kitLB_ok t_BadProgram (by simp)⟩
      split at h
      · rename_i g; obtain rfl := beq_iff_eq.mp g; injection h with h; subst h; exact ⟨cl_BadRule, e_BadRule, xclB_ok q_BadRule, kitLB_ok t_BadRule (by simp)⟩
      split at h
      · rename_i g; obtain rfl := beq_iff_eq.mp g; injection h with h; subst h; exact ⟨cl_BadSpot, e_BadSpot, xclB_ok q_BadSpot, kitLB_ok t_BadSpot (by simp)⟩
      cases h)⟩
    z_ValueError := PySem.W.mg_none_of X G z_ValueError
    xt_ValueError := (by
      intro c b h
      simp only [lt_ValueError, List.lookup] at h
      split at h
      · rename_i g; obtain rfl := beq_iff_eq.mp g; injection h with h; subst h; exact ⟨cl_BadProgram, e_BadProgram, xclB_ok q_BadProgram, kitLB_ok t_BadProgram (by simp)⟩
      split at h
      · rename_i g; obtain rfl := beq_iff_eq.mp g; injection h with h; subst h; exact ⟨cl_BadRule, e_BadRule, xclB_ok q_BadRule, kitLB_ok t_BadRule (by simp)⟩
      split at h
      · rename_i g; obtain rfl := beq_iff_eq.mp g; injection h with h; subst h; exact ⟨cl_BadSpot, e_BadSpot, xclB_ok q_BadSpot, kitLB_ok t_BadSpot (by simp)⟩
      cases h)
    xts_0 := ⟨cl_UnlikeRules, cl_BadText, cl_BadCommand, cl_BadIndex, cl_BadLong, PySem.W.mg_of X G e_UnlikeRules, PySem.W.mg_of X G e_BadText, PySem.W.mg_of X G e_BadCommand, PySem.W.mg_of X G e_BadIndex, PySem.W.mg_of X G e_BadLong, (by
      intro c b h
      simp only [lts_0, List.lookup] at h
      split at h
      · rename_i g; obtain rfl := beq_iff_eq.mp g; injection h with h; subst h; exact ⟨cl_BadProgram, e_BadProgram, xclB_ok q_BadProgram, v0_BadProgram⟩
      split at h
      · rename_i g; obtain rfl := beq_iff_eq.mp g; injection h with h; subst h; exact ⟨cl_BadRule, e_BadRule, xclB_ok q_BadRule, v0_BadRule⟩
      split at h
      · rename_i g; obtain rfl := beq_iff_eq.mp g; injection h with h; subst h; exact ⟨cl_BadSpot, e_BadSpot, xclB_ok q_BadSpot, v0_BadSpot⟩
      cases h)⟩
    xts_1 := ⟨cl_NothingToUndo, cl_BadPlace, PySem.W.mg_of X G e_NothingToUndo, PySem.W.mg_of X G e_BadPlace, (by
      intro c b h
      simp only [lts_1, List.lookup] at h
      split at h
      · rename_i g; obtain rfl := beq_iff_eq.mp g; injection h with h; subst h; exact ⟨cl_BadProgram, e_BadProgram, xclB_ok q_BadProgram, v1_BadProgram⟩
      split at h
      · rename_i g; obtain rfl := beq_iff_eq.mp g; injection h with h; subst h; exact ⟨cl_BadRule, e_BadRule, xclB_ok q_BadRule, v1_BadRule⟩
      split at h
      · rename_i g; obtain rfl := beq_iff_eq.mp g; injection h with h; subst h; exact ⟨cl_BadSpot, e_BadSpot, xclB_ok q_BadSpot, v1_BadSpot⟩
      cases h)⟩
    xm_GatherError := ⟨cl_GatherError, PySem.W.mg_of X G e_GatherError, (by
      intro c b h
      simp only [lm_GatherError, List.lookup] at h
      split at h
      · rename_i g; obtain rfl := beq_iff_eq.mp g; injection h with h; subst h; exact ⟨cl_BadProgram, e_BadProgram, exmLB_ok u_BadProgram (by simp)⟩
      split at h
      · rename_i g; obtain rfl := beq_iff_eq.mp g; injection h with h; subst h; exact ⟨cl_BadRule, e_BadRule, exmLB_ok u_BadRule (by simp)⟩
      split at h
      · rename_i g; obtain rfl := beq_iff_eq.mp g; injection h with h; subst h; exact ⟨cl_BadSpot, e_BadSpot, exmLB_ok u_BadSpot (by simp)⟩
      cases h)⟩
    xr_BadProgram := ⟨cl_BadProgram, e_BadProgram, PySem.W.mg_of X G e_BadProgram, xclB_ok q_BadProgram, w_BadProgram⟩
    xr_BadRule := ⟨cl_BadRule, e_BadRule, PySem.W.mg_of X G e_BadRule, xclB_ok q_BadRule, w_BadRule⟩
    xr_BadSpot := ⟨cl_BadSpot, e_BadSpot, PySem.W.mg_of X G e_BadSpot, xclB_ok q_BadSpot, w_BadSpot⟩
    d__law_pool := ⟨_, _, (fun_mk (st := s__law_pool) l0 c0 k0), PySem.W.mg_of X G a0, (fun_mk (st := s__law_pool) l0 c0 k0).binds (ps := p__law_pool) fun _ _ _ _ _ _ us hl => match us, hl with | [_, _], _ => rfl⟩
    d__law_draw := ⟨_, _, (fun_mk (st := s__law_draw) l1 c1 k1), PySem.W.mg_of X G a1, (fun_mk (st := s__law_draw) l1 c1 k1).binds (ps := p__law_draw) fun _ _ _ _ _ _ us hl => match us, hl with | [_, _], _ => rfl⟩
    d__law_part := ⟨_, _, (fun_mk (st := s__law_part) l2 c2 k2), PySem.W.mg_of X G a2, (fun_mk (st := s__law_part) l2 c2 k2).binds (ps := p__law_part) fun _ _ _ _ _ _ us hl => match us, hl with | [_, _], _ => rfl⟩
    d__law_rule := ⟨_, _, (fun_mk (st := s__law_rule) l3 c3 k3), PySem.W.mg_of X G a3, (fun_mk (st := s__law_rule) l3 c3 k3).binds (ps := p__law_rule) fun _ _ _ _ _ _ us hl => match us, hl with | [_, _], _ => rfl⟩
    d__law_row := ⟨_, _, (fun_mk (st := s__law_row) l4 c4 k4), PySem.W.mg_of X G a4, (fun_mk (st := s__law_row) l4 c4 k4).binds (ps := p__law_row) fun _ _ _ _ _ _ us hl => match us, hl with | [_, _, _, _, _], _ => rfl⟩
    d__law_program := ⟨_, _, (fun_mk (st := s__law_program) l5 c5 k5), PySem.W.mg_of X G a5, (fun_mk (st := s__law_program) l5 c5 k5).binds (ps := p__law_program) fun _ _ _ _ _ _ us hl => match us, hl with | [_, _, _], _ => rfl⟩
    d_is_tuple_of := ⟨_, _, (fun_mk (st := s_is_tuple_of) l6 c6 k6), PySem.W.mg_of X G a6, (fun_mk (st := s_is_tuple_of) l6 c6 k6).binds (ps := p_is_tuple_of) fun _ _ _ _ _ _ us hl => match us, hl with | [_, _, _], _ => rfl⟩
    d_is_integer := ⟨_, _, (fun_mk (st := s_is_integer) l7 c7 k7), PySem.W.mg_of X G a7, (fun_mk (st := s_is_integer) l7 c7 k7).binds (ps := p_is_integer) fun _ _ _ _ _ _ us hl => match us, hl with | [_], _ => rfl⟩
    d_is_integer_within := ⟨_, _, (fun_mk (st := s_is_integer_within) l8 c8 k8), PySem.W.mg_of X G a8, (fun_mk (st := s_is_integer_within) l8 c8 k8).binds (ps := p_is_integer_within) fun _ _ _ _ _ _ us hl => match us, hl with | [_, _, _], _ => rfl⟩
    d_are_numbers_below := ⟨_, _, (fun_mk (st := s_are_numbers_below) l9 c9 k9), PySem.W.mg_of X G a9, (fun_mk (st := s_are_numbers_below) l9 c9 k9).binds (ps := p_are_numbers_below) fun _ _ _ _ _ _ us hl => match us, hl with | [_, _], _ => rfl⟩
    d_is_word_of := ⟨_, _, (fun_mk (st := s_is_word_of) l10 c10 k10), PySem.W.mg_of X G a10, (fun_mk (st := s_is_word_of) l10 c10 k10).binds (ps := p_is_word_of) fun _ _ _ _ _ _ us hl => match us, hl with | [_, _], _ => rfl⟩
    d_is_kind := ⟨_, _, (fun_mk (st := s_is_kind) l11 c11 k11), PySem.W.mg_of X G a11, (fun_mk (st := s_is_kind) l11 c11 k11).binds (ps := p_is_kind) fun _ _ _ _ _ _ us hl => match us, hl with | [_, _], _ => rfl⟩
    d_places_of := ⟨_, _, (fun_mk (st := s_places_of) l12 c12 k12), PySem.W.mg_of X G a12, (fun_mk (st := s_places_of) l12 c12 k12).binds (ps := p_places_of) fun _ _ _ _ _ _ us hl => match us, hl with | [_], _ => rfl⟩
    d_is_rule := ⟨_, _, (fun_mk (st := s_is_rule) l13 c13 k13), PySem.W.mg_of X G a13, (fun_mk (st := s_is_rule) l13 c13 k13).binds (ps := p_is_rule) fun _ _ _ _ _ _ us hl => match us, hl with | [_], _ => rfl⟩
    d_check_rule := ⟨_, _, (fun_mk (st := s_check_rule) l14 c14 k14), PySem.W.mg_of X G a14, (fun_mk (st := s_check_rule) l14 c14 k14).binds (ps := p_check_rule) fun _ _ _ _ _ _ us hl => match us, hl with | [_], _ => rfl⟩
    d_is_operation := ⟨_, _, (fun_mk (st := s_is_operation) l15 c15 k15), PySem.W.mg_of X G a15, (fun_mk (st := s_is_operation) l15 c15 k15).binds (ps := p_is_operation) fun _ _ _ _ _ _ us hl => match us, hl with | [_, _], _ => rfl⟩
    d_is_fenced_operation := ⟨_, _, (fun_mk (st := s_is_fenced_operation) l16 c16 k16), PySem.W.mg_of X G a16, (fun_mk (st := s_is_fenced_operation) l16 c16 k16).binds (ps := p_is_fenced_operation) fun _ _ _ _ _ _ us hl => match us, hl with | [_, _], _ => rfl⟩
    d_is_row := ⟨_, _, (fun_mk (st := s_is_row) l17 c17 k17), PySem.W.mg_of X G a17, (fun_mk (st := s_is_row) l17 c17 k17).binds (ps := p_is_row) fun _ _ _ _ _ _ us hl => match us, hl with | [_, _, _], _ => rfl⟩
    d_has_rows := ⟨_, _, (fun_mk (st := s_has_rows) l18 c18 k18), PySem.W.mg_of X G a18, (fun_mk (st := s_has_rows) l18 c18 k18).binds (ps := p_has_rows) fun _ _ _ _ _ _ us hl => match us, hl with | [_, _], _ => rfl⟩
    d_check_program := ⟨_, _, (fun_mk (st := s_check_program) l19 c19 k19), PySem.W.mg_of X G a19, (fun_mk (st := s_check_program) l19 c19 k19).binds (ps := p_check_program) fun _ _ _ _ _ _ us hl => match us, hl with | [_, _], _ => rfl⟩
    d_is_spot := ⟨_, _, (fun_mk (st := s_is_spot) l20 c20 k20), PySem.W.mg_of X G a20, (fun_mk (st := s_is_spot) l20 c20 k20).binds (ps := p_is_spot) fun _ _ _ _ _ _ us hl => match us, hl with | [_, _, _], _ => rfl⟩
    d_check_lot := ⟨_, _, (fun_mk (st := s_check_lot) l21 c21 k21), PySem.W.mg_of X G a21, (fun_mk (st := s_check_lot) l21 c21 k21).binds (ps := p_check_lot) fun _ _ _ _ _ _ us hl => match us, hl with | [_, _, _], _ => rfl⟩
    d_program_with := ⟨_, _, (fun_mk (st := s_program_with) l22 c22 k22), PySem.W.mg_of X G a22, (fun_mk (st := s_program_with) l22 c22 k22).binds (ps := p_program_with) fun _ _ _ _ _ _ us hl => match us, hl with | [_, _], _ => rfl⟩
    d_with_fences := ⟨_, _, (fun_mk (st := s_with_fences) l23 c23 k23), PySem.W.mg_of X G a23, (fun_mk (st := s_with_fences) l23 c23 k23).binds (ps := p_with_fences) fun _ _ _ _ _ _ us hl => match us, hl with | [_, _, _], _ => rfl⟩
    d__law_only := ⟨_, _, (fun_mk (st := s__law_only) l24 c24 k24), PySem.W.mg_of X G a24, (fun_mk (st := s__law_only) l24 c24 k24).binds (ps := p__law_only) fun _ _ _ _ _ _ us hl => match us, hl with | [_, _], _ => rfl⟩
    d__law_refused := ⟨_, _, (fun_mk (st := s__law_refused) l25 c25 k25), PySem.W.mg_of X G a25, (fun_mk (st := s__law_refused) l25 c25 k25).binds (ps := p__law_refused) fun _ _ _ _ _ _ us hl => match us, hl with | [_, _, _], _ => rfl⟩
    d__law_plain := ⟨_, _, (fun_mk (st := s__law_plain) l26 c26 k26), PySem.W.mg_of X G a26, (fun_mk (st := s__law_plain) l26 c26 k26).binds (ps := p__law_plain) fun _ _ _ _ _ _ us hl => match us, hl with | [_], _ => rfl⟩
    d__law_fenced := ⟨_, _, (fun_mk (st := s__law_fenced) l27 c27 k27), PySem.W.mg_of X G a27, (fun_mk (st := s__law_fenced) l27 c27 k27).binds (ps := p__law_fenced) fun _ _ _ _ _ _ us hl => match us, hl with | [_, _], _ => rfl⟩
    d__law_no_lot := ⟨_, _, (fun_mk (st := s__law_no_lot) l28 c28 k28), PySem.W.mg_of X G a28, (fun_mk (st := s__law_no_lot) l28 c28 k28).binds (ps := p__law_no_lot) fun _ _ _ _ _ _ us hl => match us, hl with | [_, _, _, _], _ => rfl⟩
    d__law_spots := ⟨_, _, (fun_mk (st := s__law_spots) l29 c29 k29), PySem.W.mg_of X G a29, (fun_mk (st := s__law_spots) l29 c29 k29).binds (ps := p__law_spots) fun _ _ _ _ _ _ us hl => match us, hl with | [_, _], _ => rfl⟩
    d_law := ⟨_, _, (fun_mk (st := s_law) l30 c30 k30), PySem.W.mg_of X G a30, (fun_mk (st := s_law) l30 c30 k30).binds (ps := p_law) fun _ _ _ _ _ _ us hl => match us, hl with | [_], _ => rfl⟩ }
  exact f_law T (fun_mk (st := s_law) l30 c30 k30)
theorem walk {l : PySem.W.OpenLaw} {q : Program} {loose : List Str} {XP : (Str → Option Value) → Heap → Prop} {YP : World → Heap → Prop} {d : DefRec} {K : Params → PySem.W.Frag} (hn : l.most = some 63) (hdf : d.params.defaults = [])
    (hY : ∀ (w : World) (h : Heap), YP w h → (K w.params).In h)
    (F : ∀ (w : World) (mg : Str → Option Value) (fa : Addr) (h : Heap), (K w.params).In h → h.Ns mainGlobals mg → mg d.name = some (.ref fa) →
      ∃ fd : FuncData, (∀ (s : Shared) (u : Value), BindsTo s fd ⟨[u], []⟩ [("script", u)]) ∧ ∀ base : Heap, (K w.params).In base → base.Ns mainGlobals mg → FnOk l.prog w (K w.params) mg base CX0 10 fa fd ["script"] (spD (K w.params) [] 1 g_law)) :
    PySem.W.WalkO q loose XP YP l.row.toRowW d [] (fun f vs => PySem.call f vs) :=
  L2.walk_of (n := 63) (k := 10) (x := "script") (CX := fun _ => CX0) (sp := fun w => spD (K w.params) [] 1 g_law) hn (by decide) hdf ⟨rfl, by decide, by decide⟩ hY F (fun _ H a ns hl ho hS => sp_law (law_true ns hl) ho hS) fun _ _ _ _ _ z => z
end DL
open PySem PySem.W PyProof.Rows in
set_option maxRecDepth 100000 in
set_option maxHeartbeats 0 in
theorem PySem.Challenge.cw_heldwrites_k42_programs_with_fences_holds : PySem.Challenge.rw_heldwrites_k42_programs_with_fences.Holds := by
  w_on; o_law; k_head; (case hw => w_witness2)
  k_fill
  refine DL.walk (l := PySem.Challenge.rw_heldwrites_k42_programs_with_fences) rfl rfl (fun w h Y => PySem.W.kIn_of Y) ?F
  case F =>
    intro w mg fa h KX G hmg
    refine' DL.all_mk KX G hmg ?a0 ?l0 ?c0 ?k0 ?a1 ?l1 ?c1 ?k1 ?a2 ?l2 ?c2 ?k2 ?a3 ?l3 ?c3 ?k3 ?a4 ?l4 ?c4 ?k4 ?a5 ?l5 ?c5 ?k5 ?a6 ?l6 ?c6 ?k6 ?a7 ?l7 ?c7 ?k7 ?a8 ?l8 ?c8 ?k8 ?a9 ?l9 ?c9 ?k9 ?a10 ?l10 ?c10 ?k10 ?a11 ?l11 ?c11 ?k11 ?a12 ?l12 ?c12 ?k12 ?a13 ?l13 ?c13 ?k13 ?a14 ?l14 ?c14 ?k14 ?a15 ?l15 ?c15 ?k15 ?a16 ?l16 ?c16 ?k16 ?a17 ?l17 ?c17 ?k17 ?a18 ?l18 ?c18 ?k18 ?a19 ?l19 ?c19 ?k19 ?a20 ?l20 ?c20 ?k20 ?a21 ?l21 ?c21 ?k21 ?a22 ?l22 ?c22 ?k22 ?a23 ?l23 ?c23 ?k23 ?a24 ?l24 ?c24 ?k24 ?a25 ?l25 ?c25 ?k25 ?a26 ?l26 ?c26 ?k26 ?a27 ?l27 ?c27 ?k27 ?a28 ?l28 ?c28 ?k28 ?a29 ?l29 ?c29 ?k29 ?a30 ?l30 ?c30 ?k30 ?z_all ?z_bool ?z_enumerate ?z_int ?z_isinstance ?z_len ?z_list ?z_max ?z_min ?z_range ?z_set ?z_sorted ?z_str ?z_tuple ?g_ACTING ?g_EAGER ?g_KINDS ?g_LINES ?g_LOOK ?g_MOST_ROWS ?g_ROOM ?g_SENDS ?g_WIDTH ?g_LOOK_WORDS ?o_LOOK_WORDS ?g_PLACE_WORDS ?o_PLACE_WORDS ?g_SENDS_WORDS ?o_SENDS_WORDS ?e_GatherError ?e_BadProgram ?e_BadQuestion ?e_BadRule ?e_BadSpot ?e_BadStep ?e_NotEnough ?e_TooMany ?e_UnlikeRules ?e_BadText ?e_BadCommand ?e_BadIndex ?e_BadLong ?e_NothingToUndo ?e_BadPlace ?z_ValueError ?q_BadProgram ?t_BadProgram ?u_BadProgram ?w_BadProgram ?v0_BadProgram ?v1_BadProgram ?q_BadRule ?t_BadRule ?u_BadRule ?w_BadRule ?v0_BadRule ?v1_BadRule ?q_BadSpot ?t_BadSpot ?u_BadSpot ?w_BadSpot ?v0_BadSpot ?v1_BadSpot
    (case a0 => k_is)
    (case l0 => k_is)
    (case c0 => k_is)
    (case k0 => k_is)
    (case a1 => k_is)
    (case l1 => k_is)
    (case c1 => k_is)
    (case k1 => k_is)
    (case a2 => k_is)
    (case l2 => k_is)
    (case c2 => k_is)
    (case k2 => k_is)
    (case a3 => k_is)
    (case l3 => k_is)
    (case c3 => k_is)
    (case k3 => k_is)
    (case a4 => k_is)
    (case l4 => k_is)
    (case c4 => k_is)
    (case k4 => k_is)
    (case a5 => k_is)
    (case l5 => k_is)
    (case c5 => k_is)
    (case k5 => k_is)
    (case a6 => k_is)
    (case l6 => k_is)
    (case c6 => k_is)
    (case k6 => k_is)
    (case a7 => k_is)
    (case l7 => k_is)
    (case c7 => k_is)
    (case k7 => k_is)
    (case a8 => k_is)
    (case l8 => k_is)
    (case c8 => k_is)
    (case k8 => k_is)
    (case a9 => k_is)
    (case l9 => k_is)
    (case c9 => k_is)
    (case k9 => k_is)
    (case a10 => k_is)
    (case l10 => k_is)
    (case c10 => k_is)
    (case k10 => k_is)
    (case a11 => k_is)
    (case l11 => k_is)
    (case c11 => k_is)
    (case k11 => k_is)
    (case a12 => k_is)
    (case l12 => k_is)
    (case c12 => k_is)
    (case k12 => k_is)
    (case a13 => k_is)
    (case l13 => k_is)
    (case c13 => k_is)
    (case k13 => k_is)
    (case a14 => k_is)
    (case l14 => k_is)
    (case c14 => k_is)
    (case k14 => k_is)
    (case a15 => k_is)
    (case l15 => k_is)
    (case c15 => k_is)
    (case k15 => k_is)
    (case a16 => k_is)
    (case l16 => k_is)
    (case c16 => k_is)
    (case k16 => k_is)
    (case a17 => k_is)
    (case l17 => k_is)
    (case c17 => k_is)
    (case k17 => k_is)
    (case a18 => k_is)
    (case l18 => k_is)
    (case c18 => k_is)
    (case k18 => k_is)
    (case a19 => k_is)
    (case l19 => k_is)
    (case c19 => k_is)
    (case k19 => k_is)
    (case a20 => k_is)
    (case l20 => k_is)
    (case c20 => k_is)
    (case k20 => k_is)
    (case a21 => k_is)
    (case l21 => k_is)
    (case c21 => k_is)
    (case k21 => k_is)
    (case a22 => k_is)
    (case l22 => k_is)
    (case c22 => k_is)
    (case k22 => k_is)
    (case a23 => k_is)
    (case l23 => k_is)
    (case c23 => k_is)
    (case k23 => k_is)
    (case a24 => k_is)
    (case l24 => k_is)
    (case c24 => k_is)
    (case k24 => k_is)
    (case a25 => k_is)
    (case l25 => k_is)
    (case c25 => k_is)
    (case k25 => k_is)
    (case a26 => k_is)
    (case l26 => k_is)
    (case c26 => k_is)
    (case k26 => k_is)
    (case a27 => k_is)
    (case l27 => k_is)
    (case c27 => k_is)
    (case k27 => k_is)
    (case a28 => k_is)
    (case l28 => k_is)
    (case c28 => k_is)
    (case k28 => k_is)
    (case a29 => k_is)
    (case l29 => k_is)
    (case c29 => k_is)
    (case k29 => k_is)
    (case a30 => k_is)
    (case l30 => k_is)
    (case c30 => k_is)
    (case k30 => k_is)
    (case z_all => k_is)
    (case z_bool => k_is)
    (case z_enumerate => k_is)
    (case z_int => k_is)
    (case z_isinstance => k_is)
    (case z_len => k_is)
    (case z_list => k_is)
    (case z_max => k_is)
    (case z_min => k_is)
    (case z_range => k_is)
    (case z_set => k_is)
    (case z_sorted => k_is)
    (case z_str => k_is)
    (case z_tuple => k_is)
    (case g_ACTING => k_is)
    (case g_EAGER => k_is)
    (case g_KINDS => k_is)
    (case g_LINES => k_is)
    (case g_LOOK => k_is)
    (case g_MOST_ROWS => k_is)
    (case g_ROOM => k_is)
    (case g_SENDS => k_is)
    (case g_WIDTH => k_is)
    (case g_LOOK_WORDS => k_is)
    (case o_LOOK_WORDS => k_is)
    (case g_PLACE_WORDS => k_is)
    (case o_PLACE_WORDS => k_is)
    (case g_SENDS_WORDS => k_is)
    (case o_SENDS_WORDS => k_is)
    (case e_GatherError => k_is)
    (case e_BadProgram => k_is)
    (case e_BadQuestion => k_is)
    (case e_BadRule => k_is)
    (case e_BadSpot => k_is)
    (case e_BadStep => k_is)
    (case e_NotEnough => k_is)
    (case e_TooMany => k_is)
    (case e_UnlikeRules => k_is)
    (case e_BadText => k_is)
    (case e_BadCommand => k_is)
    (case e_BadIndex => k_is)
    (case e_BadLong => k_is)
    (case e_NothingToUndo => k_is)
    (case e_BadPlace => k_is)
    (case z_ValueError => k_is)
    (case q_BadProgram => first | kernel_rfl | rfl | decide +kernel)
    (case t_BadProgram => first | kernel_rfl | rfl | decide +kernel)
    (case u_BadProgram => first | kernel_rfl | rfl | decide +kernel)
    (case w_BadProgram => k_exc)
    (case v0_BadProgram => first | kernel_rfl | rfl | decide +kernel)
    (case v1_BadProgram => first | kernel_rfl | rfl | decide +kernel)
    (case q_BadRule => first | kernel_rfl | rfl | decide +kernel)
    (case t_BadRule => first | kernel_rfl | rfl | decide +kernel)
    (case u_BadRule => first | kernel_rfl | rfl | decide +kernel)
    (case w_BadRule => k_exc)
    (case v0_BadRule => first | kernel_rfl | rfl | decide +kernel)
    (case v1_BadRule => first | kernel_rfl | rfl | decide +kernel)
    (case q_BadSpot => first | kernel_rfl | rfl | decide +kernel)
    (case t_BadSpot => first | kernel_rfl | rfl | decide +kernel)
    (case u_BadSpot => first | kernel_rfl | rfl | decide +kernel)
    (case w_BadSpot => k_exc)
    (case v0_BadSpot => first | kernel_rfl | rfl | decide +kernel)
    (case v1_BadSpot => first | kernel_rfl | rfl | decide +kernel)
#print axioms PySem.Challenge.cw_heldwrites_k42_programs_with_fences_holds
