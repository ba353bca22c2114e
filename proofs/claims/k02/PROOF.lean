import PyProof.Rows.All
import Wide.All
import OpenK.AllK
import Wide.FinOn
import PyProof.EqLayable
import HandS.Text
import HandS.ForMost
import HandS.Wide
import HandS.Star
import HandS.TupAny
import HandS.IsInst
import HandS.Deep
import HandS.TupSets
import HandS.Style
import PySem.Challenge.RW_heldwrites_k02_rules
set_option Elab.async false
set_option linter.all false
set_option maxRecDepth 100000
set_option maxHeartbeats 8000000
set_option exponentiation.threshold 500
/-! A small language of values: what an expression, a statement, a def of the program does, as plain functions over data and a store of lists. -/
namespace DL
open PySem

/-- a value: a tuple is its items; a list is a place in the store -/
inductive D where
  | non | bl (b : Bool) | int (i : Int) | str (x : Str) | tup (ds : List D) | rf (n : Nat)
  /-- a list that never changes (the script) -/
  | cl (ds : List D)
inductive Cell where
  | lst (ds : List D)
abbrev Store := List Cell
inductive Res (α : Type) where
  | stuck | ok (a : α) (st : Store) | exc (c : Str) (a : D) (st : Store)
abbrev M (α : Type) := Store → Res α
abbrev Env := List (Option D)
def ret {α : Type} (a : α) : M α := fun st => .ok a st
def bad {α : Type} : M α := fun _ => .stuck
def andThen {α β : Type} (m : M α) (f : α → M β) : M β := fun st =>
  match m st with
  | .ok a st' => f a st'
  | .exc c a st' => .exc c a st'
  | .stuck => .stuck
abbrev SZ : Nat := 16777216

abbrev GE := Env → M D
abbrev GT := Env → M Bool
abbrev GA := Env → M (List D)
inductive Fl where
  | nx (ρ : Env) | rt (d : D) | bk (ρ : Env) | ct (ρ : Env)
abbrev GS := Env → M Fl
abbrev GF := List D → M D

/-! ### reading the store -/
def cellItems (st : Store) (n : Nat) : Option (List D) :=
  match st[n]? with
  | some (.lst ds) => some ds
  | none => none
def optAll {α : Type} : List (Option α) → Option (List α)
  | [] => some []
  | none :: _ => none
  | some a :: r => (optAll r).map (a :: ·)
def toPy : Nat → Store → D → Option PyData
  | 0, _, _ => none
  | _ + 1, _, .non => some .none
  | _ + 1, _, .bl b => some (.bool b)
  | _ + 1, _, .int i => some (.int i)
  | _ + 1, _, .str x => some (.str x)
  | f + 1, st, .tup ds => (optAll (ds.map (toPy f st))).map .tuple
  | f + 1, st, .rf n => (cellItems st n).bind fun ds => (optAll (ds.map (toPy f st))).map .list
  | _ + 1, _, .cl _ => none
abbrev DEEP : Nat := 12

/-! ### operators, by values -/
def flat : D → Bool
  | .non => true | .bl _ => true | .int _ => true | .str _ => true | _ => false
def eqF : D → D → Bool
  | .non, .non => true
  | .bl a, .bl b => a == b
  | .bl a, .int b => (if a then 1 else 0) == b
  | .int a, .bl b => a == (if b then 1 else 0)
  | .int a, .int b => a == b
  | .str a, .str b => a == b
  | _, _ => false
abbrev O2 := D → D → M D
def newList (ds : List D) : M D := fun st => .ok (.rf st.length) (st ++ [.lst ds])
def vAdd : O2
  | .int a, .int b => ret (.int (a + b))
  | .str a, .str b => if a.length + b.length ≤ SZ then ret (.str (a ++ b)) else bad
  | .tup a, .tup b => if a.length + b.length ≤ SZ then ret (.tup (a ++ b)) else bad
  | .rf n, .rf m => fun st => match st[n]?, st[m]? with
    | some (.lst a), some (.lst b) => if a.length + b.length ≤ SZ then newList (a ++ b) st else .stuck
    | _, _ => .stuck
  | _, _ => bad
def vSub : O2
  | .int a, .int b => ret (.int (a - b))
  | _, _ => bad
def mulOk (i j : Int) : Bool := decide (i.natAbs < 2 ^ 64) || decide (j.natAbs < 2 ^ 64) || (decide (i.natAbs < 2 ^ 400) && decide (j.natAbs < 2 ^ 400))
def vMul : O2
  | .int a, .int b => if mulOk a b = true then ret (.int (a * b)) else bad
  | _, _ => bad
def vDiv : O2
  | .int a, .int b => if 0 < b ∧ b.natAbs < 2 ^ 400 then ret (.int (a / b)) else bad
  | _, _ => bad
def vMod : O2
  | .int a, .int b => if 0 < b then ret (.int (a % b)) else bad
  | _, _ => bad
def vShr : O2
  | .int a, .int b => if 0 ≤ b then ret (.int (a / 2 ^ b.toNat)) else bad
  | _, _ => bad
def vCmp (f : Int → Int → Bool) : O2
  | .int a, .int b => ret (.bl (f a b))
  | _, _ => bad
def vLt : O2 := vCmp fun a b => decide (a < b)
def vLe : O2 := vCmp fun a b => decide (a ≤ b)
def vGt : O2 := vCmp fun a b => decide (b < a)
def vGe : O2 := vCmp fun a b => decide (b ≤ a)
def eqPy (a b : D) : Store → Option Bool := fun st =>
  match toPy DEEP st a, toPy DEEP st b with
  | some p, some q => if (SeqAt.shaped p && SeqAt.shaped q) = true then some (PyData.eqv p q) else none
  | _, _ => none
def vEq : O2 := fun a b st => match eqPy a b st with
  | some k => .ok (.bl k) st
  | none => .stuck
def vNe : O2 := fun a b st => match eqPy a b st with
  | some k => .ok (.bl (!k)) st
  | none => .stuck
/-- is, is not: with None, True, False -/
def isB : D → D → Option Bool
  | .non, .non => some true
  | .bl a, .bl b => some (a == b)
  | .bl _, .non => some false
  | .int _, .non => some false
  | .str _, .non => some false
  | .tup _, .non => some false
  | .rf _, .non => some false
  | .cl _, .non => some false
  | _, _ => none
def vIs : O2 := fun a b => match isB a b with
  | some k => ret (.bl k)
  | none => bad
def vIsNot : O2 := fun a b => match isB a b with
  | some k => ret (.bl (!k))
  | none => bad
def inB (x y : D) : Store → Option Bool := fun st => match y with
  | .tup ds => if (flat x && ds.all flat) = true then some (ds.any fun z => eqF z x) else none
  | .rf n => match toPy DEEP st x, toPy DEEP st (.rf n) with
    | some p, some (.list qs) => if (SeqAt.shaped p && SeqAt.shaped (.list qs)) = true then some (qs.any fun z => PyData.eqv z p) else none
    | _, _ => none
  | _ => none
def vIn : O2 := fun a b st => match inB a b st with
  | some k => .ok (.bl k) st
  | none => .stuck
def vNotIn : O2 := fun a b st => match inB a b st with
  | some k => .ok (.bl (!k)) st
  | none => .stuck
def ixOf (n : Nat) (i : Int) : Option Nat := if 0 ≤ i then (if i < n then some i.toNat else none) else if -(n : Int) ≤ i then some (i + n).toNat else none
def atD {α : Type} (xs : List α) (i : Int) : Option α := (ixOf xs.length i).bind fun j => xs[j]?
def vIx : O2
  | .tup ds, .int i => match atD ds i with
    | some d => ret d
    | none => bad
  | .rf n, .int i => fun st => match (cellItems st n).bind fun ds => atD ds i with
    | some d => .ok d st
    | none => .stuck
  | .str x, .int i => if x.length ≤ SZ then match atD x.cps.toList i with
    | some c => ret (.str ⟨#[c]⟩)
    | none => bad else bad
  | _, _ => bad
def vNeg : D → M D
  | .int a => ret (.int (-a))
  | _ => bad
def vAbs : D → M D
  | .int i => ret (.int (if i < 0 then -i else i))
  | _ => bad
def vUpper : D → M D
  | .str x => if x.length ≤ 1000 then ret (.str (Txt.upper x)) else bad
  | _ => bad
def vInt : D → M D
  | .int i => ret (.int i)
  | .bl k => ret (.int (if k then 1 else 0))
  | _ => bad
def vLen : D → M D
  | .tup ds => ret (.int ds.length)
  | .rf n => fun st => match cellItems st n with
    | some ds => .ok (.int ds.length) st
    | none => .stuck
  | .str x => if x.length ≤ SZ then ret (.int x.length) else bad
  | _ => bad
def tru : D → Store → Option Bool
  | .non, _ => some false
  | .bl b, _ => some b
  | .int i, _ => some (i != 0)
  | .str x, _ => if x.length ≤ SZ then some ((x.length : Int) != 0) else none
  | .tup ds, _ => some (!ds.isEmpty)
  | .rf n, st => (cellItems st n).map fun ds => !ds.isEmpty
  | .cl _, _ => none
inductive Ty where
  | int | bool | str | tuple | list
def isTy : Ty → D → Bool
  | .int, .int _ => true
  | .int, .bl _ => true
  | .bool, .bl _ => true
  | .str, .str _ => true
  | .tuple, .tup _ => true
  | .list, .rf _ => true
  | _, _ => false
def vIsi (t : Ty) : D → M D
  | .rf n => fun st => match cellItems st n with
    | some _ => .ok (.bl (isTy t (.rf n))) st
    | none => .stuck
  | .cl _ => bad
  | d => ret (.bl (isTy t d))
/-- tuple(x), of a tuple or of a list; list(x) -/
def vTuple : D → M D
  | .tup ds => ret (.tup ds)
  | .rf n => fun st => match cellItems st n with
    | some ds => .ok (.tup ds) st
    | none => .stuck
  | _ => bad
/-- what list(x) holds -/
def vItems : D → M (List D)
  | .tup ds => ret ds
  | .rf n => fun st => match cellItems st n with
    | some ds => .ok ds st
    | none => .stuck
  | _ => bad
def sIx (n d : Nat) : Option Int → Nat
  | none => d
  | some v => if v < 0 then (v + (n : Int)).toNat else min v.toNat n
def cutD {α : Type} (xs : List α) (lo hi : Option Int) : List α := (xs.drop (sIx xs.length 0 lo)).take (sIx xs.length xs.length hi - sIx xs.length 0 lo)
def asInt : D → M Int
  | .int i => ret i
  | _ => bad

/-! ### expressions -/
def gVar (i : Nat) : GE := fun ρ st => match ρ[i]? with
  | some (some d) => .ok d st
  | _ => .stuck
def gC (d : D) : GE := fun _ => ret d
def gOp (h : O2) (a b : GE) : GE := fun ρ => andThen (a ρ) fun x => andThen (b ρ) fun y => h x y
def gUn (h : D → M D) (a : GE) : GE := fun ρ => andThen (a ρ) h
def gNil : GA := fun _ => ret []
def gCons (a : GE) (r : GA) : GA := fun ρ => andThen (a ρ) fun x => andThen (r ρ) fun xs => ret (x :: xs)
/-- a star: *x, x a tuple or a list -/
def gStar (a : GE) (r : GA) : GA := fun ρ => andThen (a ρ) fun x => andThen (vItems x) fun xs => andThen (r ρ) fun ys => ret (xs ++ ys)
def small (ds : List D) : M (List D) := if ds.length ≤ SZ then ret ds else bad
def gTup (a : GA) : GE := fun ρ => andThen (a ρ) fun ds => andThen (small ds) fun ds => ret (.tup ds)
/-- a new list, of a reading that gives what it holds -/
def gNew (a : GA) : GE := fun ρ => andThen (a ρ) newList
def gLst (a : GA) : GA := fun ρ => andThen (a ρ) small
def asB : D → M Bool
  | .bl b => ret b
  | _ => bad
/-- a value that is True or False, as a test; any value, by its truth -/
def tB (a : GE) : GT := fun ρ => andThen (a ρ) asB
def tTru (a : GE) : GT := fun ρ => andThen (a ρ) fun d st => match tru d st with
  | some b => .ok b st
  | none => .stuck
def tNot (t : GT) : GT := fun ρ => andThen (t ρ) fun b => ret (!b)
def tAnd (t u : GT) : GT := fun ρ => andThen (t ρ) fun b => if b = true then u ρ else ret false
def tOr (t u : GT) : GT := fun ρ => andThen (t ρ) fun b => if b = true then ret true else u ρ
def gNot (a : GE) : GE := fun ρ => andThen (tB a ρ) fun b => ret (.bl (!b))
def gAnd (a b : GE) : GE := fun ρ => andThen (tB a ρ) fun k => if k = true then b ρ else ret (.bl false)
def gOr (a b : GE) : GE := fun ρ => andThen (tB a ρ) fun k => if k = true then ret (.bl true) else b ρ
def gIf (t : GT) (a b : GE) : GE := fun ρ => andThen (t ρ) fun k => if k = true then a ρ else b ρ
def gChain (h h' : O2) (a b c : GE) : GE := fun ρ => andThen (a ρ) fun x => andThen (b ρ) fun y => andThen (h x y) fun z => andThen (asB z) fun k =>
  if k = true then andThen (c ρ) fun w => h' y w else ret (.bl false)
def oNone : Env → M (Option Int) := fun _ => ret none
def oSome (a : GE) : Env → M (Option Int) := fun ρ => andThen (a ρ) fun d => andThen (asInt d) fun i => ret (some i)
/-- x[lo:hi] of a tuple, of a text, of a list -/
def cutS (z : Str) (lo hi : Option Int) : Str := ⟨(cutD z.cps.toList lo hi).toArray⟩
def vSl : D → Option Int → Option Int → M D
  | .tup ds, l, u => ret (.tup (cutD ds l u))
  | .str z, l, u => if z.length ≤ SZ then ret (.str (cutS z l u)) else bad
  | .rf n, l, u => fun st => match cellItems st n with
    | some ds => newList (cutD ds l u) st
    | none => .stuck
  | _, _, _ => bad
def gSl (a : GE) (lo hi : Env → M (Option Int)) : GE := fun ρ => andThen (a ρ) fun x => andThen (lo ρ) fun l => andThen (hi ρ) fun u => vSl x l u
def gList (a : GE) : GA := fun ρ => andThen (a ρ) vItems
/-- tuple(..), all(..), any(..), len(..), of a list made on the spot -/
def gTupOf (a : GA) : GE := fun ρ => andThen (a ρ) fun ds => ret (.tup ds)
def bools : List D → Option (List Bool)
  | [] => some []
  | .bl b :: r => (bools r).map (b :: ·)
  | _ :: _ => none
def gAll (a : GA) : GE := fun ρ => andThen (a ρ) fun ds => match bools ds with
  | some bs => ret (.bl (bs.all id))
  | none => bad
def gAny (a : GA) : GE := fun ρ => andThen (a ρ) fun ds => match bools ds with
  | some bs => ret (.bl (bs.any id))
  | none => bad
/-- [..][i], of a list made on the spot -/
def gIxL (a : GA) (i : GE) : GE := fun ρ => andThen (a ρ) fun ds => andThen (i ρ) fun x => andThen (asInt x) fun k => match atD ds k with
  | some d => ret d
  | none => bad
def gCall (f : GF) (a : GA) : GE := fun ρ => andThen (a ρ) f

/-! ### targets, walks, statements -/
abbrev GG := D → Env → M Env
def gName (i : Nat) : GG := fun d ρ => ret (ρ.set i (some d))
abbrev GGs := List D → Env → M Env
def ggNil : GGs := fun ds ρ => match ds with
  | [] => ret ρ
  | _ => bad
def ggCons (g : GG) (r : GGs) : GGs := fun ds ρ => match ds with
  | d :: ds => andThen (g d ρ) fun ρ' => r ds ρ'
  | [] => bad
def gUnpack (n : Nat) (r : GGs) : GG := fun d ρ => match d with
  | .tup ds => if ds.length = n then r ds ρ else bad
  | _ => bad
/-- what a for walks: the items, and what must hold of the store as long as it walks -/
structure Walk where
  items : List D
  guard : Store → Prop
abbrev GI := Env → M Walk
def wTup (a : GE) : GI := fun ρ => andThen (a ρ) fun x => match x with
  | .tup ds => ret ⟨ds, fun _ => True⟩
  | _ => bad
def wList (a : GE) : GI := fun ρ => andThen (a ρ) fun x => match x with
  | .rf n => fun st => match cellItems st n with
    | some ds => .ok ⟨ds, fun st' => cellItems st' n = some ds⟩ st
    | none => .stuck
  | _ => bad
/-- a tuple, or a list of the store -/
def wSeq (a : GE) : GI := fun ρ => andThen (a ρ) fun x => match x with
  | .tup ds => ret ⟨ds, fun _ => True⟩
  | .cl ds => ret ⟨ds, fun _ => True⟩
  | .rf n => fun st => match cellItems st n with
    | some ds => .ok ⟨ds, fun st' => cellItems st' n = some ds⟩ st
    | none => .stuck
  | _ => bad
/-- a list made on the spot -/
def wNew (a : GA) : GI := fun ρ => andThen (a ρ) fun ds => ret ⟨ds, fun _ => True⟩
def upTo (n : Nat) : List D := (List.range n).map fun (k : Nat) => D.int k
def fromTo (lo : Int) (n : Nat) : List D := (List.range n).map fun (k : Nat) => D.int (lo + k)
def smallI (i : Int) : Bool := decide (-(2 ^ 62) ≤ i) && decide (i < 2 ^ 62)
def wRange (a : GE) : GI := fun ρ => andThen (a ρ) fun x => andThen (asInt x) fun j => if smallI j = true then ret ⟨fromTo 0 j.toNat, fun _ => True⟩ else bad
def wRange2 (a b : GE) : GI := fun ρ => andThen (a ρ) fun x => andThen (b ρ) fun y => andThen (asInt x) fun i => andThen (asInt y) fun j =>
  if (smallI i && smallI j) = true then ret ⟨fromTo i (j - i).toNat, fun _ => True⟩ else bad
open Classical in
noncomputable def walkC (gd : Store → Prop) (m : Store → Res α) : Store → Res α := fun st => if gd st then m st else .stuck
noncomputable def gLoop (gd : Store → Prop) (g : GG) (b : GS) : List D → Env → M Fl
  | [], ρ => walkC gd (ret (.nx ρ))
  | d :: ds, ρ => walkC gd (andThen (g d ρ) fun ρ1 => andThen (b ρ1) fun f => match f with
    | .nx ρ2 => gLoop gd g b ds ρ2
    | .ct ρ2 => gLoop gd g b ds ρ2
    | .bk ρ2 => ret (.nx ρ2)
    | .rt d => ret (.rt d))
noncomputable def gFor (w : GI) (g : GG) (b : GS) : GS := fun ρ => andThen (w ρ) fun k => gLoop k.guard g b k.items ρ
def gNext : GS := fun ρ => ret (.nx ρ)
def gBreak : GS := fun ρ => ret (.bk ρ)
def gCont : GS := fun ρ => ret (.ct ρ)
def gStuck : GS := fun _ => bad
def gSeq (a b : GS) : GS := fun ρ => andThen (a ρ) fun f => match f with
  | .nx ρ' => b ρ'
  | f => ret f
def gDrop (a : GE) : GS := fun ρ => andThen (a ρ) fun _ => ret (.nx ρ)
def gRet (a : GE) : GS := fun ρ => andThen (a ρ) fun d => ret (.rt d)
def gRetN : GS := fun _ => ret (.rt .non)
def gIfS (t : GT) (a b : GS) : GS := fun ρ => andThen (t ρ) fun k => if k = true then a ρ else b ρ
def gAsg (a : GE) (g : GG) : GS := fun ρ => andThen (a ρ) fun d => andThen (g d ρ) fun ρ' => ret (.nx ρ')
/-- xs[i] = e: e first -/
def vSet (o i v : D) : M Unit := fun st => match o, i with
  | .rf n, .int k => match st[n]? with
    | some (.lst ds) => match ixOf ds.length k with
      | some j => .ok () (st.set n (.lst (ds.set j v)))
      | none => .stuck
    | _ => .stuck
  | _, _ => .stuck
def gSet (e o i : GE) : GS := fun ρ => andThen (e ρ) fun v => andThen (o ρ) fun x => andThen (i ρ) fun y => andThen (vSet x y v) fun _ => ret (.nx ρ)
/-- xs.append(e) -/
def vApp (o v : D) : M D := fun st => match o with
  | .rf n => match st[n]? with
    | some (.lst ds) => if ds.length < SZ then .ok .non (st.set n (.lst (ds ++ [v]))) else .stuck
    | _ => .stuck
  | _ => .stuck
def gApp (o e : GE) : GE := fun ρ => andThen (o ρ) fun x => andThen (e ρ) fun v => vApp x v
/-- [e for target in walk if test], what it holds; vs: its own names -/
def wipeE (ρ : Env) : List Nat → Env
  | [] => ρ
  | v :: vs => (wipeE ρ vs).set v none
noncomputable def gComp (gd : Store → Prop) (g : GG) (t : GT) (e : GE) (ρ : Env) : List D → M (List D)
  | [] => walkC gd (ret [])
  | d :: ds => walkC gd (andThen (g d ρ) fun ρ1 => andThen (t ρ1) fun b =>
    if b = true then andThen (e ρ1) fun x => andThen (gComp gd g t e ρ ds) fun xs => ret (x :: xs) else gComp gd g t e ρ ds)
noncomputable def gLc (w : GI) (g : GG) (t : GT) (e : GE) (vs : List Nat) : GA := fun ρ => andThen (w ρ) fun k => andThen (gComp k.guard g t e (wipeE ρ vs) k.items) small
def tYes : GT := fun _ => ret true
def startE (n : Nat) (ds : List D) : Env := ds.map some ++ List.replicate (n - ds.length) none
/-- a def of np parameters and n names -/
def gFn (np n : Nat) (b : GS) : GF := fun ds => if ds.length = np then andThen (b (startE n ds)) fun f => match f with
  | .nx _ => ret .non
  | .rt d => ret d
  | _ => bad else bad
end DL
/-! The language of values is kept by the machine: representation. -/
namespace DL
open PySem L2

/-! ### how data stands in the heap; ad: where the store's lists stand -/
/-- a list that never changes -/
def SqC (K : PySem.W.Frag) (H : Hp) (a : Addr) (xs : List V) : Prop :=
  (∃ o, H a = some (.frz o (.lst xs))) ∨
    ∃ (o : Obj) (its : Array Value) (n : Nat), K.lookup a = some o ∧ o.cls = .type "list" ∧ o.dict = none ∧ o.data = .seq its n ∧ its.size ≤ sizeLine ∧ Vals xs its.toList
theorem SqC.sql {K : PySem.W.Frag} {H : Hp} {a : Addr} {xs : List V} (h : SqC K H a xs) : SqL K H a xs := by
  rcases h with h | h
  · exact .inl (.inr h)
  · exact .inr h
mutual
inductive RV (K : PySem.W.Frag) (ad : List Addr) (H : Hp) : V → D → Prop
  | non : RV K ad H .non .non
  | bl (b : Bool) : RV K ad H (.bl b) (.bl b)
  | int (i : Int) : RV K ad H (.int i) (.int i)
  | str (x : Str) : RV K ad H (.str x) (.str x)
  | tup {a : Addr} {xs : List V} {ds : List D} (h : SqT K H a xs) (r : RVs K ad H xs ds) : RV K ad H (.ref a) (.tup ds)
  | rf {n : Nat} {a : Addr} (h : ad[n]? = some a) : RV K ad H (.ref a) (.rf n)
  | cl {a : Addr} {xs : List V} {ds : List D} (h : SqC K H a xs) (r : RVs K ad H xs ds) : RV K ad H (.ref a) (.cl ds)
inductive RVs (K : PySem.W.Frag) (ad : List Addr) (H : Hp) : List V → List D → Prop
  | nil : RVs K ad H [] []
  | cons {v : V} {vs : List V} {d : D} {ds : List D} (h : RV K ad H v d) (t : RVs K ad H vs ds) : RVs K ad H (v :: vs) (d :: ds)
end
def RC (K : PySem.W.Frag) (ad : List Addr) (H : Hp) (a : Addr) : Cell → Prop
  | .lst ds => ∃ xs, H a = some (.lst xs) ∧ RVs K ad H xs ds
structure RS (K : PySem.W.Frag) (ad : List Addr) (H : Hp) (st : Store) : Prop where
  len : ad.length = st.length
  nd : ad.Nodup
  cell : ∀ (n : Nat) (c : Cell) (a : Addr), st[n]? = some c → ad[n]? = some a → RC K ad H a c
structure Ext (K : PySem.W.Frag) (ad : List Addr) (H : Hp) (ad' : List Addr) (H' : Hp) : Prop where
  more : ∃ m, ad' = ad ++ m ∧ ∀ a ∈ m, H a = none ∧ a ∉ ad
  tup : ∀ a xs, SqT K H a xs → SqT K H' a xs
  cls : ∀ a xs, SqC K H a xs → SqC K H' a xs
  oth : ∀ a o, H a = some o → a ∉ ad → H' a = some o
def RE (K : PySem.W.Frag) (ad : List Addr) (H : Hp) (σ : L2.St) (ρ : Env) : Prop :=
  σ.length = ρ.length ∧ ∀ (i : Nat) (d : D), ρ[i]? = some (some d) → ∃ v, σ[i]? = some (some v) ∧ RV K ad H v d

section
variable {K : PySem.W.Frag} {ad ad' ad2 : List Addr} {H H' H2 : Hp}
theorem Ext.refl : Ext K ad H ad H := ⟨⟨[], by simp⟩, fun _ _ h => h, fun _ _ h => h, fun _ _ h _ => h⟩
theorem Ext.trans (e : Ext K ad H ad' H') (f : Ext K ad' H' ad2 H2) : Ext K ad H ad2 H2 := by
  obtain ⟨m, hm, fm⟩ := e.more
  obtain ⟨m2, hm2, fm2⟩ := f.more
  refine ⟨⟨m ++ m2, by rw [hm2, hm, List.append_assoc], fun a ha => ?_⟩, fun a xs h => f.tup a xs (e.tup a xs h), fun a xs h => f.cls a xs (e.cls a xs h), fun a o h n => f.oth a o (e.oth a o h n) fun z => ?_⟩
  · rcases List.mem_append.mp ha with ha | ha
    · exact fm a ha
    · obtain ⟨h1, h2⟩ := fm2 a ha
      have h3 : a ∉ ad := fun z => h2 (by rw [hm]; exact List.mem_append_left _ z)
      refine ⟨?_, h3⟩
      cases q : H a with
      | none => rfl
      | some o =>
        have := e.oth a o q h3
        rw [h1] at this; cases this
  · rw [hm] at z
    rcases List.mem_append.mp z with z | z
    · exact n z
    · rw [(fm a z).1] at h; cases h
theorem Ext.at (e : Ext K ad H ad' H') {n : Nat} {a : Addr} (h : ad[n]? = some a) : ad'[n]? = some a := by
  obtain ⟨m, hm, _⟩ := e.more
  rw [hm]
  rw [List.getElem?_append_left (List.getElem?_eq_some_iff.mp h).1]
  exact h
mutual
theorem RV.mono (e : Ext K ad H ad' H') : ∀ {v : V} {d : D}, RV K ad H v d → RV K ad' H' v d
  | _, _, .non => .non
  | _, _, .bl b => .bl b
  | _, _, .int i => .int i
  | _, _, .str x => .str x
  | _, _, .tup h r => .tup (e.tup _ _ h) (RVs.mono e r)
  | _, _, .rf h => .rf (e.at h)
  | _, _, .cl h r => .cl (e.cls _ _ h) (RVs.mono e r)
theorem RVs.mono (e : Ext K ad H ad' H') : ∀ {vs : List V} {ds : List D}, RVs K ad H vs ds → RVs K ad' H' vs ds
  | _, _, .nil => .nil
  | _, _, .cons h t => .cons (RV.mono e h) (RVs.mono e t)
end
theorem RVs.length : ∀ {vs : List V} {ds : List D}, RVs K ad H vs ds → vs.length = ds.length
  | _, _, .nil => rfl
  | _, _, .cons _ t => by rw [List.length_cons, List.length_cons, RVs.length t]
theorem RVs.get : ∀ {vs : List V} {ds : List D} {i : Nat} {d : D}, RVs K ad H vs ds → ds[i]? = some d → ∃ v, vs[i]? = some v ∧ RV K ad H v d
  | _, _, _, _, .nil, e => by simp at e
  | _, _, 0, _, .cons h _, e => by
    simp at e; subst e; exact ⟨_, rfl, h⟩
  | _, _, i + 1, _, .cons _ t, e => by
    obtain ⟨v, h1, h2⟩ := RVs.get (i := i) t (by simpa using e)
    exact ⟨v, by simpa using h1, h2⟩
theorem RVs.append : ∀ {vs us : List V} {ds es : List D}, RVs K ad H vs ds → RVs K ad H us es → RVs K ad H (vs ++ us) (ds ++ es)
  | _, _, _, _, .nil, r => r
  | _, _, _, _, .cons h t, r => .cons h (RVs.append t r)
theorem RVs.set {v : V} {d : D} (h : RV K ad H v d) : ∀ {vs : List V} {ds : List D} (i : Nat), RVs K ad H vs ds → RVs K ad H (vs.set i v) (ds.set i d)
  | _, _, _, .nil => .nil
  | _, _, 0, .cons _ t => .cons h t
  | _, _, i + 1, .cons q t => .cons q (RVs.set h i t)
theorem RVs.take : ∀ {vs : List V} {ds : List D} (n : Nat), RVs K ad H vs ds → RVs K ad H (vs.take n) (ds.take n)
  | _, _, 0, _ => .nil
  | _, _, _ + 1, .nil => .nil
  | _, _, n + 1, .cons r t => .cons r (RVs.take n t)
theorem RVs.drop : ∀ {vs : List V} {ds : List D} (n : Nat), RVs K ad H vs ds → RVs K ad H (vs.drop n) (ds.drop n)
  | _, _, 0, r => r
  | _, _, _ + 1, .nil => .nil
  | _, _, n + 1, .cons _ t => RVs.drop n t
theorem sIx_eq (n d : Nat) (o : Option Int) : sIx n d o = HT.sIx n d o := by
  cases o <;> rfl
theorem RVs.cut {vs : List V} {ds : List D} (r : RVs K ad H vs ds) (lo hi : Option Int) : RVs K ad H (cutV vs lo hi) (cutD ds lo hi) := by
  unfold cutV cutD
  rw [r.length, sIx_eq, sIx_eq]
  exact (r.drop _).take _
theorem ixOf_eq (n : Nat) (i : Int) : ixOf n i = ixN n i := rfl
theorem RVs.atI {vs : List V} {ds : List D} (r : RVs K ad H vs ds) {i : Int} {d : D} (h : atD ds i = some d) : ∃ v, L2.atI vs i = some v ∧ RV K ad H v d := by
  unfold atD at h
  unfold L2.atI
  rw [r.length]
  rw [ixOf_eq] at h
  cases q : ixN ds.length i with
  | none => rw [q] at h; cases h
  | some j =>
    rw [q] at h
    exact r.get h
theorem RVs.flat_all : ∀ {vs : List V} {ds : List D}, RVs K ad H vs ds → ds.all flat = true → vs.all flatV = true
  | _, _, .nil, _ => rfl
  | _, _, .cons h t, q => by
    rw [List.all_cons, Bool.and_eq_true] at q ⊢
    refine ⟨?_, RVs.flat_all t q.2⟩
    cases h <;> first | rfl | exact q.1
theorem flat_of {v : V} {d : D} (h : RV K ad H v d) (q : flat d = true) : flatV v = true := by
  cases h <;> first | rfl | (cases q)
theorem eqF_of {v u : V} {d e : D} (h : RV K ad H v d) (g : RV K ad H u e) (q : flat d = true) (p : flat e = true) : eqV v u = eqF d e := by
  cases h <;> cases g <;> first | rfl | (cases q) | (cases p)
theorem any_of {u : V} {e : D} (g : RV K ad H u e) (p : flat e = true) : ∀ {vs : List V} {ds : List D}, RVs K ad H vs ds → ds.all flat = true → inV u vs = ds.any fun z => eqF z e
  | _, _, .nil, _ => rfl
  | _, _, .cons h t, q => by
    rw [List.all_cons, Bool.and_eq_true] at q
    unfold inV
    rw [List.any_cons, List.any_cons, eqF_of h g q.1 p]
    have ih := any_of g p t q.2
    unfold inV at ih
    rw [ih]
/-! ### the heap grows, a list is written -/
theorem sqT_upd {p a : Addr} {o : HO} {xs : List V} (hp : ∀ xs, ¬ Rd H p (.tup xs)) (h : SqT K H a xs) : SqT K (upd H p o) a xs := by
  rcases h with h | h
  · refine .inl ?_
    have ne : a ≠ p := fun z => hp xs (z ▸ h)
    rcases h with h | ⟨o', h⟩
    · exact .inl (by rw [upd_ne ne]; exact h)
    · exact .inr ⟨o', by rw [upd_ne ne]; exact h⟩
  · exact .inr h
theorem sqC_upd {p a : Addr} {o : HO} {xs : List V} (hp : ∀ o xs, H p ≠ some (.frz o (.lst xs))) (h : SqC K H a xs) : SqC K (upd H p o) a xs := by
  rcases h with ⟨o', h⟩ | h
  · have ne : a ≠ p := fun z => hp o' xs (z ▸ h)
    exact .inl ⟨o', by rw [upd_ne ne]; exact h⟩
  · exact .inr h
theorem nofrz_none {p : Addr} (h : H p = none) : ∀ o xs, H p ≠ some (.frz o (.lst xs)) := fun o xs r => by rw [h] at r; cases r
theorem nofrz_lst {p : Addr} {ys : List V} (h : H p = some (.lst ys)) : ∀ o xs, H p ≠ some (.frz o (.lst xs)) := fun o xs r => by rw [h] at r; cases r
theorem notup_none {p : Addr} (h : H p = none) : ∀ xs, ¬ Rd H p (.tup xs) := fun xs r => by
  rcases r with r | ⟨o, r⟩ <;> (rw [h] at r; cases r)
theorem notup_lst {p : Addr} {ys : List V} (h : H p = some (.lst ys)) : ∀ xs, ¬ Rd H p (.tup xs) := fun xs r => by
  rcases r with r | ⟨o, r⟩ <;> (rw [h] at r; cases r)
theorem RS.of_mem {st : Store} (S : RS K ad H st) {p : Addr} (h : p ∈ ad) : ∃ o, H p = some o := by
  obtain ⟨n, hn⟩ := List.getElem?_of_mem h
  have hl : n < st.length := by rw [← S.len]; exact (List.getElem?_eq_some_iff.mp hn).1
  have hc := S.cell n _ p (List.getElem?_eq_getElem hl) hn
  cases e : st[n] with
  | lst ds => rw [e] at hc; obtain ⟨xs, h1, _⟩ := hc; exact ⟨_, h1⟩
theorem RS.not_mem {st : Store} (S : RS K ad H st) {p : Addr} (h : H p = none) : p ∉ ad := fun z => by
  obtain ⟨o, q⟩ := S.of_mem z
  rw [h] at q; cases q
theorem ext_new {p : Addr} {o : HO} (h : H p = none) : Ext K ad H ad (upd H p o) :=
  ⟨⟨[], by simp⟩, fun a xs q => sqT_upd (notup_none h) q, fun a xs q => sqC_upd (nofrz_none h) q, fun a u q _ => by rw [upd_ne (ne_of_none q h)]; exact q⟩
theorem RC.mono {a : Addr} {c : Cell} (e : Ext K ad H ad' H') (k : ∀ o, H a = some o → H' a = some o) (h : RC K ad H a c) : RC K ad' H' a c := by
  cases c with
  | lst ds => obtain ⟨xs, h1, h2⟩ := h; exact ⟨xs, k _ h1, h2.mono e⟩
theorem RS.upd_new {st : Store} {p : Addr} {o : HO} (S : RS K ad H st) (h : H p = none) : RS K ad (upd H p o) st :=
  ⟨S.len, S.nd, fun n c a h1 h2 => (S.cell n c a h1 h2).mono (ext_new h) fun u q => by rw [upd_ne (ne_of_none q h)]; exact q⟩

mutual
theorem lift (q : ∀ {n : Nat} {a : Addr}, ad[n]? = some a → ad'[n]? = some a) : ∀ {v : V} {d : D}, RV K ad H v d → RV K ad' H v d
  | _, _, .non => .non
  | _, _, .bl b => .bl b
  | _, _, .int i => .int i
  | _, _, .str x => .str x
  | _, _, .tup h r => .tup h (lifts q r)
  | _, _, .rf h => .rf (q h)
  | _, _, .cl h r => .cl h (lifts q r)
theorem lifts (q : ∀ {n : Nat} {a : Addr}, ad[n]? = some a → ad'[n]? = some a) : ∀ {vs : List V} {ds : List D}, RVs K ad H vs ds → RVs K ad' H vs ds
  | _, _, .nil => .nil
  | _, _, .cons h t => .cons (lift q h) (lifts q t)
end
/-- a list that no place of the store has yet is given one -/
theorem RS.push {st : Store} {p : Addr} {xs : List V} {ds : List D} (S : RS K ad H st) (h : H p = some (.lst xs)) (hp : p ∉ ad) (r : RVs K ad H xs ds) : RS K (ad ++ [p]) H (st ++ [.lst ds]) := by
  have q : ∀ {n : Nat} {a : Addr}, ad[n]? = some a → (ad ++ [p])[n]? = some a := fun {n a} h => by
    rw [List.getElem?_append_left (List.getElem?_eq_some_iff.mp h).1]
    exact h
  refine ⟨by rw [List.length_append, List.length_append, S.len]; rfl, ?_, fun n c a h1 h2 => ?_⟩
  · rw [List.nodup_append]
    exact ⟨S.nd, by simp, fun a ha b hb => by
      have : b = p := by simpa using hb
      subst this
      rintro rfl
      exact hp ha⟩
  · by_cases hn : n < st.length
    · rw [List.getElem?_append_left hn] at h1
      rw [List.getElem?_append_left (by rw [S.len]; exact hn)] at h2
      have hc := S.cell n c a h1 h2
      cases c with
      | lst es => obtain ⟨ys, q1, q2⟩ := hc; exact ⟨ys, q1, lifts q q2⟩
    · have hn' : st.length ≤ n := Nat.le_of_not_lt hn
      rw [List.getElem?_append_right hn'] at h1
      rw [List.getElem?_append_right (by rw [S.len]; exact hn')] at h2
      have hz : n - st.length = 0 := by
        have := (List.getElem?_eq_some_iff.mp h1).1
        simpa using this
      rw [hz] at h1
      rw [S.len, hz] at h2
      simp at h1 h2
      subst h1; subst h2
      exact ⟨xs, h, lifts q r⟩
end
end DL
namespace DL
open PySem L2
section
variable {K : PySem.W.Frag} {ad ad' ad2 : List Addr} {H H' H2 : Hp} {st : Store}
theorem Ext.push {p : Addr} (e : Ext K ad H ad' H') (h : H p = none) (S : RS K ad H st) : Ext K ad H (ad' ++ [p]) H' := by
  obtain ⟨m, hm, fm⟩ := e.more
  refine ⟨⟨m ++ [p], by rw [hm, List.append_assoc], fun a ha => ?_⟩, e.tup, e.cls, e.oth⟩
  rcases List.mem_append.mp ha with ha | ha
  · exact fm a ha
  · have : a = p := by simpa using ha
    subst this
    exact ⟨h, S.not_mem h⟩
theorem RS.at {n : Nat} {c : Cell} (S : RS K ad H st) (h : st[n]? = some c) : ∃ a, ad[n]? = some a ∧ RC K ad H a c := by
  have hl : n < ad.length := by rw [S.len]; exact (List.getElem?_eq_some_iff.mp h).1
  exact ⟨_, List.getElem?_eq_getElem hl, S.cell n c _ h (List.getElem?_eq_getElem hl)⟩
theorem RS.items {n : Nat} {ds : List D} {a : Addr} (S : RS K ad H st) (h : cellItems st n = some ds) (ha : ad[n]? = some a) : ∃ xs, SqL K H a xs ∧ RVs K ad H xs ds := by
  unfold cellItems at h
  cases e : st[n]? with
  | none => rw [e] at h; cases h
  | some c =>
    rw [e] at h
    have hc := S.cell n c a e ha
    cases c with
    | lst es =>
      cases h
      obtain ⟨xs, h1, h2⟩ := hc
      exact ⟨xs, SqL.of h1, h2⟩
theorem nodup_ixA : ∀ {l : List Addr} {i j : Nat} {x : Addr}, l.Nodup → l[i]? = some x → l[j]? = some x → i = j := fun {l i j x} hN a b => by
  obtain ⟨h1, e1⟩ := List.getElem?_eq_some_iff.mp a
  obtain ⟨h2, e2⟩ := List.getElem?_eq_some_iff.mp b
  exact (List.getElem_inj hN).mp (e1.trans e2.symm)
theorem RS.set {n : Nat} {ds es : List D} {a : Addr} {xs : List V} (S : RS K ad H st) (h : st[n]? = some (.lst ds)) (ha : ad[n]? = some a) (r : RVs K ad H xs es) :
    RS K ad (upd H a (.lst xs)) (st.set n (.lst es)) ∧ Ext K ad H ad (upd H a (.lst xs)) := by
  obtain ⟨ys, h1, _⟩ := S.cell n _ a h ha
  have hm : a ∈ ad := List.mem_of_getElem? ha
  have e : Ext K ad H ad (upd H a (.lst xs)) := ⟨⟨[], by simp⟩, fun b zs q => sqT_upd (notup_lst h1) q, fun b zs q => sqC_upd (nofrz_lst h1) q, fun b o q nb => by rw [upd_ne (fun z : b = a => nb (by rw [z]; exact hm))]; exact q⟩
  refine ⟨⟨by rw [S.len]; simp, S.nd, fun m c b h2 h3 => ?_⟩, e⟩
  by_cases hmn : m = n
  · subst hmn
    rw [ha] at h3; cases h3
    have hl := (List.getElem?_eq_some_iff.mp h).1
    rw [List.getElem?_set_self hl] at h2
    cases h2
    exact ⟨xs, upd_same, r.mono e⟩
  · rw [List.getElem?_set_ne (Ne.symm hmn)] at h2
    have nb : b ≠ a := fun z => hmn (nodup_ixA S.nd h3 (by rw [z]; exact ha))
    exact (S.cell m c b h2 h3).mono e fun o q => by rw [upd_ne nb]; exact q
/-! ### slots -/
theorem RE.mono {σ : L2.St} {ρ : Env} (e : Ext K ad H ad' H') (R : RE K ad H σ ρ) : RE K ad' H' σ ρ :=
  ⟨R.1, fun i d h => let ⟨v, h1, h2⟩ := R.2 i d h; ⟨v, h1, h2.mono e⟩⟩
theorem RE.set {σ : L2.St} {ρ : Env} {v : V} {d : D} (R : RE K ad H σ ρ) (i : Nat) (h : RV K ad H v d) : RE K ad H (σ.set i (some v)) (ρ.set i (some d)) := by
  refine ⟨by simp [R.1], fun j e q => ?_⟩
  by_cases hj : j = i
  · subst hj
    have hl : j < ρ.length := by have := (List.getElem?_eq_some_iff.mp q).1; simpa using this
    rw [List.getElem?_set_self hl] at q
    cases q
    exact ⟨v, List.getElem?_set_self (by rw [R.1]; exact hl), h⟩
  · rw [List.getElem?_set_ne (Ne.symm hj)] at q
    obtain ⟨u, h1, h2⟩ := R.2 j e q
    exact ⟨u, by rw [List.getElem?_set_ne (Ne.symm hj)]; exact h1, h2⟩
theorem RE.setN {σ : L2.St} {ρ : Env} (R : RE K ad H σ ρ) (i : Nat) : RE K ad H (σ.set i none) (ρ.set i none) := by
  refine ⟨by simp [R.1], fun j e q => ?_⟩
  by_cases hj : j = i
  · subst hj
    have hl : j < ρ.length := by have := (List.getElem?_eq_some_iff.mp q).1; simpa using this
    rw [List.getElem?_set_self hl] at q
    cases q
  · rw [List.getElem?_set_ne (Ne.symm hj)] at q
    obtain ⟨u, h1, h2⟩ := R.2 j e q
    exact ⟨u, by rw [List.getElem?_set_ne (Ne.symm hj)]; exact h1, h2⟩
theorem RE.wipe {σ : L2.St} {ρ : Env} (R : RE K ad H σ ρ) : ∀ vs, RE K ad H (L2.wipe σ vs) (wipeE ρ vs)
  | [] => R
  | v :: vs => (RE.wipe R vs).setN v
theorem RE.start {vs : List V} {ds : List D} (n : Nat) (N : List Str) (hN : N.length = n) (r : RVs K ad H vs ds) : RE K ad H (start N vs) (startE n ds) := by
  unfold L2.start startE
  rw [hN, r.length]
  refine ⟨by simp [r.length], fun i d q => ?_⟩
  by_cases hi : i < ds.length
  · rw [List.getElem?_append_left (by simpa using hi), List.getElem?_map] at q
    cases e : ds[i]? with
    | none => rw [e] at q; cases q
    | some d' =>
      rw [e] at q
      cases q
      obtain ⟨v, h1, h2⟩ := r.get e
      refine ⟨v, ?_, h2⟩
      rw [List.getElem?_append_left (by simp [r.length]; exact hi), List.getElem?_map, h1]
      rfl
  · rw [List.getElem?_append_right (by simpa using Nat.le_of_not_lt hi)] at q
    rw [List.getElem?_replicate] at q
    split at q <;> cases q
/-! ### what is wanted behind a reading -/
def PostD (K : PySem.W.Frag) (ad : List Addr) (H : Hp) (Q : VK) : Res D → Prop
  | .ok d st' => ∀ ad' H' v, Ext K ad H ad' H' → RV K ad' H' v d → RS K ad' H' st' → Q v H'
  | _ => False
def PostB (K : PySem.W.Frag) (ad : List Addr) (H : Hp) (Q : Bool → Hp → Prop) : Res Bool → Prop
  | .ok b st' => ∀ ad' H', Ext K ad H ad' H' → RS K ad' H' st' → Q b H'
  | _ => False
def PostA (K : PySem.W.Frag) (ad : List Addr) (H : Hp) (Q : List V → Hp → Prop) : Res (List D) → Prop
  | .ok ds st' => ∀ ad' H' vs, Ext K ad H ad' H' → RVs K ad' H' vs ds → RS K ad' H' st' → Q vs H'
  | _ => False
/-- a list made on the spot: it stands at a p that was free, no place of the store has it -/
def PostL (K : PySem.W.Frag) (ad : List Addr) (H : Hp) (Q : VK) : Res (List D) → Prop
  | .ok ds st' => ∀ ad' H' p xs, Ext K ad H ad' H' → H p = none → p ∉ ad' → H' p = some (.lst xs) → RVs K ad' H' xs ds → RS K ad' H' st' → Q (.ref p) H'
  | _ => False
def PostO (K : PySem.W.Frag) (ad : List Addr) (H : Hp) (Q : Option Int → Hp → Prop) : Res (Option Int) → Prop
  | .ok o st' => ∀ ad' H', Ext K ad H ad' H' → RS K ad' H' st' → Q o H'
  | _ => False
def PostS (K : PySem.W.Frag) (ad : List Addr) (H : Hp) (E : Ends) : Res Fl → Prop
  | .ok (.nx ρ) st' => ∀ ad' H' σ', Ext K ad H ad' H' → RE K ad' H' σ' ρ → RS K ad' H' st' → E.nx σ' H'
  | .ok (.bk ρ) st' => ∀ ad' H' σ', Ext K ad H ad' H' → RE K ad' H' σ' ρ → RS K ad' H' st' → E.bk σ' H'
  | .ok (.ct ρ) st' => ∀ ad' H' σ', Ext K ad H ad' H' → RE K ad' H' σ' ρ → RS K ad' H' st' → E.ct σ' H'
  | .ok (.rt d) st' => ∀ ad' H' v, Ext K ad H ad' H' → RV K ad' H' v d → RS K ad' H' st' → E.rt v H'
  | _ => False
def PostG (K : PySem.W.Frag) (ad : List Addr) (H : Hp) (σ : L2.St) (is : List Nat) (Q : L2.St → Hp → Prop) : Res Env → Prop
  | .ok ρ st' => ∀ ad' H' σ', Ext K ad H ad' H' → RE K ad' H' σ' ρ → RS K ad' H' st' → σ'.length = σ.length → (∀ j, j ∉ is → σ'[j]? = σ[j]?) → Q σ' H'
  | _ => False
def PostU (K : PySem.W.Frag) (ad : List Addr) (H : Hp) (Q : Hp → Prop) : Res Unit → Prop
  | .ok _ st' => ∀ ad' H', Ext K ad H ad' H' → RS K ad' H' st' → Q H'
  | _ => False
/-- the walk J gives the items one by one -/
def Gives (K : PySem.W.Frag) (ad : List Addr) (H : Hp) (J : It) (k : Walk) : Prop :=
  ∀ ad1 H1 st1, Ext K ad H ad1 H1 → RS K ad1 H1 st1 → k.guard st1 → ∀ i, (∀ d, k.items[i]? = some d → J.go i H1 ∧ ∀ x H2, J.yld i H1 x H2 → ∃ ad2, Ext K ad1 H1 ad2 H2 ∧ RV K ad2 H2 x d ∧ RS K ad2 H2 st1) ∧ (k.items.length ≤ i → J.stop i H1)
def PostI (K : PySem.W.Frag) (ad : List Addr) (H : Hp) (R : It → Hp → Prop) : Res Walk → Prop
  | .ok k st' => ∀ ad' H' J, Ext K ad H ad' H' → RS K ad' H' st' → Gives K ad' H' J k → R J H'
  | _ => False
theorem PostD.shift {Q : VK} {r : Res D} (e : Ext K ad H ad' H') (h : PostD K ad H Q r) : PostD K ad' H' Q r := by
  cases r with
  | ok d st' => exact fun a h' v x => h a h' v (e.trans x)
  | stuck => exact h
  | exc _ _ _ => exact h
theorem PostB.shift {Q : Bool → Hp → Prop} {r : Res Bool} (e : Ext K ad H ad' H') (h : PostB K ad H Q r) : PostB K ad' H' Q r := by
  cases r with
  | ok d st' => exact fun a h' x => h a h' (e.trans x)
  | stuck => exact h
  | exc _ _ _ => exact h
theorem PostA.shift {Q : List V → Hp → Prop} {r : Res (List D)} (e : Ext K ad H ad' H') (h : PostA K ad H Q r) : PostA K ad' H' Q r := by
  cases r with
  | ok d st' => exact fun a h' v x => h a h' v (e.trans x)
  | stuck => exact h
  | exc _ _ _ => exact h
theorem PostO.shift {Q : Option Int → Hp → Prop} {r : Res (Option Int)} (e : Ext K ad H ad' H') (h : PostO K ad H Q r) : PostO K ad' H' Q r := by
  cases r with
  | ok d st' => exact fun a h' x => h a h' (e.trans x)
  | stuck => exact h
  | exc _ _ _ => exact h
theorem PostI.shift {Q : It → Hp → Prop} {r : Res Walk} (e : Ext K ad H ad' H') (h : PostI K ad H Q r) : PostI K ad' H' Q r := by
  cases r with
  | ok d st' => exact fun a h' v x => h a h' v (e.trans x)
  | stuck => exact h
  | exc _ _ _ => exact h
theorem PostU.shift {Q : Hp → Prop} {r : Res Unit} (e : Ext K ad H ad' H') (h : PostU K ad H Q r) : PostU K ad' H' Q r := by
  cases r with
  | ok d st' => exact fun a h' x => h a h' (e.trans x)
  | stuck => exact h
  | exc _ _ _ => exact h
theorem PostS.shift {Q : Ends} {r : Res Fl} (e : Ext K ad H ad' H') (h : PostS K ad H Q r) : PostS K ad' H' Q r := by
  cases r with
  | ok d st' => cases d <;> exact fun a h' v x => h a h' v (e.trans x)
  | stuck => exact h
  | exc _ _ _ => exact h
/-- what was free behind is free ahead -/
theorem Ext.none_of (e : Ext K ad H ad' H') {st' : Store} (S' : RS K ad' H' st') {p : Addr} (h : H' p = none) : H p = none := by
  cases q : H p with
  | none => rfl
  | some o =>
    by_cases hp : p ∈ ad
    · obtain ⟨m, hm, _⟩ := e.more
      obtain ⟨o', ho⟩ := S'.of_mem (show p ∈ ad' by rw [hm]; exact List.mem_append_left _ hp)
      rw [h] at ho; cases ho
    · rw [e.oth p o q hp] at h; cases h
theorem PostL.shift {Q : VK} {r : Res (List D)} (e : Ext K ad H ad' H') {st' : Store} (S' : RS K ad' H' st') (h : PostL K ad H Q r) : PostL K ad' H' Q r := by
  cases r with
  | ok d s => exact fun a h' p xs x n => h a h' p xs (e.trans x) (e.none_of S' n)
  | stuck => exact h
  | exc _ _ _ => exact h
end
/-! ### the readings, as readings of the layer -/
def TD (K : PySem.W.Frag) (g : GE) : TE := fun σ H Q => ∃ ad ρ st, RE K ad H σ ρ ∧ RS K ad H st ∧ PostD K ad H Q (g ρ st)
def TB (K : PySem.W.Frag) (g : GT) : TT := fun σ H Q => ∃ ad ρ st, RE K ad H σ ρ ∧ RS K ad H st ∧ PostB K ad H Q (g ρ st)
def TAs (K : PySem.W.Frag) (g : GA) : TA := fun σ H Q => ∃ ad ρ st, RE K ad H σ ρ ∧ RS K ad H st ∧ PostA K ad H Q (g ρ st)
def TL (K : PySem.W.Frag) (g : GA) : TE := fun σ H Q => ∃ ad ρ st, RE K ad H σ ρ ∧ RS K ad H st ∧ PostL K ad H Q (g ρ st)
def TOp (K : PySem.W.Frag) (g : Env → M (Option Int)) : TO := fun σ H Q => ∃ ad ρ st, RE K ad H σ ρ ∧ RS K ad H st ∧ PostO K ad H Q (g ρ st)
def TS' (K : PySem.W.Frag) (g : GS) : TS := fun E σ H => ∃ ad ρ st, RE K ad H σ ρ ∧ RS K ad H st ∧ PostS K ad H E (g ρ st)
def TIt (K : PySem.W.Frag) (g : GI) : TI := fun σ H R => ∃ ad ρ st, RE K ad H σ ρ ∧ RS K ad H st ∧ PostI K ad H R (g ρ st)
def TGt (K : PySem.W.Frag) (is : List Nat) (g : GG) : TG := fun v σ H Q => ∃ ad d ρ st, RV K ad H v d ∧ RE K ad H σ ρ ∧ RS K ad H st ∧ PostG K ad H σ is Q (g d ρ st)
def TGts (K : PySem.W.Frag) (is : List Nat) (g : GGs) : TGs := fun vs σ H Q => ∃ ad ds ρ st, RVs K ad H vs ds ∧ RE K ad H σ ρ ∧ RS K ad H st ∧ PostG K ad H σ is Q (g ds ρ st)
section
variable {X : Cx}
theorem PE.of {e : Expr} {t t' : TE} (h : PE X e t) (i : ∀ σ H Q, t' σ H Q → t σ H Q) : PE X e t' := ⟨fun pins s σ H Q I hw => h.run pins s σ H Q I (i σ H Q hw)⟩
theorem PT.of {e : Expr} {t t' : TT} (h : PT X e t) (i : ∀ σ H Q, t' σ H Q → t σ H Q) : PT X e t' := ⟨fun pins s σ H Q I hw => h.run pins s σ H Q I (i σ H Q hw)⟩
theorem PW.of {e : Expr} {t t' : TT} (h : PW X e t) (i : ∀ σ H Q, t' σ H Q → t σ H Q) : PW X e t' := ⟨fun wh pins s σ H Q I hw => h.run wh pins s σ H Q I (i σ H Q hw)⟩
theorem PA.of {e : List Expr} {t t' : TA} (h : PA X e t) (i : ∀ σ H Q, t' σ H Q → t σ H Q) : PA X e t' := ⟨fun pos pins s σ H Q I hw => h.run pos pins s σ H Q I (i σ H Q hw)⟩
theorem PS.of {e : Stmt} {t t' : TS} (h : PS X e t) (i : ∀ D σ H, t' D σ H → t D σ H) : PS X e t' := ⟨fun pins s σ H D I hw => h.run pins s σ H D I (i D σ H hw)⟩
theorem PSs.of {e : List Stmt} {t t' : TS} (h : PSs X e t) (i : ∀ D σ H, t' D σ H → t D σ H) : PSs X e t' := ⟨fun pins s σ H D I hw => h.run pins s σ H D I (i D σ H hw)⟩
theorem PI.of {tg e : Expr} {t t' : TI} (h : PI X tg e t) (i : ∀ σ H R, t' σ H R → t σ H R) : PI X tg e t' := ⟨fun pins s σ H R I hw => h.run pins s σ H R I (i σ H R hw)⟩
theorem PG.of {e : Expr} {t t' : TG} (h : PG X e t) (i : ∀ v σ H Q, t' v σ H Q → t v σ H Q) : PG X e t' := ⟨fun pins s σ H v u Q I r hw => h.run pins s σ H v u Q I r (i v σ H Q hw)⟩
theorem PGs.of {e : List Expr} {t t' : TGs} (h : PGs X e t) (i : ∀ v σ H Q, t' v σ H Q → t v σ H Q) : PGs X e t' := ⟨fun pins s σ H v u Q I r hw => h.run pins s σ H v u Q I r (i v σ H Q hw)⟩
theorem PO.of {e : Option Expr} {t t' : TO} (h : PO X e t) (i : ∀ σ H Q, t' σ H Q → t σ H Q) : PO X e t' := ⟨fun pins s σ H Q I hw => h.run pins s σ H Q I (i σ H Q hw)⟩
end
/-- a step that does not get stuck -/
theorem ok_of {α β : Type} {m : M α} {f : α → M β} {st : Store} {P : Res β → Prop} (hs : P .stuck → False) (he : ∀ c a s, P (.exc c a s) → False) (h : P (andThen m f st)) : ∃ a st', m st = .ok a st' ∧ P (f a st') := by
  unfold andThen at h
  cases q : m st with
  | ok a s => rw [q] at h; exact ⟨a, s, rfl, h⟩
  | stuck => rw [q] at h; exact (hs h).elim
  | exc c a s => rw [q] at h; exact (he c a s h).elim
section
variable {K : PySem.W.Frag} {ad : List Addr} {H : Hp} {α : Type} {m : M α} {st : Store}
theorem PostD.bind {f : α → M D} {Q : VK} (h : PostD K ad H Q (andThen m f st)) : ∃ a st', m st = .ok a st' ∧ PostD K ad H Q (f a st') := ok_of (P := PostD K ad H Q) id (fun _ _ _ => id) h
theorem PostB.bind {f : α → M Bool} {Q : Bool → Hp → Prop} (h : PostB K ad H Q (andThen m f st)) : ∃ a st', m st = .ok a st' ∧ PostB K ad H Q (f a st') := ok_of (P := PostB K ad H Q) id (fun _ _ _ => id) h
theorem PostA.bind {f : α → M (List D)} {Q : List V → Hp → Prop} (h : PostA K ad H Q (andThen m f st)) : ∃ a st', m st = .ok a st' ∧ PostA K ad H Q (f a st') := ok_of (P := PostA K ad H Q) id (fun _ _ _ => id) h
theorem PostL.bind {f : α → M (List D)} {Q : VK} (h : PostL K ad H Q (andThen m f st)) : ∃ a st', m st = .ok a st' ∧ PostL K ad H Q (f a st') := ok_of (P := PostL K ad H Q) id (fun _ _ _ => id) h
theorem PostO.bind {f : α → M (Option Int)} {Q : Option Int → Hp → Prop} (h : PostO K ad H Q (andThen m f st)) : ∃ a st', m st = .ok a st' ∧ PostO K ad H Q (f a st') := ok_of (P := PostO K ad H Q) id (fun _ _ _ => id) h
theorem PostI.bind {f : α → M Walk} {Q : It → Hp → Prop} (h : PostI K ad H Q (andThen m f st)) : ∃ a st', m st = .ok a st' ∧ PostI K ad H Q (f a st') := ok_of (P := PostI K ad H Q) id (fun _ _ _ => id) h
theorem PostS.bind {f : α → M Fl} {Q : Ends} (h : PostS K ad H Q (andThen m f st)) : ∃ a st', m st = .ok a st' ∧ PostS K ad H Q (f a st') := ok_of (P := PostS K ad H Q) id (fun _ _ _ => id) h
theorem PostG.bind {f : α → M Env} {σ : L2.St} {is : List Nat} {Q : L2.St → Hp → Prop} (h : PostG K ad H σ is Q (andThen m f st)) : ∃ a st', m st = .ok a st' ∧ PostG K ad H σ is Q (f a st') := ok_of (P := PostG K ad H σ is Q) id (fun _ _ _ => id) h
end
end DL
namespace DL
open PySem L2
section
variable {X : Cx} {K : PySem.W.Frag} {ad : List Addr} {H : Hp} {st : Store}
theorem SZ_line {n : Nat} (h : n ≤ SZ) : n ≤ sizeLine := by rw [sizeLine_eq]; exact h
theorem SZ_lt {n : Nat} (h : n < SZ) : n < sizeLine := by rw [sizeLine_eq]; exact h
/-! ### names, constants -/
theorem d_var (i : Nat) {x : Str} {pos : Pos} (hN : X.N[i]? = some x := by rfl) (hv : Vis X.env.scope x := by first | exact Or.inl rfl | exact Or.inr (Or.inl rfl) | exact Or.inr (Or.inr rfl)) (hd : (x == ("__debug__" : Str)) = false := by decide)
    (hcd : (x == ("__classdict__" : Str)) = false := by decide) : PE X (.Name x pos) (TD X.K (gVar i)) := by
  refine PE.of (pe_var hN hv hd hcd) fun σ H Q ⟨ad, ρ, st, R, S, h⟩ => ?_
  unfold gVar at h
  cases e : ρ[i]? with
  | none => rw [e] at h; exact h.elim
  | some o =>
    cases o with
    | none => rw [e] at h; exact h.elim
    | some d =>
      rw [e] at h
      obtain ⟨v, h1, h2⟩ := R.2 i d e
      exact ⟨v, h1, h ad H v Ext.refl h2 S⟩
theorem d_c {e : Expr} {v : V} {d : D} (h : PE X e (tC v)) (r : ∀ ad H, RV X.K ad H v d) : PE X e (TD X.K (gC d)) :=
  PE.of h fun σ H Q ⟨ad, ρ, st, R, S, h⟩ => h ad H v Ext.refl (r ad H) S
theorem d_int {i j pos} : PE X (.Constant (.int i) j pos) (TD X.K (gC (.int i))) := d_c pe_int fun _ _ => .int _
theorem d_bl {b j pos} : PE X (.Constant (.bool b) j pos) (TD X.K (gC (.bl b))) := d_c pe_bl fun _ _ => .bl _
theorem d_non {j pos} : PE X (.Constant .none j pos) (TD X.K (gC .non)) := d_c pe_non fun _ _ => .non
theorem d_str {x j pos} : PE X (.Constant (.str x) j pos) (TD X.K (gC (.str x))) := d_c pe_str fun _ _ => .str _
/-- a constant of the module -/
theorem d_glob {x : Str} {v : V} {u : Value} {d : D} {pos : Pos} (hm : X.mg x = some u) (r : RelV v u) (rd : ∀ ad H, RV X.K ad H v d) (hg : Gl X x := by rfl) (hd : (x == ("__debug__" : Str)) = false := by decide) : PE X (.Name x pos) (TD X.K (gC d)) :=
  d_c (pe_glob hg hm r hd) rd
/-! ### operators -/
def Snd2 (K : PySem.W.Frag) (r : R2) (h : O2) : Prop :=
  ∀ (ad : List Addr) (H : Hp) (st : Store) (x y : V) (d e : D) (Q : VK), RV K ad H x d → RV K ad H y e → RS K ad H st → PostD K ad H Q (h d e st) → r x y H Q
def Snd1 (K : PySem.W.Frag) (r : V → Hp → VK → Prop) (h : D → M D) : Prop :=
  ∀ (ad : List Addr) (H : Hp) (st : Store) (x : V) (d : D) (Q : VK), RV K ad H x d → RS K ad H st → PostD K ad H Q (h d st) → r x H Q
theorem run2 {r : R2} {h : O2} {ga gb : GE} (s : Snd2 K r h) {σ : L2.St} {Q : VK} (w : TD K (gOp h ga gb) σ H Q) : tOp r (TD K ga) (TD K gb) σ H Q := by
  obtain ⟨ad, ρ, st, R, S, w⟩ := w
  obtain ⟨d, s1, e1, w⟩ := w.bind
  refine ⟨ad, ρ, st, R, S, ?_⟩
  rw [e1]
  refine fun ad1 H1 x x1 r1 S1 => ⟨ad1, ρ, s1, R.mono x1, S1, ?_⟩
  obtain ⟨e, s2, e2, w⟩ := w.bind
  rw [e2]
  exact fun ad2 H2 y x2 r2 S2 => s ad2 H2 s2 x y d e Q (r1.mono x2) r2 S2 (w.shift (x1.trans x2))
theorem run1 {r : V → Hp → VK → Prop} {h : D → M D} {ga : GE} (s : Snd1 K r h) {σ : L2.St} {Q : VK} (w : TD K (gUn h ga) σ H Q) : TD K ga σ H fun x H1 => r x H1 Q := by
  obtain ⟨ad, ρ, st, R, S, w⟩ := w
  obtain ⟨d, s1, e1, w⟩ := w.bind
  refine ⟨ad, ρ, st, R, S, ?_⟩
  rw [e1]
  exact fun ad1 H1 x x1 r1 S1 => s ad1 H1 s1 x d Q r1 S1 (w.shift x1)
variable {a b c : Expr} {ga gb gc : GE} {pos : Pos}
theorem d_op {op : Operator} {r : R2} {h : O2} (ho : OpR X (binaryOp op) r) (s : Snd2 X.K r h) (ha : PE X a (TD X.K ga)) (hb : PE X b (TD X.K gb)) : PE X (.BinOp a op b pos) (TD X.K (gOp h ga gb)) :=
  PE.of (pe_op ho ha hb) fun σ H Q w => run2 s w
theorem d_cmp {op : CmpOp} {r : R2} {h : O2} (ho : OpR X (compareOp op) r) (s : Snd2 X.K r h) (ha : PE X a (TD X.K ga)) (hb : PE X b (TD X.K gb)) (hm : behindInMarks op b = false := by first | exact nomark _ | rfl) : PE X (.Compare a [op] [b] pos) (TD X.K (gOp h ga gb)) :=
  PE.of (pe_cmpR ho ha hb hm) fun σ H Q w => run2 s w
theorem tB_run {g : GE} {σ : L2.St} {Q : Bool → Hp → Prop} (w : TB K (tB g) σ H Q) : TD K g σ H fun x H' => ∃ k, x = .bl k ∧ Q k H' := by
  obtain ⟨ad, ρ, st, R, S, w⟩ := w
  obtain ⟨d, s1, e1, w⟩ := w.bind
  refine ⟨ad, ρ, st, R, S, ?_⟩
  rw [e1]
  refine fun ad1 H1 x x1 r1 S1 => ?_
  cases d with
  | bl k => cases r1; exact ⟨k, rfl, w ad1 H1 x1 S1⟩
  | _ => exact w.elim
theorem d_tcmp {op : CmpOp} {r : R2} {h : O2} (ho : OpR X (compareOp op) r) (s : Snd2 X.K r h) (ha : PE X a (TD X.K ga)) (hb : PE X b (TD X.K gb)) (hm : behindInMarks op b = false := by first | exact nomark _ | rfl) : PT X (.Compare a [op] [b] pos) (TB X.K (tB (gOp h ga gb))) :=
  PT.of (pt_cmpR ho ha hb hm) fun σ H Q w => by
    obtain ⟨ad, ρ, st, R, S, w⟩ := tB_run w
    exact run2 s ⟨ad, ρ, st, R, S, w⟩
theorem d_tval {e : Expr} {g : GE} (h : PE X e (TD X.K g)) (he : ∀ whole, isTrue e X.env whole = (do let v ← whole; standAt e.pos; holding [v] (truthy v)) := by intro _; rfl) : PT X e (TB X.K (tB g)) :=
  PT.of (pt_val h he) fun σ H Q w => tB_run w
theorem run_chain {r r' : R2} {h h' : O2} (s : Snd2 K r h) (s' : Snd2 K r' h') {σ : L2.St} {Q : VK} (ww : TD K (gChain h h' ga gb gc) σ H Q) : tChain r r' (TD K ga) (TD K gb) (TD K gc) σ H Q := by
  obtain ⟨ad, ρ, st, R, S, w⟩ := ww
  obtain ⟨d, s1, e1, w⟩ := w.bind
  refine ⟨ad, ρ, st, R, S, ?_⟩
  rw [e1]
  refine fun ad1 H1 x x1 r1 S1 => ⟨ad1, ρ, s1, R.mono x1, S1, ?_⟩
  obtain ⟨e, s2, e2, w⟩ := w.bind
  rw [e2]
  refine fun ad2 H2 y x2 r2 S2 => ?_
  obtain ⟨z, s3, e3, w⟩ := w.bind
  refine s ad2 H2 s2 x y d e _ (r1.mono x2) r2 S2 ?_
  rw [e3]
  refine fun ad3 H3 zv x3 r3 S3 => ?_
  obtain ⟨k, s4, e4, w⟩ := w.bind
  cases z with
  | bl kk =>
    cases r3
    have ek : kk = k ∧ s3 = s4 := by
      have q : Res.ok kk s3 = Res.ok k s4 := e4
      injection q with q1 q2
      exact ⟨q1, q2⟩
    obtain ⟨rfl, rfl⟩ := ek
    refine ⟨kk, rfl, ?_⟩
    cases kk with
    | false => exact w ad3 H3 _ ((x1.trans x2).trans x3) (.bl _) S3
    | true =>
      obtain ⟨v, s5, e5, w⟩ := PostD.bind (m := gc ρ) w
      refine ⟨ad3, ρ, s3, R.mono ((x1.trans x2).trans x3), S3, ?_⟩
      rw [e5]
      exact fun ad4 H4 vv x4 r4 S4 => s' ad4 H4 s5 y vv e v Q ((r2.mono x3).mono x4) r4 S4 (w.shift (((x1.trans x2).trans x3).trans x4))
  | _ => cases e4
theorem d_chain {op op' : CmpOp} {r r' : R2} {h h' : O2} (ho : OpR X (compareOp op) r) (s : Snd2 X.K r h) (ho' : OpR X (compareOp op') r') (s' : Snd2 X.K r' h') (ha : PE X a (TD X.K ga)) (hb : PE X b (TD X.K gb)) (hc : PE X c (TD X.K gc))
    (hm : lastMarks [op, op'] [b, c] = false := by with_unfolding_all rfl) : PE X (.Compare a [op, op'] [b, c] pos) (TD X.K (gChain h h' ga gb gc)) :=
  PE.of (pe_chain ho ho' ha hb hc hm) fun σ H Q w => run_chain s s' w
theorem d_tchain {op op' : CmpOp} {r r' : R2} {h h' : O2} (ho : OpR X (compareOp op) r) (s : Snd2 X.K r h) (ho' : OpR X (compareOp op') r') (s' : Snd2 X.K r' h') (ha : PE X a (TD X.K ga)) (hb : PE X b (TD X.K gb)) (hc : PE X c (TD X.K gc))
    (hm : lastMarks [op, op'] [b, c] = false := by with_unfolding_all rfl) : PT X (.Compare a [op, op'] [b, c] pos) (TB X.K (tB (gChain h h' ga gb gc))) :=
  PT.of (pt_chain ho ho' ha hb hc hm) fun σ H Q w => run_chain s s' (tB_run w)
theorem d_un {op : UnaryOp} {r : V → Hp → VK → Prop} {h : D → M D} (ho : UnR X (unaryOp op) r) (s : Snd1 X.K r h) (ha : PE X a (TD X.K ga)) : PE X (.UnaryOp op a pos) (TD X.K (gUn h ga)) :=
  PE.of (pe_un ho ha) fun σ H Q w => run1 s w
/-! ### the values' rules -/
theorem sI0 {f : Int → Int → V} {g : Int → Int → D} {h : O2} (hr : ∀ i j ad H, RV K ad H (f i j) (g i j)) (hh : ∀ d e st, (∃ i j, d = .int i ∧ e = .int j ∧ h d e st = .ok (g i j) st) ∨ h d e st = .stuck) : Snd2 K (rI0 f) h := by
  intro ad H st x y d e Q rx ry S w
  rcases hh d e st with ⟨i, j, rfl, rfl, q⟩ | q
  · rw [q] at w
    cases rx; cases ry
    exact ⟨i, j, rfl, rfl, w ad H _ Ext.refl (hr i j ad H) S⟩
  · rw [q] at w; exact w.elim
theorem s_sub : Snd2 K (rI0 fun i j => .int (i - j)) vSub := sI0 (g := fun i j => .int (i - j)) (fun _ _ _ _ => .int _) fun d e st => by
  cases d <;> cases e <;> first | exact .inl ⟨_, _, rfl, rfl, rfl⟩ | exact .inr rfl
theorem s_cmp {f : Int → Int → Bool} : Snd2 K (rI0 fun i j => .bl (f i j)) (vCmp f) := sI0 (g := fun i j => .bl (f i j)) (fun _ _ _ _ => .bl _) fun d e st => by
  cases d <;> cases e <;> first | exact .inl ⟨_, _, rfl, rfl, rfl⟩ | exact .inr rfl
theorem s_lt : Snd2 K (rI0 fun i j => .bl (decide (i < j))) vLt := s_cmp
theorem s_le : Snd2 K (rI0 fun i j => .bl (decide (i ≤ j))) vLe := s_cmp
theorem s_gt : Snd2 K (rI0 fun i j => .bl (decide (j < i))) vGt := s_cmp
theorem s_ge : Snd2 K (rI0 fun i j => .bl (decide (j ≤ i))) vGe := s_cmp
theorem sI {C : Int → Int → Prop} {f : Int → Int → V} {g : Int → Int → D} {h : O2} (hr : ∀ i j ad H, RV K ad H (f i j) (g i j)) (hh : ∀ d e st, (∃ i j, d = .int i ∧ e = .int j ∧ C i j ∧ h d e st = .ok (g i j) st) ∨ h d e st = .stuck) : Snd2 K (rI C f) h := by
  intro ad H st x y d e Q rx ry S w
  rcases hh d e st with ⟨i, j, rfl, rfl, c, q⟩ | q
  · rw [q] at w
    cases rx; cases ry
    exact ⟨i, j, rfl, rfl, c, w ad H _ Ext.refl (hr i j ad H) S⟩
  · rw [q] at w; exact w.elim
def CMulA (i j : Int) : Prop := CMul i j ∨ CMulW i j
theorem op_mulA : OpR X (binaryOp .Mult) (rI CMulA fun i j => .int (i * j)) := opI fun _ _ _ _ _ _ _ hc q => PyProof.Rows.mul_int q (hc.elim CMul.ok CMulW.ok)
theorem mulOk_A {i j : Int} (h : mulOk i j = true) : CMulA i j := by
  unfold mulOk at h
  simp only [Bool.or_eq_true, Bool.and_eq_true, decide_eq_true_eq] at h
  rcases h with (h | h) | ⟨h1, h2⟩
  · exact .inl (.inl (by omega))
  · exact .inl (.inr (by omega))
  · exact .inr (wide_mul (a := 400) (b := 400) h1 h2 (by decide) (by decide) (by decide))
theorem s_mul : Snd2 K (rI CMulA fun i j => .int (i * j)) vMul := sI (g := fun i j => .int (i * j)) (fun _ _ _ _ => .int _) fun d e st => by
  cases d <;> cases e <;> try exact .inr rfl
  rename_i i j
  by_cases h : mulOk i j = true
  · exact .inl ⟨i, j, rfl, rfl, mulOk_A h, by simp only [vMul, if_pos h]; rfl⟩
  · exact .inr (by simp only [vMul, if_neg h]; rfl)
theorem s_div : Snd2 K (rI CDivW fun i j => .int (i / j)) vDiv := sI (g := fun i j => .int (i / j)) (fun _ _ _ _ => .int _) fun d e st => by
  cases d <;> cases e <;> try exact .inr rfl
  rename_i i j
  by_cases h : 0 < j ∧ j.natAbs < 2 ^ 400
  · exact .inl ⟨i, j, rfl, rfl, wide_div h.1 h.2 (by decide) (by decide), by simp only [vDiv, if_pos h]; rfl⟩
  · exact .inr (by simp only [vDiv, if_neg h]; rfl)
theorem s_mod : Snd2 K (rI (fun _ j => 0 < j) fun i j => .int (i % j)) vMod := sI (g := fun i j => .int (i % j)) (fun _ _ _ _ => .int _) fun d e st => by
  cases d <;> cases e <;> try exact .inr rfl
  rename_i i j
  by_cases h : 0 < j
  · exact .inl ⟨i, j, rfl, rfl, h, by simp only [vMod, if_pos h]; rfl⟩
  · exact .inr (by simp only [vMod, if_neg h]; rfl)
theorem s_shr : Snd2 K (rI (fun _ j => 0 ≤ j) fun i j => .int (i / 2 ^ j.toNat)) vShr := sI (g := fun i j => .int (i / 2 ^ j.toNat)) (fun _ _ _ _ => .int _) fun d e st => by
  cases d <;> cases e <;> try exact .inr rfl
  rename_i i j
  by_cases h : 0 ≤ j
  · exact .inl ⟨i, j, rfl, rfl, h, by simp only [vShr, if_pos h]; rfl⟩
  · exact .inr (by simp only [vShr, if_neg h]; rfl)
theorem s_neg : Snd1 K (rU fun i => .int (-i)) vNeg := by
  intro ad H st x d Q rx S w
  cases rx <;> first | exact ⟨_, rfl, w ad H _ Ext.refl (.int _) S⟩ | exact w.elim
/-- + -/
def rAddA (K : PySem.W.Frag) : R2 := fun x y H Q => (((rI0 fun i j => .int (i + j)) x y H Q ∨ (∃ i j, x = .str i ∧ y = .str j ∧ i.length + j.length ≤ sizeLine ∧ Q (.str (i ++ j)) H)) ∨ rCatA K x y H Q) ∨ rCat x y H Q
theorem op_addA : OpR X (binaryOp .Add) (rAddA X.K) := ((op_add.or op_add_str).or op_catA).or op_cat
/-- a new tuple, told by its items -/
theorem PostD.newTup {Q : VK} {ds : List D} {xs : List V} (S : RS K ad H st) (r : RVs K ad H xs ds) (w : PostD K ad H Q (.ok (.tup ds) st)) : ∀ p, H p = none → Q (.ref p) (upd H p (.tup xs)) := fun p hp =>
  w ad _ (.ref p) (ext_new hp) (.tup (.inl (.inl upd_same)) (r.mono (ext_new hp))) (S.upd_new hp)
theorem PostD.newLst {Q : VK} {ds : List D} {xs : List V} (S : RS K ad H st) (r : RVs K ad H xs ds) (w : PostD K ad H Q (newList ds st)) : ∀ p, H p = none → Q (.ref p) (upd H p (.lst xs)) := fun p hp => by
  have S1 := S.upd_new (o := .lst xs) hp
  have e1 : Ext K ad H ad (upd H p (.lst xs)) := ext_new hp
  refine w (ad ++ [p]) _ (.ref p) (e1.push hp S) (.rf ?_) (S1.push upd_same (S.not_mem hp) (r.mono e1))
  rw [← S.len]
  simp
theorem s_add : Snd2 K (rAddA K) vAdd := by
  intro ad H st x y d e Q rx ry S w
  cases rx with
  | int i =>
    cases ry with
    | int j => exact .inl (.inl (.inl ⟨i, j, rfl, rfl, w ad H _ Ext.refl (.int _) S⟩))
    | _ => exact w.elim
  | str i =>
    cases ry with
    | str j =>
      by_cases h : i.length + j.length ≤ SZ
      · have w' : PostD K ad H Q (.ok (.str (i ++ j)) st) := by
          have q := w; simp only [vAdd, if_pos h] at q; exact q
        exact .inl (.inl (.inr ⟨i, j, rfl, rfl, SZ_line h, w' ad H _ Ext.refl (.str _) S⟩))
      · have : False := by have q := w; simp only [vAdd, if_neg h] at q; exact q
        exact this.elim
    | _ => exact w.elim
  | @tup a xs ds h1 r1 =>
    cases ry with
    | @tup b ys es h2 r2 =>
      by_cases h : ds.length + es.length ≤ SZ
      · have w' : PostD K ad H Q (.ok (.tup (ds ++ es)) st) := by
          have q := w; simp only [vAdd, if_pos h] at q; exact q
        refine .inl (.inr ⟨a, b, xs, ys, rfl, rfl, h1, h2, by rw [r1.length, r2.length]; exact SZ_line h, fun hx => ?_, fun hx hy => ?_, fun hx hy => w'.newTup S (r1.append r2)⟩)
        · subst hx
          cases r1
          exact w' ad H _ Ext.refl (.tup h2 r2) S
        · subst hy
          cases r2
          rw [List.append_nil] at w'
          exact w' ad H _ Ext.refl (.tup h1 r1) S
      · have : False := by have q := w; simp only [vAdd, if_neg h] at q; exact q
        exact this.elim
    | _ => exact w.elim
  | @rf n a h1 =>
    cases ry with
    | @rf m b h2 =>
      unfold vAdd at w
      cases e1 : st[n]? with
      | none => simp only [e1] at w; exact w.elim
      | some c1 =>
        cases e2 : st[m]? with
        | none => simp only [e1, e2] at w; cases c1 <;> exact w.elim
        | some c2 =>
          cases c1 with
          | lst ds =>
            cases c2 with
            | lst es =>
              simp only [e1, e2] at w
              by_cases h : ds.length + es.length ≤ SZ
              · rw [if_pos h] at w
                obtain ⟨xs, q1, r1⟩ := S.cell n _ a e1 h1
                obtain ⟨ys, q2, r2⟩ := S.cell m _ b e2 h2
                exact .inr ⟨a, b, xs, ys, rfl, rfl, q1, q2, by rw [r1.length, r2.length]; exact SZ_line h, PostD.newLst S (r1.append r2) w⟩
              · rw [if_neg h] at w; exact w.elim
    | _ => exact w.elim
  | _ => exact w.elim
end
end DL
namespace DL
open PySem L2
section
variable {X : Cx} {K : PySem.W.Frag} {ad : List Addr} {H : Hp} {st : Store}
/-! ### == of data -/
theorem dpAll_of {g : D → Option PyData} (ih : ∀ (v : V) (d : D) (p : PyData), RV K ad H v d → g d = some p → Dp K H v p) : ∀ {vs : List V} {ds : List D} {ps : List PyData}, RVs K ad H vs ds → optAll (ds.map g) = some ps → DpAll K H vs ps
  | _, _, _, .nil, e => by
    have : ([] : List PyData) = _ := Option.some.inj e
    subst this
    exact .nil
  | _, _, ps, .cons (d := d) (ds := ds) h t, e => by
    rw [List.map_cons] at e
    cases q : g d with
    | none => rw [q] at e; cases e
    | some p =>
      rw [q] at e
      have e' : (optAll (ds.map g)).map (p :: ·) = some ps := e
      cases q2 : optAll (ds.map g) with
      | none => rw [q2] at e'; cases e'
      | some qs =>
        rw [q2] at e'
        have : p :: qs = ps := Option.some.inj e'
        subst this
        exact .cons (ih _ _ _ h q) (dpAll_of ih t q2)
theorem dp_of (S : RS K ad H st) : ∀ (f : Nat) (v : V) (d : D) (p : PyData), RV K ad H v d → toPy f st d = some p → Dp K H v p
  | 0, _, _, _, _, e => by cases e
  | f + 1, v, d, p, r, e => by
    cases r with
    | non => cases e; exact .non
    | bl b => cases e; exact .bl b
    | int i => cases e; exact .int i
    | str x => cases e; exact .str x
    | tup h rs =>
      rename_i a xs ds
      have e' : (optAll (ds.map (toPy f st))).map PyData.tuple = some p := e
      cases q : optAll (ds.map (toPy f st)) with
      | none => rw [q] at e'; cases e'
      | some ps =>
        rw [q] at e'
        have : PyData.tuple ps = p := Option.some.inj e'
        subst this
        exact .tup h (dpAll_of (fun v d p => dp_of S f v d p) rs q)
    | cl h rs => cases e
    | rf h =>
      rename_i n a
      have e' : ((cellItems st n).bind fun ds => (optAll (ds.map (toPy f st))).map .list) = some p := e
      cases q : cellItems st n with
      | none => rw [q] at e'; cases e'
      | some ds =>
        rw [q] at e'
        obtain ⟨xs, hl, rs⟩ := S.items q h
        have e'' : (optAll (ds.map (toPy f st))).map PyData.list = some p := e'
        cases q2 : optAll (ds.map (toPy f st)) with
        | none => rw [q2] at e''; cases e''
        | some ps =>
          rw [q2] at e''
          have : PyData.list ps = p := Option.some.inj e''
          subst this
          exact .lst hl (dpAll_of (fun v d p => dp_of S f v d p) rs q2)
theorem eqPy_dp {x y : V} {d e : D} {k : Bool} (S : RS K ad H st) (rx : RV K ad H x d) (ry : RV K ad H y e) (h : eqPy d e st = some k) :
    ∃ p q, Dp K H x p ∧ Dp K H y q ∧ SeqAt.shaped p = true ∧ SeqAt.shaped q = true ∧ PyData.eqv p q = k := by
  unfold eqPy at h
  cases e1 : toPy DEEP st d with
  | none => rw [e1] at h; cases h
  | some p =>
    cases e2 : toPy DEEP st e with
    | none => rw [e1, e2] at h; cases h
    | some q =>
      rw [e1, e2] at h
      have h' : (if (SeqAt.shaped p && SeqAt.shaped q) = true then some (PyData.eqv p q) else none) = some k := h
      by_cases c : (SeqAt.shaped p && SeqAt.shaped q) = true
      · rw [if_pos c] at h'
        rw [Bool.and_eq_true] at c
        exact ⟨p, q, dp_of S _ _ _ _ rx e1, dp_of S _ _ _ _ ry e2, c.1, c.2, Option.some.inj h'⟩
      · rw [if_neg c] at h'; cases h'
theorem s_eq : Snd2 K (rEqD K) vEq := by
  intro ad H st x y d e Q rx ry S w
  unfold vEq at w
  cases q : eqPy d e st with
  | none => simp only [q] at w; exact w.elim
  | some k =>
    simp only [q] at w
    obtain ⟨p, p', h1, h2, h3, h4, h5⟩ := eqPy_dp S rx ry q
    exact ⟨p, p', h1, h2, h3, h4, by rw [h5]; exact w ad H _ Ext.refl (.bl _) S⟩
theorem s_ne : Snd2 K (rNeD K) vNe := by
  intro ad H st x y d e Q rx ry S w
  unfold vNe at w
  cases q : eqPy d e st with
  | none => simp only [q] at w; exact w.elim
  | some k =>
    simp only [q] at w
    obtain ⟨p, p', h1, h2, h3, h4, h5⟩ := eqPy_dp S rx ry q
    exact ⟨p, p', h1, h2, h3, h4, by rw [h5]; exact w ad H _ Ext.refl (.bl _) S⟩
/-! ### is -/
def rIsA : R2 := fun x y H Q => (y = .non ∧ Q (.bl (decide (x = .non))) H) ∨ rIsB x y H Q
def rIsNotA : R2 := fun x y H Q => (y = .non ∧ Q (.bl (!decide (x = .non))) H) ∨ rNotB x y H Q
theorem op_isA : OpR X (compareOp .Is) rIsA := op_isN.or op_isBl
theorem op_isNotA : OpR X (compareOp .IsNot) rIsNotA := op_notN.or op_notBl
theorem s_is : Snd2 K rIsA vIs := by
  intro ad H st x y d e Q rx ry S w
  cases ry with
  | non =>
    refine .inl ⟨rfl, ?_⟩
    cases rx <;> exact w ad H _ Ext.refl (.bl _) S
  | bl b =>
    cases rx with
    | bl a =>
      refine .inr ⟨a, b, rfl, rfl, ?_⟩
      have q := w ad H _ Ext.refl (.bl _) S
      rw [Bool.beq_eq_decide_eq] at q
      exact q
    | _ => exact w.elim
  | _ => cases rx <;> exact w.elim
theorem s_isNot : Snd2 K rIsNotA vIsNot := by
  intro ad H st x y d e Q rx ry S w
  cases ry with
  | non =>
    refine .inl ⟨rfl, ?_⟩
    cases rx <;> exact w ad H _ Ext.refl (.bl _) S
  | bl b =>
    cases rx with
    | bl a =>
      refine .inr ⟨a, b, rfl, rfl, ?_⟩
      have q := w ad H _ Ext.refl (.bl _) S
      rw [Bool.beq_eq_decide_eq] at q
      exact q
    | _ => exact w.elim
  | _ => cases rx <;> exact w.elim
/-! ### in -/
def rInA (K : PySem.W.Frag) : R2 := fun x y H Q => rIn K false x y H Q ∨ rInD K x y H Q
def rNotInA (K : PySem.W.Frag) : R2 := fun x y H Q => rIn K true x y H Q ∨ rNotInD K x y H Q
theorem op_inA (hu : X.A.units + 65 < cLine) : OpR X (compareOp .In) (rInA X.K) := op_in_seq.or (op_inD hu)
theorem op_notInA (hu : X.A.units + 65 < cLine) : OpR X (compareOp .NotIn) (rNotInA X.K) := op_notIn_seq.or (op_notInD hu)
theorem inB_of {x y : V} {d e : D} {k : Bool} (S : RS K ad H st) (rx : RV K ad H x d) (ry : RV K ad H y e) (h : inB d e st = some k) :
    (∃ p xs, y = .ref p ∧ (SqL K H p xs ∨ SqT K H p xs) ∧ flatV x = true ∧ xs.all flatV = true ∧ inV x xs = k) ∨
    ∃ p qs, Dp K H x p ∧ Dp K H y (.list qs) ∧ SeqAt.shaped p = true ∧ SeqAt.shaped (.list qs) = true ∧ (qs.any fun z => PyData.eqv z p) = k := by
  cases ry with
  | tup h2 r2 =>
    rename_i b ys es
    have h' : (if (flat d && es.all flat) = true then some (es.any fun z => eqF z d) else none) = some k := h
    by_cases c : (flat d && es.all flat) = true
    · rw [if_pos c] at h'
      rw [Bool.and_eq_true] at c
      exact .inl ⟨b, ys, rfl, .inr h2, flat_of rx c.1, r2.flat_all c.2, (any_of rx c.1 r2 c.2).trans (Option.some.inj h')⟩
    · rw [if_neg c] at h'; cases h'
  | rf h2 =>
    rename_i n b
    unfold inB at h
    simp only at h
    cases e1 : toPy DEEP st d with
    | none => simp only [e1] at h; cases h
    | some p =>
      cases e2 : toPy DEEP st (.rf n) with
      | none => simp only [e1, e2] at h; cases h
      | some q =>
        cases q with
        | list qs =>
          simp only [e1, e2] at h
          by_cases c : (SeqAt.shaped p && SeqAt.shaped (.list qs)) = true
          · rw [if_pos c] at h
            rw [Bool.and_eq_true] at c
            exact .inr ⟨p, qs, dp_of S _ _ _ _ rx e1, dp_of S _ _ _ _ (.rf h2) e2, c.1, c.2, Option.some.inj h⟩
          · rw [if_neg c] at h; cases h
        | _ => simp only [e1, e2] at h; cases h
  | _ => cases h
theorem s_in : Snd2 K (rInA K) vIn := by
  intro ad H st x y d e Q rx ry S w
  unfold vIn at w
  cases q : inB d e st with
  | none => simp only [q] at w; exact w.elim
  | some k =>
    simp only [q] at w
    have fin := w ad H _ Ext.refl (.bl k) S
    rcases inB_of S rx ry q with ⟨p, xs, h1, h2, h3, h4, h5⟩ | ⟨p, qs, h1, h2, h3, h4, h5⟩
    · exact .inl ⟨p, xs, h1, h2, h3, h4, by rw [if_neg Bool.false_ne_true, h5]; exact fin⟩
    · exact .inr ⟨p, qs, h1, h2, h3, h4, by rw [h5]; exact fin⟩
theorem s_notIn : Snd2 K (rNotInA K) vNotIn := by
  intro ad H st x y d e Q rx ry S w
  unfold vNotIn at w
  cases q : inB d e st with
  | none => simp only [q] at w; exact w.elim
  | some k =>
    simp only [q] at w
    have fin := w ad H _ Ext.refl (.bl (!k)) S
    rcases inB_of S rx ry q with ⟨p, xs, h1, h2, h3, h4, h5⟩ | ⟨p, qs, h1, h2, h3, h4, h5⟩
    · exact .inl ⟨p, xs, h1, h2, h3, h4, by rw [if_pos rfl, h5]; exact fin⟩
    · exact .inr ⟨p, qs, h1, h2, h3, h4, by rw [h5]; exact fin⟩
/-! ### items, lengths -/
theorem vIx_rf {n : Nat} {i : Int} {Q : VK} (w : PostD K ad H Q (vIx (.rf n) (.int i) st)) : ∃ ds d, cellItems st n = some ds ∧ atD ds i = some d ∧ PostD K ad H Q (.ok d st) := by
  unfold vIx at w
  cases q : cellItems st n with
  | none => simp only [q] at w; exact w.elim
  | some ds =>
    simp only [q] at w
    cases q2 : atD ds i with
    | none => simp only [Option.bind, q2] at w; exact w.elim
    | some d => simp only [Option.bind, q2] at w; exact ⟨ds, d, rfl, q2, w⟩
theorem atI_D {α : Type} (xs : List α) (i : Int) : atD xs i = L2.atI xs i := rfl
theorem s_ix : Snd2 K (rIx K) vIx := by
  intro ad H st x y d e Q rx ry S w
  cases rx with
  | tup h1 r1 =>
    rename_i a xs ds
    cases ry with
    | int i =>
      unfold vIx at w
      simp only at w
      cases q : atD ds i with
      | none => simp only [q] at w; exact w.elim
      | some d =>
        simp only [q] at w
        obtain ⟨v, g1, g2⟩ := r1.atI q
        exact .inr (.inl ⟨a, xs, i, v, rfl, rfl, h1, g1, w ad H v Ext.refl g2 S⟩)
    | _ => exact w.elim
  | rf h1 =>
    rename_i n a
    cases ry with
    | int i =>
      obtain ⟨ds, d, q1, q2, w⟩ := vIx_rf w
      obtain ⟨xs, g1, g2⟩ := S.items q1 h1
      obtain ⟨v, g3, g4⟩ := g2.atI q2
      exact .inl ⟨a, xs, i, v, rfl, rfl, g1, g3, w ad H v Ext.refl g4 S⟩
    | _ => exact w.elim
  | str z =>
    cases ry with
    | int i =>
      unfold vIx at w
      simp only at w
      by_cases c : z.length ≤ SZ
      · rw [if_pos c] at w
        cases q : atD z.cps.toList i with
        | none => simp only [q] at w; exact w.elim
        | some d =>
          simp only [q] at w
          exact .inr (.inr ⟨z, i, d, rfl, rfl, SZ_line c, q, w ad H _ Ext.refl (.str _) S⟩)
      · rw [if_neg c] at w; exact w.elim
    | _ => exact w.elim
  | _ => cases ry <;> exact w.elim
variable {a b c : Expr} {ga gb gc : GE} {pos : Pos}
theorem d_ix (ha : PE X a (TD X.K ga)) (hb : PE X b (TD X.K gb)) (hs : PlainIx b := by exact fun _ _ => rfl) : PE X (.Subscript a b pos) (TD X.K (gOp vIx ga gb)) :=
  PE.of (pe_ix ix_seq ha hb hs) fun σ H Q w => run2 s_ix w
/-! ### argument lists, displays -/
theorem da_nil : PA X [] (TAs X.K gNil) := PA.of pa_nil fun σ H Q ⟨ad, ρ, st, R, S, w⟩ => w ad H [] Ext.refl .nil S
theorem da_cons {es : List Expr} {gs : GA} (ha : PE X a (TD X.K ga)) (hr : PA X es (TAs X.K gs)) (hs : starEach (a :: es) X.env = (false, eval a X.env) :: starEach es X.env := by rfl) : PA X (a :: es) (TAs X.K (gCons ga gs)) := by
  refine PA.of (pa_cons ha hr hs) fun σ H Q ⟨ad, ρ, st, R, S, w⟩ => ?_
  obtain ⟨d, s1, e1, w⟩ := w.bind
  refine ⟨ad, ρ, st, R, S, ?_⟩
  rw [e1]
  refine fun ad1 H1 x x1 r1 S1 => ⟨ad1, ρ, s1, R.mono x1, S1, ?_⟩
  obtain ⟨ds, s2, e2, w⟩ := w.bind
  rw [e2]
  exact fun ad2 H2 xs x2 r2 S2 => w ad2 H2 _ (x1.trans x2) (.cons (r1.mono x2) r2) S2
theorem da_star {es : List Expr} {gs : GA} {p : Pos} (ha : PE X a (TD X.K ga)) (hr : PA X es (TAs X.K gs)) (hs : starEach (.Starred a p :: es) X.env = (true, eval a X.env) :: starEach es X.env := by rfl) : PA X (.Starred a p :: es) (TAs X.K (gStar ga gs)) := by
  refine PA.of (StX.pa_star ha hr hs) fun σ H Q ⟨ad, ρ, st, R, S, w⟩ => ?_
  obtain ⟨d, s1, e1, w⟩ := w.bind
  refine ⟨ad, ρ, st, R, S, ?_⟩
  rw [e1]
  refine fun ad1 H1 x x1 r1 S1 => ?_
  obtain ⟨ds, s2, e2, w2⟩ := w.bind
  have fin : ∀ (xs : List V), RVs X.K ad1 H1 xs ds → s2 = s1 → TAs X.K gs σ H1 fun ys H2 => Q (xs ++ ys) H2 := fun xs rxs es => by
    subst es
    obtain ⟨es, s3, e3, w3⟩ := w2.bind
    refine ⟨ad1, ρ, s2, R.mono x1, S1, ?_⟩
    rw [e3]
    exact fun ad2 H2 ys x2 r2 S2 => w3 ad2 H2 _ (x1.trans x2) ((rxs.mono x2).append r2) S2
  cases r1 with
  | tup h1 rs =>
    rename_i p' xs ds'
    have q : Res.ok ds' s1 = Res.ok ds s2 := e2
    injection q with q1 q2
    subst q1
    exact ⟨p', xs, rfl, .inl h1, fin xs rs q2.symm⟩
  | rf h1 =>
    rename_i n p'
    unfold vItems at e2
    cases q : cellItems s1 n with
    | none => simp only [q] at e2; cases e2
    | some ds' =>
      simp only [q] at e2
      injection e2 with q1 q2
      subst q1
      obtain ⟨xs, g1, g2⟩ := S1.items q h1
      exact ⟨p', xs, rfl, .inr g1, fin xs g2 q2.symm⟩
  | _ => cases e2
theorem small_ok {ds es : List D} {s s' : Store} (h : small ds s = .ok es s') : ds.length ≤ SZ ∧ es = ds ∧ s' = s := by
  unfold small at h
  by_cases c : ds.length ≤ SZ
  · rw [if_pos c] at h
    have q : Res.ok ds s = Res.ok es s' := h
    injection q with q1 q2
    exact ⟨c, q1.symm, q2.symm⟩
  · rw [if_neg c] at h; cases h
theorem d_tup {es : List Expr} {gs : GA} {k : Nat} (h : PA X es (TAs X.K gs)) : PE X (.Tuple es k pos) (TD X.K (gTup gs)) := by
  refine PE.of (pe_tup h) fun σ H Q ⟨ad, ρ, st, R, S, w⟩ => ?_
  obtain ⟨ds, s1, e1, w⟩ := w.bind
  refine ⟨ad, ρ, st, R, S, ?_⟩
  rw [e1]
  refine fun ad1 H1 xs x1 r1 S1 => ?_
  obtain ⟨ds', s2, e2, w2⟩ := w.bind
  obtain ⟨c, rfl, rfl⟩ := small_ok e2
  exact ⟨by rw [r1.length]; exact SZ_line c, PostD.newTup S1 r1 (w2.shift x1)⟩
/-- a display of a list: a list made on the spot -/
theorem dl_lst {es : List Expr} {gs : GA} (h : PA X es (TAs X.K gs)) : PE X (.List es pos) (TL X.K (gLst gs)) := by
  refine PE.of (pe_lst h) fun σ H Q ⟨ad, ρ, st, R, S, w⟩ => ?_
  obtain ⟨ds, s1, e1, w⟩ := w.bind
  refine ⟨ad, ρ, st, R, S, ?_⟩
  rw [e1]
  refine fun ad1 H1 xs x1 r1 S1 => ?_
  cases e2 : small ds s1 with
  | ok es s2 =>
    obtain ⟨c, rfl, rfl⟩ := small_ok e2
    rw [e2] at w
    refine ⟨by rw [r1.length]; exact SZ_line c, fun p hp => ?_⟩
    have x2 : Ext X.K ad1 H1 ad1 (upd H1 p (.lst xs)) := ext_new hp
    exact w ad1 _ p xs (x1.trans x2) (x1.none_of S1 hp) (S1.not_mem hp) upd_same (r1.mono x2) (S1.upd_new hp)
  | stuck => rw [e2] at w; exact w.elim
  | exc _ _ _ => rw [e2] at w; exact w.elim
/-- .. that is kept -/
theorem d_new {gs : GA} (h : PE X a (TL X.K gs)) : PE X a (TD X.K (gNew gs)) := by
  refine PE.of h fun σ H Q ⟨ad, ρ, st, R, S, w⟩ => ?_
  obtain ⟨ds, s1, e1, w⟩ := w.bind
  refine ⟨ad, ρ, st, R, S, ?_⟩
  rw [e1]
  intro ad1 H1 p xs x1 hp np hl r1 S1
  refine w (ad1 ++ [p]) H1 (.ref p) (x1.push hp S) (.rf ?_) (S1.push hl np r1)
  rw [← S1.len]
  simp
end
end DL
namespace DL
open PySem L2
section
variable {X : Cx} {K : PySem.W.Frag} {ad : List Addr} {H : Hp} {st : Store} {a b c e : Expr} {ga gb gc g : GE} {gs : GA} {t u : GT} {pos p : Pos}
/-! ### slices -/
theorem do_none : PO X none (TOp X.K oNone) := PO.of po_none fun σ H Q ⟨ad, ρ, st, R, S, w⟩ => w ad H Ext.refl S
theorem asInt_ok {d : D} {i : Int} {s s' : Store} (h : asInt d s = .ok i s') : d = .int i ∧ s' = s := by
  cases d with
  | int j =>
    have q : Res.ok j s = Res.ok i s' := h
    injection q with q1 q2
    exact ⟨by rw [q1], q2.symm⟩
  | _ => cases h
theorem do_some (ha : PE X a (TD X.K ga)) : PO X (some a) (TOp X.K (oSome ga)) := PO.of (po_some ha) fun σ H Q ⟨ad, ρ, st, R, S, w⟩ => by
  obtain ⟨d, s1, e1, w1⟩ := w.bind
  refine ⟨ad, ρ, st, R, S, ?_⟩
  rw [e1]
  intro ad1 H1 x x1 r1 S1
  obtain ⟨i, s2, e2, w2⟩ := w1.bind
  obtain ⟨rfl, rfl⟩ := asInt_ok e2
  cases r1
  exact ⟨i, rfl, w2 ad1 H1 x1 S1⟩
theorem run_sl {r : V → Option Int → Option Int → Hp → VK → Prop} {lo hi : Env → M (Option Int)} {f : D → Option Int → Option Int → M D} {σ : L2.St} {Q : VK}
    (s : ∀ (ad : List Addr) (H : Hp) (st : Store) (x : V) (d : D) (l h : Option Int) (Q : VK), RV K ad H x d → RS K ad H st → PostD K ad H Q (f d l h st) → r x l h H Q)
    (w : TD K (fun ρ => andThen (ga ρ) fun x => andThen (lo ρ) fun l => andThen (hi ρ) fun u => f x l u) σ H Q) : tSl r (TD K ga) (TOp K lo) (TOp K hi) σ H Q := by
  obtain ⟨ad, ρ, st, R, S, w⟩ := w
  obtain ⟨d, s1, e1, w1⟩ := w.bind
  refine ⟨ad, ρ, st, R, S, ?_⟩
  rw [e1]
  refine fun ad1 H1 x x1 r1 S1 => ⟨ad1, ρ, s1, R.mono x1, S1, ?_⟩
  obtain ⟨l, s2, e2, w2⟩ := w1.bind
  rw [e2]
  refine fun ad2 H2 x2 S2 => ⟨ad2, ρ, s2, R.mono (x1.trans x2), S2, ?_⟩
  obtain ⟨h, s3, e3, w3⟩ := w2.bind
  rw [e3]
  exact fun ad3 H3 x3 S3 => s ad3 H3 s3 x d l h Q ((r1.mono x2).mono x3) S3 (w3.shift ((x1.trans x2).trans x3))
variable {lo hi : Option Expr} {gl gh : Env → M (Option Int)} {p2 : Pos}
def rSlX (K : PySem.W.Frag) : V → Option Int → Option Int → Hp → VK → Prop := fun x lo hi H Q => rSlA K x lo hi H Q ∨ (fun x lo hi H Q => rSlS x lo hi H Q ∨ rSlL K x lo hi H Q) x lo hi H Q
theorem sl_any : SlR X (rSlX X.K) := sl_tupA.or (sl_str.or sl_list)
theorem s_sl (ad : List Addr) (H : Hp) (st : Store) (x : V) (d : D) (l h : Option Int) (Q : VK) (r : RV K ad H x d) (S : RS K ad H st) (w : PostD K ad H Q (vSl d l h st)) : rSlX K x l h H Q := by
  cases r with
  | @tup q xs ds h1 rs =>
    have w' : PostD K ad H Q (.ok (.tup (cutD ds l h)) st) := w
    refine .inl ⟨q, xs, rfl, h1, fun hw => ?_, fun hw => w'.newTup S (rs.cut l h)⟩
    have e : cutD ds l h = ds := by
      unfold cutD
      rw [sIx_eq, sIx_eq, ← rs.length, hw.1, hw.2]
      rw [rs.length]
      simp
    rw [e] at w'
    exact w' ad H _ Ext.refl (.tup h1 rs) S
  | str z =>
    have w' : PostD K ad H Q ((if z.length ≤ SZ then ret (.str (cutS z l h)) else bad : M D) st) := w
    by_cases c : z.length ≤ SZ
    · rw [if_pos c] at w'
      exact .inr (.inl ⟨z, rfl, SZ_line c, w' ad H _ Ext.refl (.str _) S⟩)
    · rw [if_neg c] at w'; exact w'.elim
  | @rf n q h1 =>
    unfold vSl at w
    simp only at w
    cases e4 : cellItems st n with
    | none => simp only [e4] at w; exact w.elim
    | some ds =>
      simp only [e4] at w
      obtain ⟨xs, g1, g2⟩ := S.items e4 h1
      exact .inr (.inr ⟨q, xs, rfl, g1, PostD.newLst S (g2.cut l h) w⟩)
  | _ => exact w.elim
theorem d_sl (ha : PE X a (TD X.K ga)) (hl : PO X lo (TOp X.K gl)) (hh : PO X hi (TOp X.K gh)) : PE X (.Subscript a (.Slice lo hi none p2) pos) (TD X.K (gSl ga gl gh)) :=
  PE.of (pe_slice sl_any ha hl hh) fun σ H Q w => run_sl s_sl w
/-! ### built-in calls of one argument -/
theorem run_c1 {r : List V → Hp → VK → Prop} {h : D → M D} {σ : L2.St} {Q : VK} (s : Snd1 K (fun x H Q => r [x] H Q) h) (w : TD K (gUn h ga) σ H Q) : tCB r (TAs K (gCons ga gNil)) σ H Q := by
  obtain ⟨ad, ρ, st, R, S, w⟩ := w
  obtain ⟨d, s1, e1, w1⟩ := w.bind
  refine ⟨ad, ρ, st, R, S, ?_⟩
  have e : gCons ga gNil ρ st = .ok [d] s1 := by unfold gCons gNil andThen; rw [e1]; rfl
  rw [e]
  intro ad1 H1 xs x1 r1 S1
  cases r1 with
  | cons r2 r3 =>
    cases r3
    exact s ad1 H1 s1 _ d Q r2 S1 (w1.shift x1)
theorem d_call1 {id : String} {x : Str} {r : List V → Hp → VK → Prop} {h : D → M D} (hc : CallR X (.builtin id) r) (s : Snd1 X.K (fun x H Q => r [x] H Q) h) (hm : X.mg x = none) (ha : PE X a (TD X.K ga)) (hg : Gl X x := by rfl)
    (hv : bootBuiltins x = some (.builtin id) := by decide +kernel) (he : starEach [a] X.env = (false, eval a X.env) :: starEach [] X.env := by rfl) (hn : x ≠ "__name__" := by decide) (hdb : (x == ("__debug__" : Str)) = false := by decide) : PE X (.Call (.Name x p) [a] [] pos) (TD X.K (gUn h ga)) :=
  PE.of (pe_callB hc hg hm hv (da_cons ha da_nil he) hn hdb he) fun σ H Q w => run_c1 s w
theorem d_callT1 {T : String} {x : Str} {r : List V → Hp → VK → Prop} {h : D → M D} (hc : CallR X (.type T) r) (s : Snd1 X.K (fun x H Q => r [x] H Q) h) (hm : X.mg x = none) (ha : PE X a (TD X.K ga)) (hg : Gl X x := by rfl)
    (hv : bootBuiltins x = some (.type T) := by decide +kernel) (he : starEach [a] X.env = (false, eval a X.env) :: starEach [] X.env := by rfl) (hn : x ≠ "__name__" := by decide) (hdb : (x == ("__debug__" : Str)) = false := by decide) : PE X (.Call (.Name x p) [a] [] pos) (TD X.K (gUn h ga)) :=
  PE.of (pe_callTy hc hg hm hv (da_cons ha da_nil he) hn hdb he) fun σ H Q w => run_c1 s w
theorem s_abs : Snd1 K (fun x H Q => (fun (xs : List V) (H : Hp) (Q : VK) => ∃ i, xs = [.int i] ∧ Q (.int (if i < 0 then -i else i)) H) [x] H Q) vAbs := by
  intro ad H st x d Q r S w
  cases r <;> first | exact ⟨_, rfl, w ad H _ Ext.refl (.int _) S⟩ | exact w.elim
theorem s_int : Snd1 K (fun x H Q => (fun (xs : List V) (H : Hp) (Q : VK) => (∃ i, xs = [.int i] ∧ Q (.int i) H) ∨ ∃ k, xs = [.bl k] ∧ Q (.int (if k then 1 else 0)) H) [x] H Q) vInt := by
  intro ad H st x d Q r S w
  cases r <;> first | exact .inl ⟨_, rfl, w ad H _ Ext.refl (.int _) S⟩ | exact .inr ⟨_, rfl, w ad H _ Ext.refl (.int _) S⟩ | exact w.elim
theorem s_len : Snd1 K (fun x H Q => (fun (xs : List V) (H : Hp) (Q : VK) => ∃ x n, xs = [x] ∧ LenV K x H n ∧ Q (.int n) H) [x] H Q) vLen := by
  intro ad H st x d Q r S w
  cases r with
  | tup h1 rs =>
    rename_i q xs ds
    have w' : PostD K ad H Q (.ok (.int ds.length) st) := w
    exact ⟨_, xs.length, rfl, .inr ⟨xs, h1, rfl⟩, by rw [rs.length]; exact w' ad H _ Ext.refl (.int _) S⟩
  | rf h1 =>
    rename_i n q
    unfold vLen at w
    simp only at w
    cases e : cellItems st n with
    | none => simp only [e] at w; exact w.elim
    | some ds =>
      simp only [e] at w
      obtain ⟨xs, g1, g2⟩ := S.items e h1
      exact ⟨_, xs.length, rfl, .inl ⟨xs, g1, rfl⟩, by rw [g2.length]; exact w ad H _ Ext.refl (.int _) S⟩
  | str z =>
    unfold vLen at w
    simp only at w
    by_cases c : z.length ≤ SZ
    · rw [if_pos c] at w
      exact ⟨_, z.length, rfl, ⟨SZ_line c, rfl⟩, w ad H _ Ext.refl (.int _) S⟩
    · rw [if_neg c] at w; exact w.elim
  | _ => exact w.elim
theorem s_tuple : Snd1 K (fun x H Q => (fun (xs : List V) (H : Hp) (Q : VK) => ∃ p ys, xs = [.ref p] ∧ ((SqL K H p ys ∧ ∀ l, H l = none → Q (.ref l) (upd H l (.tup ys))) ∨ (SqT K H p ys ∧ Q (.ref p) H))) [x] H Q) vTuple := by
  intro ad H st x d Q r S w
  cases r with
  | tup h1 rs =>
    rename_i q xs ds
    exact ⟨q, xs, rfl, .inr ⟨h1, w ad H _ Ext.refl (.tup h1 rs) S⟩⟩
  | rf h1 =>
    rename_i n q
    unfold vTuple at w
    simp only at w
    cases e : cellItems st n with
    | none => simp only [e] at w; exact w.elim
    | some ds =>
      simp only [e] at w
      obtain ⟨xs, g1, g2⟩ := S.items e h1
      exact ⟨q, xs, rfl, .inl ⟨g1, PostD.newTup S g2 w⟩⟩
  | _ => exact w.elim
theorem vItems_ok {d : D} {ds : List D} {s s' : Store} {x : V} (S : RS K ad H s) (r : RV K ad H x d) (h : vItems d s = .ok ds s') : s' = s ∧ ∃ q xs, x = .ref q ∧ (SqL K H q xs ∨ SqT K H q xs) ∧ RVs K ad H xs ds := by
  cases r with
  | tup h1 rs =>
    rename_i q xs ds'
    have z : Res.ok ds' s = Res.ok ds s' := h
    injection z with z1 z2
    subst z1
    exact ⟨z2.symm, q, xs, rfl, .inr h1, rs⟩
  | rf h1 =>
    rename_i n q
    unfold vItems at h
    simp only at h
    cases e : cellItems s n with
    | none => simp only [e] at h; cases h
    | some ds' =>
      simp only [e] at h
      injection h with z1 z2
      subst z1
      obtain ⟨xs, g1, g2⟩ := S.items e h1
      exact ⟨z2.symm, q, xs, rfl, .inl g1, g2⟩
  | _ => cases h
/-- list(x): a list made on the spot -/
theorem dl_list {x : Str} (hx : x = "list") (hm : X.mg x = none) (ha : PE X a (TD X.K ga)) (hg : Gl X x := by rfl) (he : starEach [a] X.env = (false, eval a X.env) :: starEach [] X.env := by rfl) (hdb : (x == ("__debug__" : Str)) = false := by decide) :
    PE X (.Call (.Name x p) [a] [] pos) (TL X.K (gList ga)) := by
  subst hx
  refine PE.of (pe_callTy (T := "list") call_list_of hg hm (by decide +kernel) (da_cons ha da_nil he) (by decide) hdb he) fun σ H Q ⟨ad, ρ, st, R, S, w⟩ => ?_
  obtain ⟨d, s1, e1, w1⟩ := w.bind
  refine ⟨ad, ρ, st, R, S, ?_⟩
  have e : gCons ga gNil ρ st = .ok [d] s1 := by unfold gCons gNil andThen; rw [e1]; rfl
  rw [e]
  intro ad1 H1 xs x1 r1 S1
  cases r1 with
  | cons r2 r3 =>
    cases r3
    cases e2 : vItems d s1 with
    | ok ds s2 =>
      rw [e2] at w1
      obtain ⟨rfl, q, ys, rfl, g1, g2⟩ := vItems_ok S1 r2 e2
      refine ⟨q, ys, rfl, g1, fun l hl => ?_⟩
      have x2 : Ext X.K ad1 H1 ad1 (upd H1 l (.lst ys)) := ext_new hl
      exact w1 ad1 _ l ys (x1.trans x2) (x1.none_of S1 hl) (S1.not_mem hl) upd_same (g2.mono x2) (S1.upd_new hl)
    | stuck => rw [e2] at w1; exact w1.elim
    | exc _ _ _ => rw [e2] at w1; exact w1.elim
theorem d_upper {o : Expr} {apos cpos : Pos} {m : Str} (hm : m = "upper") (ho : PE X o (TD X.K g)) (hbase : attributeBase o m X.env (eval o X.env) = eval o X.env := by rfl) (hline : (apos.endLine == cpos.line) = true := by rfl) :
    PE X (.Call (.Attribute o m apos) [] [] cpos) (TD X.K (gUn vUpper g)) := by
  subst hm
  refine PE.of (pe_upper ho hbase hline) fun σ H Q ⟨ad, ρ, st, R, S, w⟩ => ?_
  obtain ⟨d, s1, e1, w1⟩ := w.bind
  refine ⟨ad, ρ, st, R, S, ?_⟩
  rw [e1]
  intro ad1 H1 x x1 r1 S1
  cases r1 with
  | str z =>
    have w' : PostD X.K ad H Q ((if z.length ≤ 1000 then ret (.str (Txt.upper z)) else bad : M D) s1) := w1
    by_cases c : z.length ≤ 1000
    · rw [if_pos c] at w'
      exact ⟨⟨z, rfl⟩, z, rfl, rfl, by omega, w' ad1 H1 _ x1 (.str _) S1⟩
    · rw [if_neg c] at w'; exact w'.elim
  | _ => exact w1.elim
/-! ### isinstance -/
def tyName : Ty → String
  | .int => "int" | .bool => "bool" | .str => "str" | .tuple => "tuple" | .list => "list"
def clsName : D → String
  | .non => "NoneType" | .bl _ => "bool" | .int _ => "int" | .str _ => "str" | .tup _ => "tuple" | .rf _ => "list" | .cl _ => "list"
theorem kit_is (t : Ty) (d : D) (nc : ∀ ds, d ≠ .cl ds) : kitB (clsName d) (tyName t) = some (isTy t d) := by
  cases t <;> cases d <;> first | exact absurd rfl (nc _) | (show kitB _ _ = some _; simp only [clsName, tyName, isTy]; decide +kernel)
theorem tyX_of {x : V} {d : D} (r : RV K ad H x d) (nc : ∀ ds, d ≠ .cl ds) (h : ∀ n q, d = .rf n → ad[n]? = some q → ∃ xs, SqL K H q xs) : TyX K H x (.type (clsName d)) := by
  cases r with
  | non => exact .base .non
  | bl b => exact .base (.bl b)
  | int i => exact .base (.int i)
  | str z => exact .base (.str z)
  | tup h1 rs =>
    rcases h1 with (h1 | ⟨o, h1⟩) | ⟨o, its, n, h1, h2, _⟩
    · exact .base (.tup h1)
    · exact .fTuple h1
    · exact .kTuple h1 h2
  | cl h1 rs => exact absurd rfl (nc _)
  | rf h1 =>
    rename_i n q
    obtain ⟨xs, h2⟩ := h n q rfl h1
    rcases h2 with (h2 | ⟨o, h2⟩) | ⟨o, its, n, h3, h4, _⟩
    · exact .base (.lst h2)
    · exact .base (.frz h2)
    · exact .kList h3 h4
theorem d_isi {x y : Str} {p3 : Pos} (T : Ty) (hx : x = "isinstance") (hm : X.mg x = none) (hmy : X.mg y = none) (ha : PE X a (TD X.K ga)) (hg : Gl X x := by rfl) (hgy : Gl X y := by rfl) (hy : bootBuiltins y = some (.type (tyName T)) := by decide +kernel) (hny : y ≠ "__name__" := by decide)
    (hdy : (y == ("__debug__" : Str)) = false := by decide) (hdb : (x == ("__debug__" : Str)) = false := by decide)
    (he : starEach [a, .Name y p3] X.env = (false, eval a X.env) :: starEach [.Name y p3] X.env := by rfl) : PE X (.Call (.Name x p) [a, .Name y p3] [] pos) (TD X.K (gUn (vIsi T) ga)) := by
  subst hx
  have hty : PE X (.Name y p3) (tC (.ty (tyName T))) := pe_bltn (v := .ty (tyName T)) hgy hmy hy rfl hny hdy
  refine PE.of (pe_callB (id := "isinstance") call_isi hg hm (by decide +kernel) (pa_cons ha (pa_cons hty pa_nil) he) (by decide) hdb he) fun σ H Q ⟨ad, ρ, st, R, S, w⟩ => ?_
  obtain ⟨d, s1, e1, w1⟩ := w.bind
  refine ⟨ad, ρ, st, R, S, ?_⟩
  rw [e1]
  intro ad1 H1 v x1 r1 S1
  have nc : ∀ ds, d ≠ .cl ds := fun ds z => by subst z; exact w1.elim
  have fin : (∃ s2, vIsi T d s1 = .ok (.bl (isTy T d)) s2 ∧ s2 = s1) ∧ ∀ n q, d = .rf n → ad1[n]? = some q → ∃ xs, SqL X.K H1 q xs := by
    cases d with
    | rf n =>
      unfold vIsi at w1 ⊢
      simp only at w1 ⊢
      cases e : cellItems s1 n with
      | none => simp only [e] at w1; exact w1.elim
      | some ds =>
        refine ⟨⟨s1, rfl, rfl⟩, fun m q hm hq => ?_⟩
        cases hm
        obtain ⟨xs, g1, _⟩ := S1.items e hq
        exact ⟨xs, g1⟩
    | cl ds => exact absurd rfl (nc ds)
    | _ => exact ⟨⟨s1, rfl, rfl⟩, fun _ _ z => nomatch z⟩
  obtain ⟨⟨s2, e2, rfl⟩, hl⟩ := fin
  rw [e2] at w1
  exact ⟨v, .ty (tyName T), _, _, isTy T d, rfl, .ty _, tyX_of r1 nc hl, kit_ty (kit_is T d nc), w1 ad1 H1 _ x1 (.bl _) S1⟩
end
end DL
namespace DL
open PySem L2
section
variable {X : Cx} {K : PySem.W.Frag} {ad : List Addr} {H : Hp} {st : Store} {a b c e : Expr} {ga gb gc g : GE} {gs : GA} {t u : GT} {pos p : Pos}
/-! ### lists made on the spot, used up at once -/
theorem run_cL {r : List V → Hp → VK → Prop} {f : List D → M D} {σ : L2.St} {Q : VK}
    (s : ∀ (ad : List Addr) (H : Hp) (st : Store) (q : Addr) (xs : List V) (ds : List D) (Q : VK), H q = some (.lst xs) → RVs K ad H xs ds → RS K ad H st → PostD K ad H Q (f ds st) → r [.ref q] H Q)
    (w : TD K (fun ρ => andThen (gs ρ) f) σ H Q) : tCB r (tCons (TL K gs) tNil) σ H Q := by
  obtain ⟨ad, ρ, st, R, S, w⟩ := w
  obtain ⟨ds, s1, e1, w1⟩ := w.bind
  refine ⟨ad, ρ, st, R, S, ?_⟩
  rw [e1]
  exact fun ad1 H1 q xs x1 hp np hl r1 S1 => s ad1 H1 s1 q xs ds Q hl r1 S1 (w1.shift x1)
theorem d_tupOf {x : Str} (hx : x = "tuple") (hm : X.mg x = none) (ha : PE X a (TL X.K gs)) (hg : Gl X x := by rfl) (he : starEach [a] X.env = (false, eval a X.env) :: starEach [] X.env := by rfl) (hdb : (x == ("__debug__" : Str)) = false := by decide) :
    PE X (.Call (.Name x p) [a] [] pos) (TD X.K (gTupOf gs)) := by
  subst hx
  exact PE.of (pe_callTy (T := "tuple") call_tuple_of hg hm (by decide +kernel) (pa_cons ha pa_nil he) (by decide) hdb he) fun σ H Q w => run_cL (fun ad H st q xs ds Q h r S w => ⟨q, xs, rfl, .inl ⟨SqL.of h, PostD.newTup S r w⟩⟩) w
theorem bools_of : ∀ {xs : List V} {ds : List D} {bs : List Bool}, RVs K ad H xs ds → bools ds = some bs → xs = bs.map V.bl
  | _, _, _, .nil, e => by
    have : ([] : List Bool) = _ := Option.some.inj e
    subst this; rfl
  | _, _, bs, .cons (d := d) (ds := ds) h t, e => by
    cases d with
    | bl b =>
      have e' : (bools ds).map (b :: ·) = some bs := e
      cases q : bools ds with
      | none => rw [q] at e'; cases e'
      | some cs =>
        rw [q] at e'
        have : b :: cs = bs := Option.some.inj e'
        subst this
        cases h
        rw [List.map_cons, bools_of t q]
    | _ => cases e
theorem d_all {x : Str} (hx : x = "all") (hm : X.mg x = none) (ha : PE X a (TL X.K gs)) (hc : X.calm = true := by rfl) (hg : Gl X x := by rfl) (he : starEach [a] X.env = (false, eval a X.env) :: starEach [] X.env := by rfl) (hdb : (x == ("__debug__" : Str)) = false := by decide) :
    PE X (.Call (.Name x p) [a] [] pos) (TD X.K (gAll gs)) := by
  subst hx
  refine PE.of (pe_callB (id := "all") (cr_all hc) hg hm (by decide +kernel) (pa_cons ha pa_nil he) (by decide) hdb he) fun σ H Q w => run_cL (fun ad H st q xs ds Q h r S w => ?_) w
  cases e : bools ds with
  | none => simp only [e] at w; exact w.elim
  | some bs =>
    simp only [e] at w
    have := bools_of r e
    subst this
    exact ⟨q, bs, rfl, SqL.of h, w ad H _ Ext.refl (.bl _) S⟩
theorem d_any {x : Str} (hx : x = "any") (hm : X.mg x = none) (ha : PE X a (TL X.K gs)) (hc : X.calm = true := by rfl) (hg : Gl X x := by rfl) (he : starEach [a] X.env = (false, eval a X.env) :: starEach [] X.env := by rfl) (hdb : (x == ("__debug__" : Str)) = false := by decide) :
    PE X (.Call (.Name x p) [a] [] pos) (TD X.K (gAny gs)) := by
  subst hx
  refine PE.of (pe_callB (id := "any") (cr_any hc) hg hm (by decide +kernel) (pa_cons ha pa_nil he) (by decide) hdb he) fun σ H Q w => run_cL (fun ad H st q xs ds Q h r S w => ?_) w
  cases e : bools ds with
  | none => simp only [e] at w; exact w.elim
  | some bs =>
    simp only [e] at w
    have := bools_of r e
    subst this
    exact ⟨q, bs, rfl, SqL.of h, w ad H _ Ext.refl (.bl _) S⟩
theorem d_ixL (ha : PE X a (TL X.K gs)) (hb : PE X b (TD X.K gb)) (hs : PlainIx b := by exact fun _ _ => rfl) : PE X (.Subscript a b pos) (TD X.K (gIxL gs gb)) :=
  PE.of (pe_ix ix_list ha hb hs) fun σ H Q ⟨ad, ρ, st, R, S, w⟩ => by
    obtain ⟨ds, s1, e1, w1⟩ := w.bind
    refine ⟨ad, ρ, st, R, S, ?_⟩
    rw [e1]
    refine fun ad1 H1 q xs x1 hp np hl r1 S1 => ⟨ad1, ρ, s1, R.mono x1, S1, ?_⟩
    obtain ⟨d, s2, e2, w2⟩ := w1.bind
    rw [e2]
    intro ad2 H2 y x2 r2 S2
    obtain ⟨i, s3, e3, w3⟩ := w2.bind
    obtain ⟨rfl, rfl⟩ := asInt_ok e3
    cases r2
    cases e4 : atD ds i with
    | none => simp only [e4] at w3; exact w3.elim
    | some d =>
      simp only [e4] at w3
      obtain ⟨v, g1, g2⟩ := (r1.mono x2).atI e4
      exact ⟨q, xs, i, v, rfl, rfl, SqL.of (x2.oth q _ hl np), g1, w3 ad2 H2 v (x1.trans x2) g2 S2⟩
/-! ### and, or, not, if else -/
theorem asB_ok {d : D} {k : Bool} {s s' : Store} (h : asB d s = .ok k s') : d = .bl k ∧ s' = s := by
  cases d with
  | bl j =>
    have q : Res.ok j s = Res.ok k s' := h
    injection q with q1 q2
    exact ⟨by rw [q1], q2.symm⟩
  | _ => cases h
theorem tB_ok {ρ : Env} {k : Bool} {s s' : Store} (h : tB ga ρ s = .ok k s') : ga ρ s = .ok (.bl k) s' := by
  unfold tB andThen at h
  cases e : ga ρ s with
  | ok d s1 =>
    rw [e] at h
    obtain ⟨rfl, rfl⟩ := asB_ok h
    rfl
  | stuck => rw [e] at h; cases h
  | exc _ _ _ => rw [e] at h; cases h
variable {rest : List Expr}
theorem d_one {op} (h : PE X a (TD X.K ga)) : PE X (.BoolOp op [a] pos) (TD X.K ga) := pe_one h
theorem d_and (ha : PE X a (TD X.K ga)) (hb : PE X (.BoolOp .And (b :: rest) pos) (TD X.K gb)) : PE X (.BoolOp .And (a :: b :: rest) pos) (TD X.K (gAnd ga gb)) :=
  PE.of (pe_and ha hb) fun σ H Q ⟨ad, ρ, st, R, S, w⟩ => by
    obtain ⟨k, s1, e1, w1⟩ := w.bind
    refine ⟨ad, ρ, st, R, S, ?_⟩
    rw [tB_ok e1]
    intro ad1 H1 x x1 r1 S1
    cases r1
    refine ⟨k, rfl, ?_⟩
    cases k with
    | true => exact ⟨ad1, ρ, s1, R.mono x1, S1, w1.shift x1⟩
    | false => exact w1 ad1 H1 _ x1 (.bl _) S1
theorem d_or (ha : PE X a (TD X.K ga)) (hb : PE X (.BoolOp .Or (b :: rest) pos) (TD X.K gb)) : PE X (.BoolOp .Or (a :: b :: rest) pos) (TD X.K (gOr ga gb)) :=
  PE.of (pe_or ha hb) fun σ H Q ⟨ad, ρ, st, R, S, w⟩ => by
    obtain ⟨k, s1, e1, w1⟩ := w.bind
    refine ⟨ad, ρ, st, R, S, ?_⟩
    rw [tB_ok e1]
    intro ad1 H1 x x1 r1 S1
    cases r1
    refine ⟨k, rfl, ?_⟩
    cases k with
    | false => exact ⟨ad1, ρ, s1, R.mono x1, S1, w1.shift x1⟩
    | true => exact w1 ad1 H1 _ x1 (.bl _) S1
theorem d_not (ha : PE X a (TD X.K ga)) : PE X (.UnaryOp .Not a pos) (TD X.K (gNot ga)) :=
  PE.of (pe_not ha) fun σ H Q ⟨ad, ρ, st, R, S, w⟩ => by
    obtain ⟨k, s1, e1, w1⟩ := w.bind
    refine ⟨ad, ρ, st, R, S, ?_⟩
    rw [tB_ok e1]
    intro ad1 H1 x x1 r1 S1
    cases r1
    exact ⟨k, rfl, w1 ad1 H1 _ x1 (.bl _) S1⟩
theorem d_if (hc : PT X c (TB X.K t)) (ha : PE X a (TD X.K ga)) (hb : PE X b (TD X.K gb)) : PE X (.IfExp c a b pos) (TD X.K (gIf t ga gb)) :=
  PE.of (pe_ifExp hc ha hb) fun σ H Q ⟨ad, ρ, st, R, S, w⟩ => by
    obtain ⟨k, s1, e1, w1⟩ := w.bind
    refine ⟨ad, ρ, st, R, S, ?_⟩
    rw [e1]
    intro ad1 H1 x1 S1
    cases k with
    | true => exact ⟨ad1, ρ, s1, R.mono x1, S1, w1.shift x1⟩
    | false => exact ⟨ad1, ρ, s1, R.mono x1, S1, w1.shift x1⟩
/-- tests -/
theorem t_not (ha : PT X a (TB X.K t)) : PT X (.UnaryOp .Not a pos) (TB X.K (tNot t)) :=
  PT.of (pt_not ha) fun σ H Q ⟨ad, ρ, st, R, S, w⟩ => by
    obtain ⟨k, s1, e1, w1⟩ := w.bind
    refine ⟨ad, ρ, st, R, S, ?_⟩
    rw [e1]
    exact fun ad1 H1 x1 S1 => w1 ad1 H1 x1 S1
theorem t_and1 (ha : PT X a (TB X.K t)) : PW X (.BoolOp .And [a] pos) (TB X.K t) := pw_and1 ha
theorem t_or1 (ha : PT X a (TB X.K t)) : PW X (.BoolOp .Or [a] pos) (TB X.K t) := pw_or1 ha
theorem t_and (ha : PT X a (TB X.K t)) (hb : PW X (.BoolOp .And (b :: rest) pos) (TB X.K u)) : PW X (.BoolOp .And (a :: b :: rest) pos) (TB X.K (tAnd t u)) :=
  PW.of (pw_and ha hb) fun σ H Q ⟨ad, ρ, st, R, S, w⟩ => by
    obtain ⟨k, s1, e1, w1⟩ := w.bind
    refine ⟨ad, ρ, st, R, S, ?_⟩
    rw [e1]
    intro ad1 H1 x1 S1
    cases k with
    | true => exact ⟨ad1, ρ, s1, R.mono x1, S1, w1.shift x1⟩
    | false => exact w1 ad1 H1 x1 S1
theorem t_or (ha : PT X a (TB X.K t)) (hb : PW X (.BoolOp .Or (b :: rest) pos) (TB X.K u)) : PW X (.BoolOp .Or (a :: b :: rest) pos) (TB X.K (tOr t u)) :=
  PW.of (pw_or ha hb) fun σ H Q ⟨ad, ρ, st, R, S, w⟩ => by
    obtain ⟨k, s1, e1, w1⟩ := w.bind
    refine ⟨ad, ρ, st, R, S, ?_⟩
    rw [e1]
    intro ad1 H1 x1 S1
    cases k with
    | true => exact w1 ad1 H1 x1 S1
    | false => exact ⟨ad1, ρ, s1, R.mono x1, S1, w1.shift x1⟩
theorem t_w (h : PW X a (TB X.K t)) : PT X a (TB X.K t) := h.pt
theorem t_tru (ha : PE X a (TD X.K ga)) (he : ∀ whole, isTrue a X.env whole = (do let v ← whole; standAt a.pos; holding [v] (truthy v)) := by intro _; rfl) : PT X a (TB X.K (tTru ga)) :=
  PT.of (pt_truth ha he) fun σ H Q ⟨ad, ρ, st, R, S, w⟩ => by
    obtain ⟨d, s1, e1, w1⟩ := w.bind
    refine ⟨ad, ρ, st, R, S, ?_⟩
    rw [e1]
    intro ad1 H1 x x1 r1 S1
    cases e2 : tru d s1 with
    | none => simp only [e2] at w1; exact w1.elim
    | some k =>
      simp only [e2] at w1
      have fin := w1 ad1 H1 x1 S1
      refine ⟨k, ?_, fin⟩
      cases r1 with
      | non => exact (Option.some.inj e2).symm
      | bl b => exact (Option.some.inj e2).symm
      | int i => exact (Option.some.inj e2).symm
      | str z =>
        have e3 : (if z.length ≤ SZ then some ((z.length : Int) != 0) else none) = some k := e2
        by_cases c : z.length ≤ SZ
        · rw [if_pos c] at e3
          exact ⟨SZ_line c, (Option.some.inj e3).symm⟩
        · rw [if_neg c] at e3; cases e3
      | tup h1 rs =>
        rename_i q xs ds
        refine .inr (.inl ⟨xs, h1, ?_⟩)
        have e3 : (!ds.isEmpty) = k := Option.some.inj e2
        rw [← e3]
        cases rs <;> rfl
      | cl h1 rs => cases e2
      | rf h1 =>
        rename_i n q
        have e5 : ((cellItems s1 n).map fun ds => !ds.isEmpty) = some k := e2
        cases e4 : cellItems s1 n with
        | none => rw [e4] at e5; cases e5
        | some ds =>
          rw [e4] at e5
          obtain ⟨xs, g1, g2⟩ := S1.items e4 h1
          refine .inl ⟨xs, g1, ?_⟩
          have e3 : (!ds.isEmpty) = k := Option.some.inj e5
          rw [← e3]
          cases g2 <;> rfl
end
/-! ### own calls -/
def spD (K : PySem.W.Frag) (n : Nat) (g : GF) : Sp := fun vs H Q _ => vs.length = n ∧ ∃ ad ds st, RVs K ad H vs ds ∧ RS K ad H st ∧ PostD K ad H Q (g ds st)
structure Cal (P : Program) (w : World) (K : PySem.W.Frag) (mg : Str → Option Value) (base : Heap) (k : Nat) (x : Str) (n : Nat) (g : GF) : Prop where
  ex : ∃ (f : Addr) (fd : FuncData) (ps : List Str), FnOk P w K mg base CX0 k f fd ps (spD K n g) ∧ mg x = some (.ref f) ∧ PySem.W.keepIn K (.ref f) = true ∧ Binds K fd ps []
  len : ∀ ds st, ds.length ≠ n → g ds st = .stuck
theorem gFn_len {np n : Nat} {b : GS} {ds : List D} {st : Store} (h : ds.length ≠ np) : gFn np n b ds st = .stuck := by
  unfold gFn
  rw [if_neg h] <;> rfl
section
variable {X : Cx} {e : Expr} {es : List Expr} {gs : GA} {p pos : Pos}
theorem d_call {k n : Nat} {x : Str} {g : GF} (C : Cal X.prog X.w X.K X.mg X.base k x n g) (hr : Room k X.A) (ha : PA X (e :: es) (TAs X.K gs)) (hg : Gl X x := by rfl) (hdb : (x == ("__debug__" : Str)) = false := by decide)
    (he : starEach (e :: es) X.env = (false, eval e X.env) :: starEach es X.env := by rfl) (hpl : (backTo pos (starEach es X.env)).any (·.1) = false := by rfl) : PE X (.Call (.Name x p) (e :: es) [] pos) (TD X.K (gCall g gs)) := by
  obtain ⟨f, fd, ps, F, hm, hk, hb⟩ := C.ex
  refine PE.of (pe_call F hr hg hm hk hb .nil pass0 ha hdb he hpl) fun σ H Q ⟨ad, ρ, st, R, S, w⟩ => ?_
  obtain ⟨ds, s1, e1, w1⟩ := w.bind
  refine ⟨ad, ρ, st, R, S, ?_⟩
  rw [e1]
  intro ad1 H1 vs x1 r1 S1
  rw [List.append_nil]
  refine ⟨?_, ad1, ds, s1, r1, S1, w1.shift x1⟩
  rw [r1.length]
  by_cases h : ds.length = n
  · exact h
  · rw [C.len ds s1 h] at w1; exact w1.elim
end
/-! ### targets -/
section
variable {X : Cx} {e : Expr} {es : List Expr} {g : GG} {r : GGs} {is js : List Nat} {pos : Pos}
theorem dg_name (i : Nat) {x : Str} (hN : X.N.Nodup) (hi : X.N[i]? = some x := by rfl) (hx : Loc X.env.scope x := by first | exact Or.inl rfl | exact Or.inr rfl) (hf : X.fn x = true ∨ X.env.scope.names.lookup x = some .local := by first | exact .inl rfl | exact .inr rfl) : PG X (.Name x pos) (TGt X.K [i] (gName i)) :=
  PG.of (pg_name hN hi hx hf) fun v σ H Q ⟨ad, d, ρ, st, rv, R, S, w⟩ => w ad H _ Ext.refl (R.set i rv) S (by simp) fun j hj => by
    have : j ≠ i := fun z => hj (by simp [z])
    exact List.getElem?_set_ne (Ne.symm this)
theorem dgs_nil : PGs X [] (TGts X.K [] ggNil) :=
  PGs.of pgs_nil fun vs σ H Q ⟨ad, ds, ρ, st, rv, R, S, w⟩ => by
    cases rv with
    | nil => exact ⟨rfl, w ad H σ Ext.refl R S rfl fun _ _ => rfl⟩
    | cons _ _ => exact w.elim
theorem PostG.shift {K : PySem.W.Frag} {ad ad' : List Addr} {H H' : Hp} {σ σ1 : L2.St} {Q : L2.St → Hp → Prop} {w : Res Env} (x : Ext K ad H ad' H') (hl : σ1.length = σ.length) (hs : ∀ j, j ∉ is → σ1[j]? = σ[j]?) (h : PostG K ad H σ (is ++ js) Q w) : PostG K ad' H' σ1 js Q w := by
  cases w with
  | ok ρ s => exact fun ad2 H2 σ2 x2 R2 S2 l2 q2 => h ad2 H2 σ2 (x.trans x2) R2 S2 (l2.trans hl) fun j hj => (q2 j fun z => hj (List.mem_append_right _ z)).trans (hs j fun z => hj (List.mem_append_left _ z))
  | stuck => exact h
  | exc _ _ _ => exact h
theorem dgs_cons (h1 : PG X e (TGt X.K is g)) (h2 : PGs X es (TGts X.K js r)) (hs : (assignEach (e :: es) X.env).map (·.2) = assign e X.env :: (assignEach es X.env).map (·.2) := by rfl) : PGs X (e :: es) (TGts X.K (is ++ js) (ggCons g r)) :=
  PGs.of (pgs_cons h1 h2 hs) fun vs σ H Q ⟨ad, ds, ρ, st, rv, R, S, w⟩ => by
    cases rv with
    | nil => exact w.elim
    | @cons v vs d ds hv tv =>
      obtain ⟨ρ1, s1, e1, w1⟩ := PostG.bind w
      refine ⟨v, vs, rfl, ad, d, ρ, st, hv, R, S, ?_⟩
      rw [e1]
      intro ad1 H1 σ1 x1 R1 S1 l1 q1
      exact ⟨ad1, ds, ρ1, s1, tv.mono x1, R1, S1, PostG.shift x1 l1 q1 w1⟩
theorem dg_tup {k n : Nat} (h : PGs X es (TGts X.K is r)) (hc : X.calm = true := by rfl) (hn : (assignEach es X.env).length = n := by rfl) (hst : (assignEach es X.env).findIdx? (·.1) = none := by rfl) : PG X (.Tuple es k pos) (TGt X.K is (gUnpack n r)) :=
  PG.of (pg_tup hc h hn hst) fun v σ H Q ⟨ad, d, ρ, st, rv, R, S, w⟩ => by
    cases rv with
    | @tup q xs ds h1 rs =>
      unfold gUnpack at w
      simp only at w
      by_cases c : ds.length = n
      · rw [if_pos c] at w
        exact ⟨q, xs, rfl, h1, by rw [rs.length]; exact c, ad, ds, ρ, st, rs, R, S, w⟩
      · rw [if_neg c] at w; exact w.elim
    | _ => exact w.elim
end
end DL
namespace DL
open PySem L2
section
variable {X : Cx} {K : PySem.W.Frag} {ad : List Addr} {H : Hp} {st : Store} {tg a b c e : Expr} {ga gb gc g : GE} {gs : GA} {t u : GT} {pos p : Pos}
/-! ### what a for walks -/
theorem gives_tup {q : Addr} {xs : List V} {ds : List D} (h : SqT K H q xs) (r : RVs K ad H xs ds) (gd : Store → Prop) : Gives K ad H (Itt K q) ⟨ds, gd⟩ := by
  intro ad1 H1 st1 x1 S1 _ i
  have h1 := x1.tup _ _ h
  have r1 := r.mono x1
  refine ⟨fun d hd => ?_, fun hi => ⟨xs, h1, by rw [r.length]; exact hi⟩⟩
  obtain ⟨v, g1, g2⟩ := r1.get hd
  refine ⟨⟨xs, v, h1, g1⟩, fun x H2 hy => ?_⟩
  obtain ⟨rfl, hy⟩ := hy
  have := hy xs h1
  rw [g1] at this
  cases this
  exact ⟨ad1, .refl, g2, S1⟩
theorem gives_list {n : Nat} {q : Addr} {ds : List D} (h : ad[n]? = some q) : Gives K ad H (Itl K q) ⟨ds, fun st' => cellItems st' n = some ds⟩ := by
  intro ad1 H1 st1 x1 S1 hg i
  obtain ⟨xs, g1, g2⟩ := S1.items hg (x1.at h)
  refine ⟨fun d hd => ?_, fun hi => ⟨xs, g1, by rw [g2.length]; exact hi⟩⟩
  obtain ⟨v, g3, g4⟩ := g2.get hd
  refine ⟨⟨xs, v, g1, g3⟩, fun x H2 hy => ?_⟩
  obtain ⟨rfl, hy⟩ := hy
  have := hy xs g1
  rw [g3] at this
  cases this
  exact ⟨ad1, .refl, g4, S1⟩
theorem gives_new {q : Addr} {xs : List V} {ds : List D} (h : H q = some (.lst xs)) (n : q ∉ ad) (r : RVs K ad H xs ds) (gd : Store → Prop) : Gives K ad H (Itl K q) ⟨ds, gd⟩ := by
  intro ad1 H1 st1 x1 S1 _ i
  have h1 : SqL K H1 q xs := SqL.of (x1.oth _ _ h n)
  have r1 := r.mono x1
  refine ⟨fun d hd => ?_, fun hi => ⟨xs, h1, by rw [r.length]; exact hi⟩⟩
  obtain ⟨v, g1, g2⟩ := r1.get hd
  refine ⟨⟨xs, v, h1, g1⟩, fun x H2 hy => ?_⟩
  obtain ⟨rfl, hy⟩ := hy
  have := hy xs h1
  rw [g1] at this
  cases this
  exact ⟨ad1, .refl, g2, S1⟩
theorem gives_cl {q : Addr} {xs : List V} {ds : List D} (h : SqC K H q xs) (r : RVs K ad H xs ds) (gd : Store → Prop) : Gives K ad H (Itl K q) ⟨ds, gd⟩ := by
  intro ad1 H1 st1 x1 S1 _ i
  have h1 : SqL K H1 q xs := (x1.cls _ _ h).sql
  have r1 := r.mono x1
  refine ⟨fun d hd => ?_, fun hi => ⟨xs, h1, by rw [r.length]; exact hi⟩⟩
  obtain ⟨v, g1, g2⟩ := r1.get hd
  refine ⟨⟨xs, v, h1, g1⟩, fun x H2 hy => ?_⟩
  obtain ⟨rfl, hy⟩ := hy
  have := hy xs h1
  rw [g1] at this
  cases this
  exact ⟨ad1, .refl, g2, S1⟩
theorem gives_range {lo : Int} {n : Nat} (gd : Store → Prop) : Gives K ad H (Itr lo n) ⟨fromTo lo n, gd⟩ := by
  intro ad1 H1 st1 x1 S1 _ i
  unfold fromTo
  refine ⟨fun d hd => ?_, fun hi => by show n ≤ i; simpa using hi⟩
  rw [List.getElem?_map] at hd
  cases e : (List.range n)[i]? with
  | none => rw [e] at hd; cases hd
  | some k =>
    rw [e] at hd
    obtain ⟨hl, hk⟩ := List.getElem?_eq_some_iff.mp e
    rw [List.getElem_range] at hk
    subst hk
    have : D.int (lo + (i : Nat)) = d := Option.some.inj hd
    subst this
    refine ⟨by show i < n; simpa using hl, fun x H2 hy => ?_⟩
    obtain ⟨rfl, rfl⟩ := hy
    exact ⟨ad1, .refl, .int _, S1⟩
theorem PI.or {t t' : TI} (h : PI X tg e t) (h' : PI X tg e t') : PI X tg e (fun σ H R => t σ H R ∨ t' σ H R) := ⟨fun pins s σ H R I w => by
  rcases w with w | w
  · exact h.run pins s σ H R I w
  · exact h'.run pins s σ H R I w⟩
theorem di_seq (ha : PE X a (TD X.K ga)) : PI X tg a (TIt X.K (wSeq ga)) :=
  PI.of (PI.or (pi_tup ha) (pi_list ha)) fun σ H R' ⟨ad, ρ, st, R, S, w⟩ => by
    obtain ⟨d, s1, e1, w1⟩ := w.bind
    cases d with
    | tup ds =>
      refine .inl ⟨ad, ρ, st, R, S, ?_⟩
      rw [e1]
      intro ad1 H1 x x1 r1 S1
      cases r1 with
      | @tup q xs _ h1 rs => exact ⟨q, rfl, ⟨xs, h1⟩, w1 ad1 H1 _ x1 S1 (gives_tup h1 rs _)⟩
    | rf n =>
      refine .inr ⟨ad, ρ, st, R, S, ?_⟩
      rw [e1]
      intro ad1 H1 x x1 r1 S1
      cases r1 with
      | @rf _ q h1 =>
        simp only at w1
        cases e2 : cellItems s1 n with
        | none => simp only [e2] at w1; exact w1.elim
        | some ds =>
          simp only [e2] at w1
          obtain ⟨xs, g1, g2⟩ := S1.items e2 h1
          exact ⟨q, rfl, ⟨xs, g1⟩, w1 ad1 H1 _ x1 S1 (gives_list h1)⟩
    | cl ds =>
      refine .inr ⟨ad, ρ, st, R, S, ?_⟩
      rw [e1]
      intro ad1 H1 x x1 r1 S1
      cases r1 with
      | @cl q xs _ h1 rs => exact ⟨q, rfl, ⟨xs, h1.sql⟩, w1 ad1 H1 _ x1 S1 (gives_cl h1 rs _)⟩
    | _ => exact w1.elim
theorem di_new (ha : PE X a (TL X.K gs)) : PI X tg a (TIt X.K (wNew gs)) :=
  PI.of (pi_list ha) fun σ H R' ⟨ad, ρ, st, R, S, w⟩ => by
    obtain ⟨ds, s1, e1, w1⟩ := w.bind
    refine ⟨ad, ρ, st, R, S, ?_⟩
    rw [e1]
    exact fun ad1 H1 q xs x1 hp np hl r1 S1 => ⟨q, rfl, ⟨xs, SqL.of hl⟩, w1 ad1 H1 _ x1 S1 (gives_new hl np r1 _)⟩
theorem smallI_ok {j : Int} (h : smallI j = true) : -(2 ^ 62) ≤ j ∧ j < 2 ^ 62 := by
  unfold smallI at h
  simpa only [Bool.and_eq_true, decide_eq_true_eq] using h
theorem di_range {x : Str} (hx : x = "range") (hm : X.mg x = none) (ha : PE X a (TD X.K ga)) (hg : Gl X x := by rfl) (hs : starEach [a] X.env = [(false, eval a X.env)] := by rfl) : PI X tg (.Call (.Name x p) [a] [] pos) (TIt X.K (wRange ga)) := by
  subst hx
  refine PI.of (pi_range1 hg hm (da_cons ha da_nil hs) hs) fun σ H R' ⟨ad, ρ, st, R, S, w⟩ => ?_
  obtain ⟨d, s1, e1, w1⟩ := w.bind
  refine ⟨ad, ρ, st, R, S, ?_⟩
  have e : gCons ga gNil ρ st = .ok [d] s1 := by unfold gCons gNil andThen; rw [e1]; rfl
  rw [e]
  intro ad1 H1 xs x1 r1 S1
  cases r1 with
  | cons r2 r3 =>
    cases r3
    obtain ⟨i, s2, e2, w2⟩ := w1.bind
    obtain ⟨rfl, rfl⟩ := asInt_ok e2
    cases r2
    by_cases c : smallI i = true
    · rw [if_pos c] at w2
      obtain ⟨h1, h2⟩ := smallI_ok c
      exact ⟨i, rfl, h1, h2, w2 ad1 H1 _ x1 S1 (gives_range _)⟩
    · rw [if_neg c] at w2; exact w2.elim
theorem di_range2 {x : Str} (hx : x = "range") (hm : X.mg x = none) (ha : PE X a (TD X.K ga)) (hb : PE X b (TD X.K gb)) (hg : Gl X x := by rfl) (hs : starEach [a, b] X.env = [(false, eval a X.env), (false, eval b X.env)] := by rfl) (hs2 : starEach [b] X.env = [(false, eval b X.env)] := by rfl) :
    PI X tg (.Call (.Name x p) [a, b] [] pos) (TIt X.K (wRange2 ga gb)) := by
  subst hx
  refine PI.of (pi_range2 hg hm (da_cons ha (da_cons hb da_nil hs2) (by rw [hs, hs2])) hs hs2) fun σ H R' ⟨ad, ρ, st, R, S, w⟩ => ?_
  obtain ⟨d, s1, e1, w1⟩ := w.bind
  obtain ⟨d', s2, e2, w2⟩ := w1.bind
  refine ⟨ad, ρ, st, R, S, ?_⟩
  have e : gCons ga (gCons gb gNil) ρ st = .ok [d, d'] s2 := by simp only [gCons, gNil, andThen, ret, e1, e2]
  rw [e]
  intro ad1 H1 xs x1 r1 S1
  cases r1 with
  | cons r2 r3 =>
    cases r3 with
    | cons r4 r5 =>
      cases r5
      obtain ⟨i, s3, e3, w3⟩ := w2.bind
      obtain ⟨rfl, rfl⟩ := asInt_ok e3
      obtain ⟨j, s4, e4, w4⟩ := w3.bind
      obtain ⟨rfl, rfl⟩ := asInt_ok e4
      cases r2
      cases r4
      by_cases c : (smallI i && smallI j) = true
      · rw [if_pos c] at w4
        rw [Bool.and_eq_true] at c
        obtain ⟨h1, h2⟩ := smallI_ok c.1
        obtain ⟨h3, h4⟩ := smallI_ok c.2
        exact ⟨i, j, rfl, ⟨h1, h2, h3, h4⟩, w4 ad1 H1 _ x1 S1 (gives_range _)⟩
      · rw [if_neg c] at w4; exact w4.elim
/-! ### statements -/
variable {st1 st2 : Stmt} {rest body orelse : List Stmt} {q1 q2 : GS} {tgt : Expr} {gg : GG} {is : List Nat}
theorem ss_nil : PSs X [] (TS' X.K gNext) := PSs.of pss_nil fun D σ H ⟨ad, ρ, st, R, S, w⟩ => w ad H σ .refl R S
theorem ss_one (h : PS X st1 (TS' X.K q1)) : PSs X [st1] (TS' X.K q1) := pss_one h
theorem ss_cons (h1 : PS X st1 (TS' X.K q1)) (h2 : PSs X rest (TS' X.K q2)) : PSs X (st1 :: rest) (TS' X.K (gSeq q1 q2)) :=
  PSs.of (pss_cons h1 h2) fun D σ H ⟨ad, ρ, st, R, S, w⟩ => by
    obtain ⟨f, s1, e1, w1⟩ := w.bind
    refine ⟨ad, ρ, st, R, S, ?_⟩
    rw [e1]
    cases f with
    | nx ρ1 => exact fun ad1 H1 σ1 x1 R1 S1 => ⟨ad1, ρ1, s1, R1, S1, w1.shift x1⟩
    | bk ρ1 => exact w1
    | ct ρ1 => exact w1
    | rt d => exact w1
theorem s_pass : PS X (.Pass pos) (TS' X.K gNext) := PS.of ps_pass fun D σ H ⟨ad, ρ, st, R, S, w⟩ => w ad H σ .refl R S
theorem s_break : PS X (.Break pos) (TS' X.K gBreak) := PS.of ps_break fun D σ H ⟨ad, ρ, st, R, S, w⟩ => w ad H σ .refl R S
theorem s_continue : PS X (.Continue pos) (TS' X.K gCont) := PS.of ps_continue fun D σ H ⟨ad, ρ, st, R, S, w⟩ => w ad H σ .refl R S
/-- a statement that is never reached -/
theorem s_never : PS X st1 (TS' X.K gStuck) := PS.of ps_never fun D σ H ⟨ad, ρ, st, R, S, w⟩ => w
theorem s_expr (he : PE X e (TD X.K g)) (hs : swapsWith e none pos.line X.env = pure false := by rfl) : PS X (.Expr e pos) (TS' X.K (gDrop g)) :=
  PS.of (ps_expr he hs) fun D σ H ⟨ad, ρ, st, R, S, w⟩ => by
    obtain ⟨d, s1, e1, w1⟩ := w.bind
    refine ⟨ad, ρ, st, R, S, ?_⟩
    rw [e1]
    exact fun ad1 H1 x x1 r1 S1 => w1 ad1 H1 σ x1 (R.mono x1) S1
theorem s_ret (he : PE X e (TD X.K g)) : PS X (.Return (some e) pos) (TS' X.K (gRet g)) :=
  PS.of (ps_ret he) fun D σ H ⟨ad, ρ, st, R, S, w⟩ => by
    obtain ⟨d, s1, e1, w1⟩ := w.bind
    refine ⟨ad, ρ, st, R, S, ?_⟩
    rw [e1]
    exact fun ad1 H1 x x1 r1 S1 => w1 ad1 H1 x x1 r1 S1
theorem s_retN : PS X (.Return none pos) (TS' X.K gRetN) := PS.of ps_retN fun D σ H ⟨ad, ρ, st, R, S, w⟩ => w ad H .non .refl .non S
theorem s_if {c : Expr} (hc : PT X c (TB X.K t)) (ha : PSs X body (TS' X.K q1)) (hb : PSs X orelse (TS' X.K q2)) : PS X (.If c body orelse pos) (TS' X.K (gIfS t q1 q2)) :=
  PS.of (ps_if hc ha hb) fun D σ H ⟨ad, ρ, st, R, S, w⟩ => by
    obtain ⟨k, s1, e1, w1⟩ := w.bind
    refine ⟨ad, ρ, st, R, S, ?_⟩
    rw [e1]
    intro ad1 H1 x1 S1
    cases k with
    | true => exact ⟨ad1, ρ, s1, R.mono x1, S1, w1.shift x1⟩
    | false => exact ⟨ad1, ρ, s1, R.mono x1, S1, w1.shift x1⟩
theorem s_asg (he : PE X e (TD X.K g)) (hg : PG X tgt (TGt X.K is gg)) (hs : swapsWithSole [tgt] e pos.line X.env = pure false := by rfl) (hw : swappedStores [tgt] e X.env = pure none := by rfl)
    (h1 : (assignEach [tgt] X.env).map (·.2) = [assign tgt X.env] := by rfl) : PS X (.Assign [tgt] e pos) (TS' X.K (gAsg g gg)) :=
  PS.of (ps_asg he hg hs hw h1) fun D σ H ⟨ad, ρ, st, R, S, w⟩ => by
    obtain ⟨d, s1, e1, w1⟩ := w.bind
    refine ⟨ad, ρ, st, R, S, ?_⟩
    rw [e1]
    intro ad1 H1 x x1 r1 S1
    obtain ⟨ρ1, s2, e2, w2⟩ := w1.bind
    refine ⟨ad1, d, ρ, s1, r1, R.mono x1, S1, ?_⟩
    rw [e2]
    exact fun ad2 H2 σ2 x2 R2 S2 _ _ => w2 ad2 H2 σ2 (x1.trans x2) R2 S2
theorem s_set {o i : Expr} {go gi : GE} {p2 : Pos} (he : PE X e (TD X.K g)) (ho : PE X o (TD X.K go)) (hi : PE X i (TD X.K gi)) (hs : swapsWithSole [.Subscript o i p2] e pos.line X.env = pure false := by rfl) (hw : swappedStores [.Subscript o i p2] e X.env = pure none := by rfl)
    (h1 : (assignEach [.Subscript o i p2] X.env).map (·.2) = [assign (.Subscript o i p2) X.env] := by rfl)
    (hp : ∀ v, assign (.Subscript o i p2) X.env v = (do
      let ov ← holding [v] (eval o X.env)
      let iv ← holding [v, ov] (eval i X.env)
      standAt p2
      holding [v, ov, iv] (setItem ov iv v)
      release [v, ov, iv] []) := by intro _; rfl) : PS X (.Assign [.Subscript o i p2] e pos) (TS' X.K (gSet g go gi)) :=
  PS.of (ps_asg he (pg_sub ho hi set_list hp) hs hw h1) fun D σ H ⟨ad, ρ, st, R, S, w⟩ => by
    obtain ⟨d, s1, e1, w1⟩ := w.bind
    refine ⟨ad, ρ, st, R, S, ?_⟩
    rw [e1]
    refine fun ad1 H1 x x1 r1 S1 => ⟨ad1, ρ, s1, R.mono x1, S1, ?_⟩
    obtain ⟨do_, s2, e2, w2⟩ := w1.bind
    rw [e2]
    refine fun ad2 H2 y x2 r2 S2 => ⟨ad2, ρ, s2, R.mono (x1.trans x2), S2, ?_⟩
    obtain ⟨di_, s3, e3, w3⟩ := w2.bind
    rw [e3]
    intro ad3 H3 z x3 r3 S3
    obtain ⟨un, s4, e4, w4⟩ := w3.bind
    have r2' := r2.mono x3
    have r1' := (r1.mono x2).mono x3
    unfold vSet at e4
    cases r2' with
    | @rf n q h1 =>
      cases r3 with
      | int k =>
        simp only at e4
        cases e5 : s3[n]? with
        | none => simp only [e5] at e4; cases e4
        | some c =>
          cases c with
          | lst ds =>
            simp only [e5] at e4
            cases e6 : ixOf ds.length k with
            | none => simp only [e6] at e4; cases e4
            | some j =>
              simp only [e6] at e4
              injection e4 with _ e7
              subst e7
              obtain ⟨xs, g1, g2⟩ := S3.cell n _ q e5 h1
              obtain ⟨S4, x4⟩ := S3.set (es := ds.set j d) (xs := xs.set j x) e5 h1 (g2.set r1' j)
              exact ⟨q, xs, k, j, rfl, rfl, g1, by rw [g2.length]; exact e6, w4 ad3 _ σ (((x1.trans x2).trans x3).trans x4) (R.mono (((x1.trans x2).trans x3).trans x4)) S4⟩
      | _ => cases e4
    | _ => cases r3 <;> cases e4
theorem d_app {o : Expr} {go : GE} {apos cpos : Pos} {m : Str} (hm : m = "append") (ho : PE X o (TD X.K go)) (he : PE X e (TD X.K g)) (hbase : attributeBase o m X.env (eval o X.env) = eval o X.env := by rfl)
    (hline : (apos.endLine == cpos.line) = true := by rfl) (hs : starEach [e] X.env = (false, eval e X.env) :: starEach [] X.env := by rfl) : PE X (.Call (.Attribute o m apos) [e] [] cpos) (TD X.K (gApp go g)) := by
  subst hm
  refine PE.of (pe_bm PySem.F.plainAttrs_list PySem.F.slot_list_append PySem.F.type_list_append mt_append ho (da_cons he da_nil hs) hbase (by rw [hs]; rfl) hline hs (by rfl)) fun σ H Q ⟨ad, ρ, st, R, S, w⟩ => ?_
  obtain ⟨d, s1, e1, w1⟩ := w.bind
  refine ⟨ad, ρ, st, R, S, ?_⟩
  rw [e1]
  intro ad1 H1 x x1 r1 S1
  obtain ⟨v, s2, e2, w2⟩ := w1.bind
  have e : gCons g gNil ρ s1 = .ok [v] s2 := by unfold gCons gNil andThen; rw [e2]; rfl
  cases r1 with
  | @rf n q h1 =>
    have tl : ∃ xs, SqL X.K H1 q xs := by
      have hl : n < s1.length := by rw [← S1.len]; exact (List.getElem?_eq_some_iff.mp h1).1
      have hc := S1.cell n _ q (List.getElem?_eq_getElem hl) h1
      cases e5 : s1[n] with
      | lst ds => rw [e5] at hc; obtain ⟨xs, g1, _⟩ := hc; exact ⟨xs, SqL.of g1⟩
    obtain ⟨xs0, tl⟩ := tl
    refine ⟨.inl ⟨rfl, xs0, tl⟩, ad1, ρ, s1, R.mono x1, S1, ?_⟩
    rw [e]
    intro ad2 H2 vs x2 r2 S2
    cases r2 with
    | cons r3 r4 =>
      cases r4
      unfold vApp at w2
      simp only at w2
      cases e5 : s2[n]? with
      | none => simp only [e5] at w2; exact w2.elim
      | some c =>
        cases c with
        | lst ds =>
          simp only [e5] at w2
          by_cases c : ds.length < SZ
          · rw [if_pos c] at w2
            have h2 := x2.at h1
            obtain ⟨xs, g1, g2⟩ := S2.cell n _ q e5 h2
            obtain ⟨S4, x4⟩ := S2.set (es := ds ++ [v]) (xs := xs ++ [_]) e5 h2 (g2.append (.cons r3 .nil))
            exact ⟨q, xs, _, rfl, rfl, g1, by rw [g2.length]; exact SZ_lt c, w2 ad2 _ .non ((x1.trans x2).trans x4) .non S4⟩
          · rw [if_neg c] at w2; exact w2.elim
  | _ => exact w2.elim
end
end DL
namespace DL
open PySem L2
theorem andThen_ok {α β : Type} {m : M α} {f : α → M β} {st st' : Store} {b : β} (h : andThen m f st = .ok b st') : ∃ a s1, m st = .ok a s1 ∧ f a s1 = .ok b st' := by
  unfold andThen at h
  cases e : m st with
  | ok a s => rw [e] at h; exact ⟨a, s, rfl, h⟩
  | stuck => rw [e] at h; cases h
  | exc _ _ _ => rw [e] at h; cases h
theorem walkC_pos {α : Type} {gd : Store → Prop} {m : Store → Res α} {st : Store} (h : gd st) : walkC gd m st = m st := by
  unfold walkC; rw [if_pos h]
theorem walkC_neg {α : Type} {gd : Store → Prop} {m : Store → Res α} {st : Store} (h : ¬ gd st) : walkC gd m st = .stuck := by
  unfold walkC; rw [if_neg h]
theorem drop_cons {α : Type} {l : List α} {i : Nat} {d : α} {r : List α} (h : l.drop i = d :: r) : l[i]? = some d ∧ l.drop (i + 1) = r ∧ i < l.length := by
  have h1 : i < l.length := by
    have := congrArg List.length h
    rw [List.length_drop, List.length_cons] at this
    omega
  have h2 := List.drop_eq_getElem_cons h1
  rw [h] at h2
  injection h2 with h3 h4
  exact ⟨by rw [List.getElem?_eq_getElem h1, h3], h4.symm, h1⟩
theorem drop_nil {α : Type} {l : List α} {i : Nat} (h : l.drop i = []) : l.length ≤ i := List.drop_eq_nil_iff.mp h
section
variable {X : Cx} {K : PySem.W.Frag} {ad ad' : List Addr} {H H' : Hp} {st : Store} {tg iter : Expr} {body : List Stmt} {gi : GI} {gg : GG} {gb : GS} {is : List Nat} {pos : Pos}
theorem s_for (hi : PI X tg iter (TIt X.K gi)) (hg : PG X tg (TGt X.K is gg)) (hb : PSs X body (TS' X.K gb)) (hp : PassesOwn (model X.prog X.w) X.A X.env X.xe := by exact PassesOwn.never) (hc : X.calm = true := by rfl)
    (hs : ∀ x, foldedSetIterable iter X.env x = pure x := by intro _; rfl) : PS X (.For tg iter body [] pos) (TS' X.K (gFor gi gg gb)) :=
  PS.of (ps_for hp hc hi hg hb hs) fun D σ H ⟨ad, ρ, st, R, S, w⟩ => by
    obtain ⟨k, s1, e1, w1⟩ := w.bind
    refine ⟨ad, ρ, st, R, S, ?_⟩
    rw [e1]
    intro ad1 H1 J x1 S1 G
    refine ⟨fun i m σ' H' => ∃ ad2 ρ2 st2, Ext X.K ad1 H1 ad2 H' ∧ RE X.K ad2 H' σ' ρ2 ∧ RS X.K ad2 H' st2 ∧ m = k.items.length - i ∧ PostS X.K ad H D (gLoop k.guard gg gb (k.items.drop i) ρ2 st2), ⟨_, ad1, ρ, s1, .refl, R.mono x1, S1, rfl, w1⟩, ?_⟩
    rintro i m σ' H' ⟨ad2, ρ2, st2, x2, R2, S2, hm, w2⟩
    cases hd : k.items.drop i with
    | nil =>
      rw [hd] at w2
      unfold gLoop at w2
      by_cases hgd : k.guard st2
      · rw [walkC_pos hgd] at w2
        exact .inl ⟨(G ad2 H' st2 x2 S2 hgd i).2 (drop_nil hd), w2 ad2 H' σ' (x1.trans x2) R2 S2⟩
      · rw [walkC_neg hgd] at w2; exact w2.elim
    | cons d rest =>
      obtain ⟨hd1, hd2, hd3⟩ := drop_cons hd
      rw [hd] at w2
      unfold gLoop at w2
      by_cases hgd : k.guard st2
      · rw [walkC_pos hgd] at w2
        obtain ⟨hgo, hyl⟩ := (G ad2 H' st2 x2 S2 hgd i).1 d hd1
        refine .inr ⟨hgo, fun σ3 H3 => ∃ ad2 ρ2 st2, Ext X.K ad1 H1 ad2 H3 ∧ RE X.K ad2 H3 σ3 ρ2 ∧ RS X.K ad2 H3 st2 ∧ PostS X.K ad H D (gLoop k.guard gg gb (k.items.drop (i + 1)) ρ2 st2), ?_, ?_⟩
        · rintro σ3 H3 ⟨a3, r3, t3, q1, q2, q3, q4⟩
          exact ⟨k.items.length - (i + 1), by omega, a3, r3, t3, q1, q2, q3, rfl, q4⟩
        · intro x H3 hy
          obtain ⟨ad3, x3, rv, S3⟩ := hyl x H3 hy
          obtain ⟨ρ3, s4, e4, w4⟩ := w2.bind
          refine ⟨ad3, d, ρ2, st2, rv, R2.mono x3, S3, ?_⟩
          rw [e4]
          intro ad4 H4 σ4 x4 R4 S4 _ _
          obtain ⟨f, s5, e5, w5⟩ := w4.bind
          refine ⟨ad4, ρ3, s4, R4, S4, ?_⟩
          rw [e5]
          have x14 := (x2.trans x3).trans x4
          rw [hd2]
          cases f with
          | nx ρ5 => exact fun ad5 H5 σ5 x5 R5 S5 => ⟨ad5, ρ5, s5, x14.trans x5, R5, S5, w5⟩
          | ct ρ5 => exact fun ad5 H5 σ5 x5 R5 S5 => ⟨ad5, ρ5, s5, x14.trans x5, R5, S5, w5⟩
          | bk ρ5 => exact fun ad5 H5 σ5 x5 R5 S5 => w5 ad5 H5 σ5 ((x1.trans x14).trans x5) R5 S5
          | rt d => exact fun ad5 H5 v x5 r5 S5 => w5 ad5 H5 v ((x1.trans x14).trans x5) r5 S5
      · rw [walkC_neg hgd] at w2; exact w2.elim
/-! ### comprehensions -/
theorem wipe_get (σ : L2.St) : ∀ (vs : List Nat) (j : Nat), (wipe σ vs)[j]? = if j ∈ vs then (σ[j]?).map (fun _ => none) else σ[j]?
  | [], j => by simp [wipe]
  | v :: vs, j => by
    unfold L2.wipe
    by_cases h : j = v
    · subst h
      rw [if_pos List.mem_cons_self]
      by_cases hl : j < σ.length
      · rw [List.getElem?_set_self (by rw [wipe_length]; exact hl), List.getElem?_eq_getElem hl]
        rfl
      · rw [List.getElem?_eq_none (by rw [List.length_set, wipe_length]; omega), List.getElem?_eq_none (by omega)]
        rfl
    · rw [List.getElem?_set_ne (Ne.symm h), wipe_get σ vs j]
      by_cases h2 : j ∈ vs
      · rw [if_pos h2, if_pos (List.mem_cons_of_mem _ h2)]
      · rw [if_neg h2, if_neg (fun z => (List.mem_cons.mp z).elim h h2)]
theorem wipe_same {σ σ2 : L2.St} {vs : List Nat} (hl : σ2.length = σ.length) (h : ∀ j, j ∉ vs → σ2[j]? = (wipe σ vs)[j]?) : wipe σ2 vs = wipe σ vs := by
  refine List.ext_getElem? fun j => ?_
  rw [wipe_get, wipe_get]
  by_cases hj : j ∈ vs
  · rw [if_pos hj, if_pos hj]
    by_cases hz : j < σ.length
    · rw [List.getElem?_eq_getElem hz, List.getElem?_eq_getElem (by rw [hl]; exact hz)]; rfl
    · rw [List.getElem?_eq_none (by omega), List.getElem?_eq_none (by omega)]
  · rw [if_neg hj, if_neg hj, h j hj, wipe_get, if_neg hj]
mutual
theorem RV.tupm (k : (∀ a xs, SqT K H a xs → SqT K H' a xs) ∧ ∀ a xs, SqC K H a xs → SqC K H' a xs) : ∀ {v : V} {d : D}, RV K ad H v d → RV K ad H' v d
  | _, _, .non => .non
  | _, _, .bl b => .bl b
  | _, _, .int i => .int i
  | _, _, .str x => .str x
  | _, _, .tup h r => .tup (k.1 _ _ h) (RVs.tupm k r)
  | _, _, .rf h => .rf h
  | _, _, .cl h r => .cl (k.2 _ _ h) (RVs.tupm k r)
theorem RVs.tupm (k : (∀ a xs, SqT K H a xs → SqT K H' a xs) ∧ ∀ a xs, SqC K H a xs → SqC K H' a xs) : ∀ {vs : List V} {ds : List D}, RVs K ad H vs ds → RVs K ad H' vs ds
  | _, _, .nil => .nil
  | _, _, .cons h t => .cons (RV.tupm k h) (RVs.tupm k t)
end
theorem RS.off {q : Addr} {xs ys : List V} (S : RS K ad H st) (h : H q = some (.lst xs)) (n : q ∉ ad) : RS K ad (upd H q (.lst ys)) st :=
  ⟨S.len, S.nd, fun m c a h1 h2 => by
    have hc := S.cell m c a h1 h2
    have ne : a ≠ q := fun z => n (by rw [← z]; exact List.mem_of_getElem? h2)
    have k : (∀ a xs, SqT K H a xs → SqT K (upd H q (.lst ys)) a xs) ∧ ∀ a xs, SqC K H a xs → SqC K (upd H q (.lst ys)) a xs := ⟨fun a xs z => sqT_upd (notup_lst h) z, fun a xs z => sqC_upd (nofrz_lst h) z⟩
    cases c with
    | lst ds => obtain ⟨zs, g1, g2⟩ := hc; exact ⟨zs, by rw [upd_ne ne]; exact g1, g2.tupm k⟩
⟩
theorem Ext.off {q : Addr} {xs ys : List V} (e : Ext K ad H ad' H') (h0 : H q = none) (h : H' q = some (.lst xs)) : Ext K ad H ad' (upd H' q (.lst ys)) :=
  ⟨e.more, fun a zs z => sqT_upd (notup_lst h) (e.tup a zs z), fun a zs z => sqC_upd (nofrz_lst h) (e.cls a zs z), fun a o z n => by
    rw [upd_ne (ne_of_none z h0)]
    exact e.oth a o z n⟩
theorem Ext.new {q : Addr} (e : Ext K ad H ad' H') (h : H' q = none) {o : HO} : Ext K ad H ad' (upd H' q o) := e.trans (ext_new h)
variable {elt : Expr} {ifs : List Expr} {scope : Scope} {own : List (Str × Nat)} {ge : GE} {gt : GT}
theorem run_lc {vs : List Nat} (hsub : ∀ j, j ∈ is → j ∈ vs) {σ : L2.St} {Q : VK} (ww : TL K (gLc gi gg gt ge vs) σ H Q) : tLc (TIt K gi) (TGt K is gg) (TB K gt) (TD K ge) vs σ H Q := by
    obtain ⟨ad, ρ, st, R, S, w⟩ := ww
    obtain ⟨k, s1, e1, w1⟩ := w.bind
    refine ⟨ad, ρ, st, R, S, ?_⟩
    rw [e1]
    intro ad1 H1 J x1 S1 G q hq
    obtain ⟨total, s9, e9, w9⟩ := w1.bind
    cases e8 : small total s9 with
    | stuck => rw [e8] at w9; exact w9.elim
    | exc _ _ _ => rw [e8] at w9; exact w9.elim
    | ok ds' s9' =>
      obtain ⟨hsz, rfl, rfl⟩ := small_ok e8
      rw [e8] at w9
      have nq : q ∉ ad1 := S1.not_mem hq
      refine ⟨fun i m H' => ∃ ad2 st2 acc es rest, Ext K ad1 H1 ad2 H' ∧ RS K ad2 H' st2 ∧ q ∉ ad2 ∧ H' q = some (.lst acc) ∧ RVs K ad2 H' acc es ∧ m = k.items.length - i ∧
          gComp k.guard gg gt ge (wipeE ρ vs) (k.items.drop i) st2 = .ok rest s9' ∧ es ++ rest = ds', ?_, ?_⟩
      · exact ⟨_, ad1, s1, [], [], ds', .new .refl hq, S1.upd_new hq, nq, upd_same, .nil, rfl, e9, rfl⟩
      · rintro i m H' ⟨ad2, st2, acc, es, rest, x2, S2, nq2, hl, ra, hm, hgc, htot⟩
        cases hd : k.items.drop i with
        | nil =>
          rw [hd] at hgc
          unfold gComp at hgc
          by_cases hgd : k.guard st2
          · rw [walkC_pos hgd] at hgc
            have z : Res.ok ([] : List D) st2 = .ok rest s9' := hgc
            injection z with z1 z2
            subst z1 z2
            rw [List.append_nil] at htot
            subst htot
            exact .inl ⟨(G ad2 H' st2 x2 S2 hgd i).2 (drop_nil hd), w9 ad2 H' q acc (x1.trans x2) (x1.none_of S1 hq) nq2 hl ra S2⟩
          · rw [walkC_neg hgd] at hgc; cases hgc
        | cons d rst =>
          obtain ⟨hd1, hd2, hd3⟩ := drop_cons hd
          rw [hd] at hgc
          unfold gComp at hgc
          by_cases hgd : k.guard st2
          · rw [walkC_pos hgd] at hgc
            obtain ⟨hgo, hyl⟩ := (G ad2 H' st2 x2 S2 hgd i).1 d hd1
            refine .inr ⟨hgo, fun H3 => ∃ ad2 st2 acc es rest, Ext K ad1 H1 ad2 H3 ∧ RS K ad2 H3 st2 ∧ q ∉ ad2 ∧ H3 q = some (.lst acc) ∧ RVs K ad2 H3 acc es ∧
              gComp k.guard gg gt ge (wipeE ρ vs) (k.items.drop (i + 1)) st2 = .ok rest s9' ∧ es ++ rest = ds', ?_, ?_⟩
            · rintro H3 ⟨a3, t3, acc3, es3, r3, q1, q2, q3, q4, q5, q6, q7⟩
              exact ⟨k.items.length - (i + 1), by omega, a3, t3, acc3, es3, r3, q1, q2, q3, q4, q5, rfl, q6, q7⟩
            · intro x H3 hy
              obtain ⟨ad3, x3, rv, S3⟩ := hyl x H3 hy
              obtain ⟨ρ3, s4, e4, h4⟩ := andThen_ok hgc
              have R0 : RE K ad3 H3 (wipe σ vs) (wipeE ρ vs) := ((R.mono x1).wipe _).mono (x2.trans x3)
              refine ⟨ad3, d, wipeE ρ vs, st2, rv, R0, S3, ?_⟩
              rw [e4]
              intro ad4 H4 σ4 x4 R4 S4 l4 q4
              refine ⟨wipe_same (by rw [l4, wipe_length]) fun j hj => q4 j fun z => hj (hsub j z), ?_⟩
              obtain ⟨b, s5, e5, h5⟩ := andThen_ok h4
              refine ⟨ad4, ρ3, s4, R4, S4, ?_⟩
              rw [e5]
              intro ad5 H5 x5 S5
              have x35 := (x3.trans x4).trans x5
              have nq5 : q ∉ ad5 := by
                obtain ⟨mm, hmm, fm⟩ := x35.more
                rw [hmm]
                intro z
                rcases List.mem_append.mp z with z | z
                · exact nq2 z
                · have := (fm q z).1
                  rw [hl] at this; cases this
              have hl5 := x35.oth q _ hl nq2
              cases b with
              | false =>
                rw [if_neg Bool.false_ne_true]
                rw [if_neg Bool.false_ne_true] at h5
                exact ⟨ad5, s5, acc, es, rest, x2.trans x35, S5, nq5, hl5, ra.mono x35, by rw [hd2]; exact h5, htot⟩
              | true =>
                rw [if_pos rfl]
                rw [if_pos rfl] at h5
                obtain ⟨y, s6, e6, h6⟩ := andThen_ok h5
                obtain ⟨r7, s7, e7, h7⟩ := andThen_ok h6
                have z : Res.ok (y :: r7) s7 = .ok rest s9' := h7
                injection z with z1 z2
                subst z1 z2
                refine ⟨ad5, ρ3, s5, R4.mono x5, S5, ?_⟩
                rw [e6]
                intro ad6 H6 v x6 r6 S6
                have x36 := x35.trans x6
                have nq6 : q ∉ ad6 := by
                  obtain ⟨mm, hmm, fm⟩ := x6.more
                  rw [hmm]
                  intro z
                  rcases List.mem_append.mp z with z | z
                  · exact nq5 z
                  · have := (fm q z).1
                    rw [hl5] at this; cases this
                have hl6 := x6.oth q _ hl5 nq5
                have ra6 := ra.mono x36
                have kk : (∀ a xs, SqT K H6 a xs → SqT K (upd H6 q (.lst (acc ++ [v]))) a xs) ∧ ∀ a xs, SqC K H6 a xs → SqC K (upd H6 q (.lst (acc ++ [v]))) a xs := ⟨fun a xs z => sqT_upd (notup_lst hl6) z, fun a xs z => sqC_upd (nofrz_lst hl6) z⟩
                refine ⟨acc, hl6, ?_, ad6, s6, acc ++ [v], es ++ [y], r7, (x2.trans x36).off hq hl6, S6.off hl6 nq6, nq6, upd_same, (ra6.append (.cons r6 .nil)).tupm kk, by rw [hd2]; exact e7, by rw [← htot]; simp⟩
                rw [ra.length]
                refine SZ_lt ?_
                have : ds'.length = es.length + (r7.length + 1) := by rw [← htot]; simp
                omega
          · rw [walkC_neg hgd] at hgc; cases hgc
variable {pre : Expr}
theorem dl_comp (hi : PI X tg iter (TIt X.K gi)) (hN : X.N.Nodup) (ok : BlkOk X.N X.env.scope scope own)
    (hg : ∀ (s : Shared) (H : Hp) (C : Addr) (cl : List (Str × Addr)) (fp : List Addr), PG (X.blk s H scope (compEnvC scope cl C X.env) fp) tg (TGt X.K is gg))
    (ht : ∀ (s : Shared) (H : Hp) (C : Addr) (cl : List (Str × Addr)) (fp : List Addr), PTs (X.blk s H scope (compEnvC scope cl C X.env) fp) ifs (TB X.K gt))
    (he : ∀ (s : Shared) (H : Hp) (C : Addr) (cl : List (Str × Addr)) (fp : List Addr), PE (X.blk s H scope (compEnvC scope cl C X.env) fp) elt (TD X.K ge))
    (hsub : ∀ j, j ∈ is → j ∈ own.map (·.2)) (hc : X.calm = true := by rfl) (hs : ∀ x, foldedSetIterable iter X.env x = pure x := by intro _; rfl) :
    PE X (.ListComp elt [⟨tg, iter, ifs, 0⟩] scope pos) (TL X.K (gLc gi gg gt ge (own.map (·.2)))) :=
  PE.of (pe_lc hc hN hi ok hg ht he hs) fun σ H Q w => run_lc hsub w
/-- y = [.. for ..], y a plain local name -/
theorem s_setLc {i : Nat} {y : Str} {py spos : Pos} (hi : PI X tg iter (TIt X.K gi)) (hN : X.N.Nodup) (ok : BlkOk X.N X.env.scope scope own)
    (hg : ∀ (s : Shared) (H : Hp) (C : Addr) (cl : List (Str × Addr)) (fp : List Addr), PG (X.blk s H scope (compEnvC scope cl C X.env) fp) tg (TGt X.K is gg))
    (ht : ∀ (s : Shared) (H : Hp) (C : Addr) (cl : List (Str × Addr)) (fp : List Addr), PTs (X.blk s H scope (compEnvC scope cl C X.env) fp) ifs (TB X.K gt))
    (he : ∀ (s : Shared) (H : Hp) (C : Addr) (cl : List (Str × Addr)) (fp : List Addr), PE (X.blk s H scope (compEnvC scope cl C X.env) fp) elt (TD X.K ge))
    (hsub : ∀ j, j ∈ is → j ∈ own.map (·.2)) (hsw : swapsWith (.ListComp elt [⟨tg, iter, ifs, 0⟩] scope pos) (some (.Name y py)) spos.line X.env = pure true) (hyl : X.env.scope.names.lookup y = some .local := by rfl) (hy : X.N[i]? = some y := by rfl)
    (hc : X.calm = true := by rfl) (hs : ∀ x, foldedSetIterable iter X.env x = pure x := by intro _; rfl) :
    PS X (.Assign [.Name y py] (.ListComp elt [⟨tg, iter, ifs, 0⟩] scope pos) spos) (TS' X.K (gAsg (gNew (gLc gi gg gt ge (own.map (·.2)))) (gName i))) :=
  PS.of (ps_setLc hc hN hy hyl hsw hi ok hg ht he hs) fun D σ H ⟨ad, ρ, st, R, S, w⟩ => by
    obtain ⟨d, s1, e1, w1⟩ := w.bind
    obtain ⟨ds, s0, e0, e2⟩ := andThen_ok e1
    unfold newList at e2
    injection e2 with e3 e4
    subst e3 e4
    refine run_lc hsub ⟨ad, ρ, st, R, S, ?_⟩
    rw [e0]
    intro ad1 H1 q xs x1 hq np hl r1 S1
    refine w1 (ad1 ++ [q]) H1 _ (x1.push hq S) ((R.mono (x1.push hq S)).set i (.rf ?_)) (S1.push hl np r1)
    rw [← S1.len]
    simp
/-- no test -/
theorem ts_nil : PTs X [] (TB K tYes) := ⟨fun pins s σ H Q I ⟨ad, ρ, st, R, S, w⟩ => pts_nil.run pins s σ H Q I (w ad H .refl S)⟩
theorem ts_one {c : Expr} (h : PT X c (TB K gt)) : PTs X [c] (TB K gt) := pts_one h
end
/-! ### a def -/
section
variable {P : Program} {w : World} {K : PySem.W.Frag} {mg : Str → Option Value} {base : Heap}
theorem fn_mk {x qual : Str} {sd : Stmt} {f : Addr} {fd : FuncData} {N ps : List Str} {k : Nat} {b : GS} (F : Fun K x qual sd f fd) (S : FnScope N ps (defScope sd))
    (body : ∀ (cdv : Value) (A : Around) (outer : List PySem.Env) (s : Shared) (H : Hp) (E : XK), Room k (A.deeper (PyProof.Rows.envOfC qual (defScope sd) s.heap.objs.size f cdv)) → PSs (cxOf CX0 P w K mg base N qual (defScope sd) f cdv A outer s H E).nox (defBody sd) (TS' K b)) :
    FnOk P w K mg base CX0 (k + 1) f fd ps (spD K ps.length (gFn ps.length N.length b)) := by
  refine F.ok S (fun vs H Q E h => h.1) (fun cdv A outer s H vs Q E hr h => ⟨TS' K b, body cdv A outer s H E hr, ?_⟩)
  obtain ⟨hl, ad, ds, st, r, Sx, q⟩ := h
  refine ⟨ad, startE N.length ds, st, RE.start N.length N rfl r, Sx, ?_⟩
  unfold gFn at q
  rw [if_pos (by rw [← r.length]; exact hl)] at q
  obtain ⟨fl, s1, e1, q1⟩ := q.bind
  rw [e1]
  cases fl with
  | nx ρ => exact fun ad' H' σ' x _ S' => q1 ad' H' .non x .non S'
  | rt d => exact fun ad' H' v x r' S' => q1 ad' H' v x r' S'
  | bk ρ => exact q1.elim
  | ct ρ => exact q1.elim
theorem cal_mk {x : Str} {f : Addr} {fd : FuncData} {ps : List Str} {k n : Nat} {b : GS} (F : FnOk P w K mg base CX0 k f fd ps (spD K ps.length (gFn ps.length n b))) (hm : mg x = some (.ref f)) (hk : PySem.W.keepIn K (.ref f) = true) (hb : Binds K fd ps []) :
    Cal P w K mg base k x ps.length (gFn ps.length n b) := ⟨⟨f, fd, ps, F, hm, hk, hb⟩, fun ds st h => gFn_len h⟩
theorem sp_law {g : GF} {H : Hp} {a : Addr} {ns : List Int} {E : XK} (h : ∃ st', g [.cl (ns.map D.int)] [] = .ok (.bl true) st') (ho : Only H) (hS : SqL K H a (ns.map V.int)) : spD K 1 g [.ref a] H (fun v _ => v = .bl true) E := by
  obtain ⟨st', h⟩ := h
  have hc : SqC K H a (ns.map V.int) := by
    rcases hS with (h1 | h1) | h1
    · rcases ho a with z | ⟨o, xs, z⟩
      · rw [h1] at z; cases z
      · rw [h1] at z; cases z
    · exact .inl h1
    · exact .inr h1
  have rv : ∀ ns : List Int, RVs K [] H (ns.map V.int) (ns.map D.int) := fun ns => by
    induction ns with
    | nil => exact .nil
    | cons n r ih => exact .cons (.int n) ih
  refine ⟨rfl, [], [.cl (ns.map D.int)], [], .cons (.cl hc (rv ns)) .nil, ⟨rfl, List.nodup_nil, fun n c a h1 _ => by simp at h1⟩, ?_⟩
  rw [h]
  intro ad' H' v x r S
  cases r
  rfl
theorem u65 {k : Nat} {A : Around} (hr : Room k A) : A.units + 65 < cLine := by have := hr.un; omega
end
end DL
/-! Running the language of values: what holds behind a run. -/
namespace DL
open PySem
def Run {α : Type} (m : M α) (st : Store) (Q : α → Store → Prop) : Prop := match m st with
  | .ok a s => Q a s
  | _ => False
section
variable {α β : Type} {m : M α} {f : α → M β} {st : Store} {Q : α → Store → Prop} {R : β → Store → Prop}
theorem Run.mono {P : α → Store → Prop} (h : Run m st P) (k : ∀ a s, P a s → Q a s) : Run m st Q := by
  unfold Run at h ⊢
  cases e : m st with
  | ok a s => rw [e] at h; exact k a s h
  | stuck => rw [e] at h; exact h
  | exc _ _ _ => rw [e] at h; exact h
theorem Run.get (h : Run m st Q) : ∃ a s, m st = .ok a s ∧ Q a s := by
  unfold Run at h
  cases e : m st with
  | ok a s => rw [e] at h; exact ⟨a, s, rfl, h⟩
  | stuck => rw [e] at h; exact h.elim
  | exc _ _ _ => rw [e] at h; exact h.elim
theorem Run.of {a : α} {s : Store} (e : m st = .ok a s) (h : Q a s) : Run m st Q := by
  unfold Run; rw [e]; exact h
theorem Run.det {P : α → Store → Prop} (h : Run m st Q) (g : Run m st P) : Run m st fun a s => Q a s ∧ P a s := by
  obtain ⟨a, s, e, q⟩ := h.get
  obtain ⟨a', s', e', q'⟩ := g.get
  rw [e] at e'
  injection e' with e1 e2
  subst e1 e2
  exact Run.of e ⟨q, q'⟩
@[simp] theorem run_ret {a : α} : Run (ret a) st Q ↔ Q a st := Iff.rfl
@[simp] theorem run_bad : Run (bad : M α) st Q ↔ False := Iff.rfl
@[simp] theorem run_then : Run (andThen m f) st R ↔ Run m st fun a s => Run (f a) s R := by
  unfold Run andThen
  cases m st <;> exact Iff.rfl
@[simp] theorem run_ite {c : Prop} [Decidable c] {a b : M α} : Run (if c then a else b) st Q ↔ if c then Run a st Q else Run b st Q := by
  by_cases h : c
  · rw [if_pos h, if_pos h]
  · rw [if_neg h, if_neg h]
end
section
variable {ρ : Env} {st : Store} {Q : D → Store → Prop} {QA : List D → Store → Prop} {QB : Bool → Store → Prop} {a b c : GE} {t u : GT} {gs r : GA}
@[simp] theorem run_gVar {i : Nat} : Run (gVar i ρ) st Q ↔ ∃ d, ρ[i]? = some (some d) ∧ Q d st := by
  unfold Run gVar
  cases e : ρ[i]? with
  | none => simp
  | some o => cases o <;> simp
@[simp] theorem run_gC {d : D} : Run (gC d ρ) st Q ↔ Q d st := Iff.rfl
@[simp] theorem run_gOp {h : O2} : Run (gOp h a b ρ) st Q ↔ Run (a ρ) st fun x s => Run (b ρ) s fun y s => Run (h x y) s Q := by
  unfold gOp; simp only [run_then]
@[simp] theorem run_gUn {h : D → M D} : Run (gUn h a ρ) st Q ↔ Run (a ρ) st fun x s => Run (h x) s Q := by
  unfold gUn; simp only [run_then]
@[simp] theorem run_gNil : Run (gNil ρ) st QA ↔ QA [] st := Iff.rfl
@[simp] theorem run_gCons : Run (gCons a r ρ) st QA ↔ Run (a ρ) st fun x s => Run (r ρ) s fun xs s => QA (x :: xs) s := by
  unfold gCons; simp only [run_then, run_ret]
@[simp] theorem run_gStar : Run (gStar a r ρ) st QA ↔ Run (a ρ) st fun x s => Run (vItems x) s fun xs s => Run (r ρ) s fun ys s => QA (xs ++ ys) s := by
  unfold gStar; simp only [run_then, run_ret]
@[simp] theorem run_small {ds : List D} : Run (small ds) st QA ↔ ds.length ≤ SZ ∧ QA ds st := by
  unfold small
  by_cases h : ds.length ≤ SZ
  · rw [if_pos h, run_ret]; simp [h]
  · rw [if_neg h, run_bad]; simp [h]
@[simp] theorem run_gTup : Run (gTup gs ρ) st Q ↔ Run (gs ρ) st fun ds s => ds.length ≤ SZ ∧ Q (.tup ds) s := by
  unfold gTup; simp only [run_then, run_ret, run_small]
@[simp] theorem run_newList {ds : List D} : Run (newList ds) st Q ↔ Q (.rf st.length) (st ++ [.lst ds]) := Iff.rfl
@[simp] theorem run_gNew : Run (gNew gs ρ) st Q ↔ Run (gs ρ) st fun ds s => Q (.rf s.length) (s ++ [.lst ds]) := by
  unfold gNew; simp only [run_then, run_newList]
@[simp] theorem run_gLst : Run (gLst gs ρ) st QA ↔ Run (gs ρ) st fun ds s => ds.length ≤ SZ ∧ QA ds s := by
  unfold gLst; simp only [run_then, run_small]
@[simp] theorem run_tB : Run (tB a ρ) st QB ↔ Run (a ρ) st fun d s => ∃ k, d = .bl k ∧ QB k s := by
  unfold tB; rw [run_then]
  constructor
  · intro h
    refine h.mono fun d s q => ?_
    cases d with
    | bl k => exact ⟨k, rfl, q⟩
    | _ => exact q.elim
  · intro h
    refine h.mono fun d s q => ?_
    obtain ⟨k, rfl, q⟩ := q
    exact q
@[simp] theorem run_tTru : Run (tTru a ρ) st QB ↔ Run (a ρ) st fun d s => ∃ k, tru d s = some k ∧ QB k s := by
  unfold tTru; rw [run_then]
  constructor
  · intro h
    refine h.mono fun d s q => ?_
    unfold Run at q
    cases e : tru d s with
    | none => simp only [e] at q
    | some k => simp only [e] at q; exact ⟨k, rfl, q⟩
  · intro h
    refine h.mono fun d s q => ?_
    obtain ⟨k, e, q⟩ := q
    unfold Run
    simp only [e]
    exact q
@[simp] theorem run_tNot : Run (tNot t ρ) st QB ↔ Run (t ρ) st fun k s => QB (!k) s := by
  unfold tNot; simp only [run_then, run_ret]
@[simp] theorem run_tAnd : Run (tAnd t u ρ) st QB ↔ Run (t ρ) st fun k s => if k = true then Run (u ρ) s QB else QB false s := by
  unfold tAnd; simp only [run_then, run_ret, run_ite]
@[simp] theorem run_tOr : Run (tOr t u ρ) st QB ↔ Run (t ρ) st fun k s => if k = true then QB true s else Run (u ρ) s QB := by
  unfold tOr; simp only [run_then, run_ret, run_ite]
@[simp] theorem run_tYes : Run (tYes ρ) st QB ↔ QB true st := Iff.rfl
@[simp] theorem run_gNot : Run (gNot a ρ) st Q ↔ Run (a ρ) st fun d s => ∃ k, d = .bl k ∧ Q (.bl (!k)) s := by
  unfold gNot; simp only [run_then, run_ret, run_tB]
@[simp] theorem run_gAnd : Run (gAnd a b ρ) st Q ↔ Run (a ρ) st fun d s => ∃ k, d = .bl k ∧ if k = true then Run (b ρ) s Q else Q (.bl false) s := by
  unfold gAnd; simp only [run_then, run_ret, run_tB, run_ite]
@[simp] theorem run_gOr : Run (gOr a b ρ) st Q ↔ Run (a ρ) st fun d s => ∃ k, d = .bl k ∧ if k = true then Q (.bl true) s else Run (b ρ) s Q := by
  unfold gOr; simp only [run_then, run_ret, run_tB, run_ite]
@[simp] theorem run_gIf : Run (gIf t a b ρ) st Q ↔ Run (t ρ) st fun k s => if k = true then Run (a ρ) s Q else Run (b ρ) s Q := by
  unfold gIf; simp only [run_then, run_ite]
@[simp] theorem run_asB {d : D} {QB : Bool → Store → Prop} : Run (asB d) st QB ↔ ∃ k, d = .bl k ∧ QB k st := by
  cases d <;> simp [asB, run_ret, run_bad]
@[simp] theorem run_gChain {h h' : O2} : Run (gChain h h' a b c ρ) st Q ↔ Run (a ρ) st fun x s => Run (b ρ) s fun y s => Run (h x y) s fun z s => ∃ k, z = .bl k ∧ if k = true then Run (c ρ) s fun w s => Run (h' y w) s Q else Q (.bl false) s := by
  unfold gChain; simp only [run_then, run_asB, run_ite, run_ret]
@[simp] theorem run_oNone {QO : Option Int → Store → Prop} : Run (oNone ρ) st QO ↔ QO none st := Iff.rfl
@[simp] theorem run_asInt {d : D} {QI : Int → Store → Prop} : Run (asInt d) st QI ↔ ∃ i, d = .int i ∧ QI i st := by
  cases d <;> simp [asInt, run_ret, run_bad]
@[simp] theorem run_oSome {QO : Option Int → Store → Prop} : Run (oSome a ρ) st QO ↔ Run (a ρ) st fun d s => ∃ i, d = .int i ∧ QO (some i) s := by
  unfold oSome; simp only [run_then, run_asInt, run_ret]
@[simp] theorem run_gSl {lo hi : Env → M (Option Int)} : Run (gSl a lo hi ρ) st Q ↔ Run (a ρ) st fun x s => Run (lo ρ) s fun l s => Run (hi ρ) s fun h s => Run (vSl x l h) s Q := by
  unfold gSl; simp only [run_then]
@[simp] theorem run_gList : Run (gList a ρ) st QA ↔ Run (a ρ) st fun x s => Run (vItems x) s QA := by
  unfold gList; simp only [run_then]
@[simp] theorem run_gTupOf : Run (gTupOf gs ρ) st Q ↔ Run (gs ρ) st fun ds s => Q (.tup ds) s := by
  unfold gTupOf; simp only [run_then, run_ret]
@[simp] theorem run_gAll : Run (gAll gs ρ) st Q ↔ Run (gs ρ) st fun ds s => ∃ bs, bools ds = some bs ∧ Q (.bl (bs.all id)) s := by
  unfold gAll; rw [run_then]
  constructor
  · intro h
    refine h.mono fun ds s q => ?_
    cases e : bools ds with
    | none => simp only [e] at q; exact q.elim
    | some bs => simp only [e] at q; exact ⟨bs, rfl, q⟩
  · intro h
    refine h.mono fun ds s q => ?_
    obtain ⟨bs, e, q⟩ := q
    simp only [e]; exact q
@[simp] theorem run_gAny : Run (gAny gs ρ) st Q ↔ Run (gs ρ) st fun ds s => ∃ bs, bools ds = some bs ∧ Q (.bl (bs.any id)) s := by
  unfold gAny; rw [run_then]
  constructor
  · intro h
    refine h.mono fun ds s q => ?_
    cases e : bools ds with
    | none => simp only [e] at q; exact q.elim
    | some bs => simp only [e] at q; exact ⟨bs, rfl, q⟩
  · intro h
    refine h.mono fun ds s q => ?_
    obtain ⟨bs, e, q⟩ := q
    simp only [e]; exact q
@[simp] theorem run_gIxL {i : GE} : Run (gIxL gs i ρ) st Q ↔ Run (gs ρ) st fun ds s => Run (i ρ) s fun x s => ∃ k d, x = .int k ∧ atD ds k = some d ∧ Q d s := by
  unfold gIxL; rw [run_then]
  constructor
  · intro h
    refine h.mono fun ds s q => ?_
    rw [run_then] at q
    refine q.mono fun x s q => ?_
    rw [run_then, run_asInt] at q
    obtain ⟨k, rfl, q⟩ := q
    cases e : atD ds k with
    | none => simp only [e] at q; exact q.elim
    | some d => simp only [e] at q; exact ⟨k, d, rfl, e, q⟩
  · intro h
    refine h.mono fun ds s q => ?_
    rw [run_then]
    refine q.mono fun x s q => ?_
    obtain ⟨k, d, rfl, e, q⟩ := q
    rw [run_then, run_asInt]
    refine ⟨k, rfl, ?_⟩
    simp only [e]; exact q
@[simp] theorem run_gCall {g : GF} : Run (gCall g gs ρ) st Q ↔ Run (gs ρ) st fun ds s => Run (g ds) s Q := by
  unfold gCall; simp only [run_then]
end
/-! ### values -/
section
variable {st : Store} {Q : D → Store → Prop}
@[simp] theorem run_addI {i j : Int} : Run (vAdd (.int i) (.int j)) st Q ↔ Q (.int (i + j)) st := Iff.rfl
@[simp] theorem run_addT {a b : List D} : Run (vAdd (.tup a) (.tup b)) st Q ↔ a.length + b.length ≤ SZ ∧ Q (.tup (a ++ b)) st := by
  show Run (if a.length + b.length ≤ SZ then ret (.tup (a ++ b)) else bad) st Q ↔ _
  rw [run_ite]
  by_cases h : a.length + b.length ≤ SZ
  · rw [if_pos h]; simp [h, run_ret]
  · rw [if_neg h]; simp [h, run_bad]
@[simp] theorem run_addS {a b : Str} : Run (vAdd (.str a) (.str b)) st Q ↔ a.length + b.length ≤ SZ ∧ Q (.str (a ++ b)) st := by
  show Run (if a.length + b.length ≤ SZ then ret (.str (a ++ b)) else bad) st Q ↔ _
  rw [run_ite]
  by_cases h : a.length + b.length ≤ SZ
  · rw [if_pos h]; simp [h, run_ret]
  · rw [if_neg h]; simp [h, run_bad]
@[simp] theorem run_subI {i j : Int} : Run (vSub (.int i) (.int j)) st Q ↔ Q (.int (i - j)) st := Iff.rfl
@[simp] theorem run_mulI {i j : Int} : Run (vMul (.int i) (.int j)) st Q ↔ mulOk i j = true ∧ Q (.int (i * j)) st := by
  show Run (if mulOk i j = true then ret (.int (i * j)) else bad) st Q ↔ _
  rw [run_ite]
  by_cases h : mulOk i j = true
  · rw [if_pos h]; simp [h, run_ret]
  · rw [if_neg h]; simp [h, run_bad]
@[simp] theorem run_divI {i j : Int} : Run (vDiv (.int i) (.int j)) st Q ↔ (0 < j ∧ j.natAbs < 2 ^ 400) ∧ Q (.int (i / j)) st := by
  show Run (if 0 < j ∧ j.natAbs < 2 ^ 400 then ret (.int (i / j)) else bad) st Q ↔ _
  rw [run_ite]
  by_cases h : 0 < j ∧ j.natAbs < 2 ^ 400
  · rw [if_pos h]; simp [h, run_ret]
  · rw [if_neg h, run_bad]
    exact ⟨False.elim, fun q => h q.1⟩
@[simp] theorem run_modI {i j : Int} : Run (vMod (.int i) (.int j)) st Q ↔ 0 < j ∧ Q (.int (i % j)) st := by
  show Run (if 0 < j then ret (.int (i % j)) else bad) st Q ↔ _
  rw [run_ite]
  by_cases h : 0 < j
  · rw [if_pos h]; simp [h, run_ret]
  · rw [if_neg h]; simp [h, run_bad]
@[simp] theorem run_shrI {i j : Int} : Run (vShr (.int i) (.int j)) st Q ↔ 0 ≤ j ∧ Q (.int (i / 2 ^ j.toNat)) st := by
  show Run (if 0 ≤ j then ret (.int (i / 2 ^ j.toNat)) else bad) st Q ↔ _
  rw [run_ite]
  by_cases h : 0 ≤ j
  · rw [if_pos h]; simp [h, run_ret]
  · rw [if_neg h]; simp [h, run_bad]
@[simp] theorem run_ltI {i j : Int} : Run (vLt (.int i) (.int j)) st Q ↔ Q (.bl (decide (i < j))) st := Iff.rfl
@[simp] theorem run_leI {i j : Int} : Run (vLe (.int i) (.int j)) st Q ↔ Q (.bl (decide (i ≤ j))) st := Iff.rfl
@[simp] theorem run_gtI {i j : Int} : Run (vGt (.int i) (.int j)) st Q ↔ Q (.bl (decide (j < i))) st := Iff.rfl
@[simp] theorem run_geI {i j : Int} : Run (vGe (.int i) (.int j)) st Q ↔ Q (.bl (decide (j ≤ i))) st := Iff.rfl
@[simp] theorem run_vEq {a b : D} : Run (vEq a b) st Q ↔ ∃ k, eqPy a b st = some k ∧ Q (.bl k) st := by
  unfold Run vEq
  cases e : eqPy a b st <;> simp
@[simp] theorem run_vNe {a b : D} : Run (vNe a b) st Q ↔ ∃ k, eqPy a b st = some k ∧ Q (.bl (!k)) st := by
  unfold Run vNe
  cases e : eqPy a b st <;> simp
@[simp] theorem run_vIn {a b : D} : Run (vIn a b) st Q ↔ ∃ k, inB a b st = some k ∧ Q (.bl k) st := by
  unfold Run vIn
  cases e : inB a b st <;> simp
@[simp] theorem run_vNotIn {a b : D} : Run (vNotIn a b) st Q ↔ ∃ k, inB a b st = some k ∧ Q (.bl (!k)) st := by
  unfold Run vNotIn
  cases e : inB a b st <;> simp
@[simp] theorem run_vIs {a b : D} : Run (vIs a b) st Q ↔ ∃ k, isB a b = some k ∧ Q (.bl k) st := by
  unfold vIs
  cases e : isB a b <;> simp [run_bad, run_ret]
@[simp] theorem run_vIsNot {a b : D} : Run (vIsNot a b) st Q ↔ ∃ k, isB a b = some k ∧ Q (.bl (!k)) st := by
  unfold vIsNot
  cases e : isB a b <;> simp [run_bad, run_ret]
@[simp] theorem run_ixT {ds : List D} {i : Int} : Run (vIx (.tup ds) (.int i)) st Q ↔ ∃ d, atD ds i = some d ∧ Q d st := by
  unfold vIx
  simp only
  cases e : atD ds i <;> simp [run_bad, run_ret]
@[simp] theorem run_ixL {n : Nat} {i : Int} : Run (vIx (.rf n) (.int i)) st Q ↔ ∃ ds d, cellItems st n = some ds ∧ atD ds i = some d ∧ Q d st := by
  unfold Run vIx
  simp only
  cases e : cellItems st n with
  | none => simp
  | some ds => cases e2 : atD ds i <;> simp [Option.bind, e2]
@[simp] theorem run_negI {i : Int} : Run (vNeg (.int i)) st Q ↔ Q (.int (-i)) st := Iff.rfl
@[simp] theorem run_absI {i : Int} : Run (vAbs (.int i)) st Q ↔ Q (.int (if i < 0 then -i else i)) st := Iff.rfl
@[simp] theorem run_intI {i : Int} : Run (vInt (.int i)) st Q ↔ Q (.int i) st := Iff.rfl
@[simp] theorem run_lenT {ds : List D} : Run (vLen (.tup ds)) st Q ↔ Q (.int ds.length) st := Iff.rfl
@[simp] theorem run_lenL {n : Nat} : Run (vLen (.rf n)) st Q ↔ ∃ ds, cellItems st n = some ds ∧ Q (.int ds.length) st := by
  unfold Run vLen
  simp only
  cases e : cellItems st n <;> simp
@[simp] theorem run_tupleT {ds : List D} : Run (vTuple (.tup ds)) st Q ↔ Q (.tup ds) st := Iff.rfl
@[simp] theorem run_tupleL {n : Nat} : Run (vTuple (.rf n)) st Q ↔ ∃ ds, cellItems st n = some ds ∧ Q (.tup ds) st := by
  unfold Run vTuple
  simp only
  cases e : cellItems st n <;> simp
@[simp] theorem run_itemsT {ds : List D} {QA : List D → Store → Prop} : Run (vItems (.tup ds)) st QA ↔ QA ds st := Iff.rfl
@[simp] theorem run_itemsL {n : Nat} {QA : List D → Store → Prop} : Run (vItems (.rf n)) st QA ↔ ∃ ds, cellItems st n = some ds ∧ QA ds st := by
  unfold Run vItems
  simp only
  cases e : cellItems st n <;> simp
@[simp] theorem run_slT {ds : List D} {l h : Option Int} : Run (vSl (.tup ds) l h) st Q ↔ Q (.tup (cutD ds l h)) st := Iff.rfl
@[simp] theorem run_slS {z : Str} {l h : Option Int} : Run (vSl (.str z) l h) st Q ↔ z.length ≤ SZ ∧ Q (.str (cutS z l h)) st := by
  show Run (if z.length ≤ SZ then ret (.str (cutS z l h)) else bad) st Q ↔ _
  rw [run_ite]
  by_cases h : z.length ≤ SZ
  · rw [if_pos h]; simp [h]
  · rw [if_neg h]; simp [h]
@[simp] theorem run_upper {z : Str} : Run (vUpper (.str z)) st Q ↔ z.length ≤ 1000 ∧ Q (.str (Txt.upper z)) st := by
  show Run (if z.length ≤ 1000 then ret (.str (Txt.upper z)) else bad) st Q ↔ _
  rw [run_ite]
  by_cases h : z.length ≤ 1000
  · rw [if_pos h]; simp [h]
  · rw [if_neg h]; simp [h]
@[simp] theorem run_slL {n : Nat} {l h : Option Int} : Run (vSl (.rf n) l h) st Q ↔ ∃ ds, cellItems st n = some ds ∧ Q (.rf st.length) (st ++ [.lst (cutD ds l h)]) := by
  unfold Run vSl
  simp only
  cases e : cellItems st n <;> simp [newList]
/-- what may be asked for its type: no list that is not there -/
def Has (st : Store) : D → Prop
  | .rf n => ∃ ds, cellItems st n = some ds
  | .cl _ => False
  | _ => True
@[simp] theorem isB_bl {a b : Bool} : isB (.bl a) (.bl b) = some (a == b) := rfl
@[simp] theorem isB_non : isB .non .non = some true := rfl
@[simp] theorem isB_int {i : Int} : isB (.int i) .non = some false := rfl
@[simp] theorem isB_tup {ds : List D} : isB (.tup ds) .non = some false := rfl
@[simp] theorem isB_str {x : Str} : isB (.str x) .non = some false := rfl
@[simp] theorem isB_rf {n : Nat} : isB (.rf n) .non = some false := rfl
@[simp] theorem isB_bln {a : Bool} : isB (.bl a) .non = some false := rfl
@[simp] theorem tru_bl {b : Bool} : tru (.bl b) st = some b := rfl
@[simp] theorem tru_non : tru .non st = some false := rfl
@[simp] theorem tru_tup {ds : List D} : tru (.tup ds) st = some (!ds.isEmpty) := rfl
@[simp] theorem tru_int {i : Int} : tru (.int i) st = some (i != 0) := rfl
theorem run_isi {t : Ty} {d : D} : Run (vIsi t d) st Q ↔ Has st d ∧ Q (.bl (isTy t d)) st := by
  cases d with
  | rf n =>
    unfold Run vIsi Has
    simp only
    cases e : cellItems st n <;> simp
  | cl ds => simp [vIsi, Has, run_bad]
  | _ => simp [vIsi, Has, run_ret]
end
/-! ### statements -/
section
variable {ρ : Env} {st : Store} {Q : Fl → Store → Prop} {a : GE} {t : GT} {p q : GS} {g : GG}
def fl (Q : Fl → Store → Prop) (q : GS) : Fl → Store → Prop
  | .nx ρ', s => Run (q ρ') s Q
  | f, s => Q f s
@[simp] theorem run_gSeq : Run (gSeq p q ρ) st Q ↔ Run (p ρ) st (fl Q q) := by
  unfold gSeq; rw [run_then]
  constructor
  · intro h; refine h.mono fun f s x => ?_; cases f <;> exact x
  · intro h; refine h.mono fun f s x => ?_; cases f <;> exact x
@[simp] theorem fl_nx {ρ' : Env} {s : Store} : fl Q q (.nx ρ') s ↔ Run (q ρ') s Q := Iff.rfl
@[simp] theorem fl_rt {d : D} {s : Store} : fl Q q (.rt d) s ↔ Q (.rt d) s := Iff.rfl
@[simp] theorem run_gNext : Run (gNext ρ) st Q ↔ Q (.nx ρ) st := Iff.rfl
@[simp] theorem run_gDrop : Run (gDrop a ρ) st Q ↔ Run (a ρ) st fun _ s => Q (.nx ρ) s := by
  unfold gDrop; simp only [run_then, run_ret]
@[simp] theorem run_gRet : Run (gRet a ρ) st Q ↔ Run (a ρ) st fun d s => Q (.rt d) s := by
  unfold gRet; simp only [run_then, run_ret]
@[simp] theorem run_gIfS : Run (gIfS t p q ρ) st Q ↔ Run (t ρ) st fun k s => if k = true then Run (p ρ) s Q else Run (q ρ) s Q := by
  unfold gIfS; simp only [run_then, run_ite]
@[simp] theorem run_gAsg : Run (gAsg a g ρ) st Q ↔ Run (a ρ) st fun d s => Run (g d ρ) s fun ρ' s => Q (.nx ρ') s := by
  unfold gAsg; simp only [run_then, run_ret]
@[simp] theorem run_gName {i : Nat} {d : D} {QE : Env → Store → Prop} : Run (gName i d ρ) st QE ↔ QE (ρ.set i (some d)) st := Iff.rfl
@[simp] theorem run_unpack {n : Nat} {r : GGs} {ds : List D} {QE : Env → Store → Prop} : Run (gUnpack n r (.tup ds) ρ) st QE ↔ ds.length = n ∧ Run (r ds ρ) st QE := by
  show Run (if ds.length = n then r ds ρ else bad) st QE ↔ _
  rw [run_ite]
  by_cases h : ds.length = n
  · rw [if_pos h]; simp [h]
  · rw [if_neg h]; simp [h, run_bad]
@[simp] theorem run_ggNil {QE : Env → Store → Prop} : Run (ggNil [] ρ) st QE ↔ QE ρ st := Iff.rfl
@[simp] theorem run_ggCons {g : GG} {r : GGs} {d : D} {ds : List D} {QE : Env → Store → Prop} : Run (ggCons g r (d :: ds) ρ) st QE ↔ Run (g d ρ) st fun ρ' s => Run (r ds ρ') s QE := by
  show Run (andThen (g d ρ) fun ρ' => r ds ρ') st QE ↔ _
  rw [run_then]
@[simp] theorem run_set {n : Nat} {k : Int} {v : D} {QU : Unit → Store → Prop} : Run (vSet (.rf n) (.int k) v) st QU ↔ ∃ ds j, st[n]? = some (.lst ds) ∧ ixOf ds.length k = some j ∧ QU () (st.set n (.lst (ds.set j v))) := by
  unfold Run vSet
  simp only
  cases e : st[n]? with
  | none => simp
  | some c =>
    cases c with
    | lst ds => cases e2 : ixOf ds.length k <;> simp [e2]
@[simp] theorem run_gSet {e o i : GE} : Run (gSet e o i ρ) st Q ↔ Run (e ρ) st fun v s => Run (o ρ) s fun x s => Run (i ρ) s fun y s => Run (vSet x y v) s fun _ s => Q (.nx ρ) s := by
  unfold gSet; simp only [run_then, run_ret]
@[simp] theorem run_app {n : Nat} {v : D} {QD : D → Store → Prop} : Run (vApp (.rf n) v) st QD ↔ ∃ ds, st[n]? = some (.lst ds) ∧ ds.length < SZ ∧ QD .non (st.set n (.lst (ds ++ [v]))) := by
  unfold Run vApp
  simp only
  cases e : st[n]? with
  | none => simp
  | some c =>
    cases c with
    | lst ds => by_cases h : ds.length < SZ <;> simp [h]
@[simp] theorem run_gApp {o e : GE} {QD : D → Store → Prop} : Run (gApp o e ρ) st QD ↔ Run (o ρ) st fun x s => Run (e ρ) s fun v s => Run (vApp x v) s QD := by
  unfold gApp; simp only [run_then]
def fnQ (Q : D → Store → Prop) : Fl → Store → Prop
  | .nx _, s => Q .non s
  | .rt d, s => Q d s
  | _, _ => False
@[simp] theorem fnQ_nx {QD : D → Store → Prop} : fnQ QD (.nx ρ) st ↔ QD .non st := Iff.rfl
@[simp] theorem fnQ_rt {QD : D → Store → Prop} {d : D} : fnQ QD (.rt d) st ↔ QD d st := Iff.rfl
theorem run_gFn {np n : Nat} {b : GS} {ds : List D} {QD : D → Store → Prop} (h : ds.length = np) : Run (gFn np n b ds) st QD ↔ Run (b (startE n ds)) st (fnQ QD) := by
  unfold gFn
  rw [if_pos h, run_then]
  constructor
  · intro x; refine x.mono fun f s y => ?_; cases f <;> exact y
  · intro x; refine x.mono fun f s y => ?_; cases f <;> exact y
/-! ### walks -/
variable {QW : Walk → Store → Prop} {gs : GA}
@[simp] theorem run_seqT {ds : List D} {Q : Walk → Store → Prop} : Run (wSeq (gC (.tup ds)) ρ) st Q ↔ Q ⟨ds, fun _ => True⟩ st := Iff.rfl
def seqW : D → Store → (Walk → Store → Prop) → Prop
  | .tup ds, s, Q => Q ⟨ds, fun _ => True⟩ s
  | .cl ds, s, Q => Q ⟨ds, fun _ => True⟩ s
  | .rf n, s, Q => ∃ ds, cellItems s n = some ds ∧ Q ⟨ds, fun st' => cellItems st' n = some ds⟩ s
  | _, _, _ => False
@[simp] theorem seqW_tup {ds : List D} {s : Store} {Q : Walk → Store → Prop} : seqW (.tup ds) s Q ↔ Q ⟨ds, fun _ => True⟩ s := Iff.rfl
@[simp] theorem seqW_cl {ds : List D} {s : Store} {Q : Walk → Store → Prop} : seqW (.cl ds) s Q ↔ Q ⟨ds, fun _ => True⟩ s := Iff.rfl
@[simp] theorem seqW_rf {n : Nat} {s : Store} {Q : Walk → Store → Prop} : seqW (.rf n) s Q ↔ ∃ ds, cellItems s n = some ds ∧ Q ⟨ds, fun st' => cellItems st' n = some ds⟩ s := Iff.rfl
@[simp] theorem run_wSeq : Run (wSeq a ρ) st QW ↔ Run (a ρ) st fun d s => seqW d s QW := by
  unfold wSeq; rw [run_then]
  have key : ∀ (d : D) (s : Store), Run ((match d with
    | .tup ds => ret ⟨ds, fun _ => True⟩
    | .cl ds => ret ⟨ds, fun _ => True⟩
    | .rf n => fun st => match cellItems st n with
      | some ds => .ok ⟨ds, fun st' => cellItems st' n = some ds⟩ st
      | none => .stuck
    | _ => bad : M Walk)) s QW ↔ seqW d s QW := by
    intro d s
    cases d with
    | rf n =>
      unfold Run seqW
      simp only
      cases e : cellItems s n <;> simp
    | _ => exact Iff.rfl
  constructor
  · intro h; exact h.mono fun d s q => (key d s).mp q
  · intro h; exact h.mono fun d s q => (key d s).mpr q
@[simp] theorem run_wNew : Run (wNew gs ρ) st QW ↔ Run (gs ρ) st fun ds s => QW ⟨ds, fun _ => True⟩ s := by
  unfold wNew; simp only [run_then, run_ret]
@[simp] theorem run_wRange : Run (wRange a ρ) st QW ↔ Run (a ρ) st fun d s => ∃ j, d = .int j ∧ smallI j = true ∧ QW ⟨fromTo 0 j.toNat, fun _ => True⟩ s := by
  unfold wRange
  rw [run_then]
  constructor
  · intro h
    refine h.mono fun d s q => ?_
    rw [run_then, run_asInt] at q
    obtain ⟨j, rfl, q⟩ := q
    rw [run_ite] at q
    by_cases c : smallI j = true
    · rw [if_pos c] at q; exact ⟨j, rfl, c, q⟩
    · rw [if_neg c] at q; exact q.elim
  · intro h
    refine h.mono fun d s q => ?_
    obtain ⟨j, rfl, c, q⟩ := q
    rw [run_then, run_asInt]
    refine ⟨j, rfl, ?_⟩
    rw [run_ite, if_pos c]; exact q
@[simp] theorem run_wRange2 {b : GE} : Run (wRange2 a b ρ) st QW ↔ Run (a ρ) st fun x s => Run (b ρ) s fun y s => ∃ i j, x = .int i ∧ y = .int j ∧ (smallI i && smallI j) = true ∧ QW ⟨fromTo i (j - i).toNat, fun _ => True⟩ s := by
  unfold wRange2
  rw [run_then]
  constructor
  · intro h
    refine h.mono fun x s q0 => ?_
    rw [run_then] at q0
    refine q0.mono fun y s' q1 => ?_
    rw [run_then, run_asInt] at q1
    obtain ⟨i, rfl, q2⟩ := q1
    rw [run_then, run_asInt] at q2
    obtain ⟨j, rfl, q3⟩ := q2
    rw [run_ite] at q3
    by_cases c : (smallI i && smallI j) = true
    · rw [if_pos c] at q3; exact ⟨i, j, rfl, rfl, c, q3⟩
    · rw [if_neg c] at q3; exact q3.elim
  · intro h
    refine h.mono fun x s q => ?_
    rw [run_then]
    refine q.mono fun y s q => ?_
    obtain ⟨i, j, rfl, rfl, c, q⟩ := q
    rw [run_then, run_asInt]
    refine ⟨i, rfl, ?_⟩
    rw [run_then, run_asInt]
    refine ⟨j, rfl, ?_⟩
    rw [run_ite, if_pos c]; exact q
theorem run_gFor {w : GI} {b : GS} : Run (gFor w g b ρ) st Q ↔ Run (w ρ) st fun k s => Run (gLoop k.guard g b k.items ρ) s Q := by
  unfold gFor; simp only [run_then]
/-- what is wanted behind one turn -/
def turnQ (Q : Fl → Store → Prop) (N : Env → Store → Prop) : Fl → Store → Prop
  | .nx ρ, s => N ρ s
  | .ct ρ, s => N ρ s
  | .bk ρ, s => Q (.nx ρ) s
  | .rt d, s => Q (.rt d) s
/-- a for by its invariant: I of the items still to come -/
@[simp] theorem run_loop_nil {b : GS} : Run (gLoop (fun _ => True) g b [] ρ) st Q ↔ Q (.nx ρ) st := by
  unfold gLoop Run walkC
  rw [if_pos trivial]; exact Iff.rfl
@[simp] theorem run_loop_cons {b : GS} {d : D} {l : List D} : Run (gLoop (fun _ => True) g b (d :: l) ρ) st Q ↔ Run (g d ρ) st fun ρ1 s1 => Run (b ρ1) s1 (turnQ Q fun ρ2 s2 => Run (gLoop (fun _ => True) g b l ρ2) s2 Q) := by
  conv => lhs; unfold gLoop
  have e : ∀ (m : Store → Res Fl), Run (walkC (fun _ => True) m) st Q ↔ Run m st Q := fun m => by
    unfold Run walkC; rw [if_pos trivial]
  rw [e]
  simp only [run_then]
  have k : ∀ (f : Fl) (s : Store), Run (match f with
    | .nx ρ2 => gLoop (fun _ => True) g b l ρ2
    | .ct ρ2 => gLoop (fun _ => True) g b l ρ2
    | .bk ρ2 => ret (.nx ρ2)
    | .rt d => ret (.rt d)) s Q ↔ turnQ Q (fun ρ2 s2 => Run (gLoop (fun _ => True) g b l ρ2) s2 Q) f s := fun f s => by cases f <;> exact Iff.rfl
  constructor
  · intro h; exact h.mono fun ρ1 s1 h1 => h1.mono fun f s h2 => (k f s).mp h2
  · intro h; exact h.mono fun ρ1 s1 h1 => h1.mono fun f s h2 => (k f s).mpr h2
@[simp] theorem turn_nx {N : Env → Store → Prop} : turnQ Q N (.nx ρ) st ↔ N ρ st := Iff.rfl
@[simp] theorem turn_ct {N : Env → Store → Prop} : turnQ Q N (.ct ρ) st ↔ N ρ st := Iff.rfl
@[simp] theorem turn_bk {N : Env → Store → Prop} : turnQ Q N (.bk ρ) st ↔ Q (.nx ρ) st := Iff.rfl
@[simp] theorem turn_rt {N : Env → Store → Prop} {d : D} : turnQ Q N (.rt d) st ↔ Q (.rt d) st := Iff.rfl
theorem run_loop {gd : Store → Prop} {b : GS} (I : List D → Env → Store → Prop) (hg : ∀ l ρ s, I l ρ s → gd s) (step : ∀ d l ρ s, I (d :: l) ρ s → Run (g d ρ) s fun ρ1 s1 => Run (b ρ1) s1 (turnQ Q (I l)))
    (fin : ∀ ρ s, I [] ρ s → Q (.nx ρ) s) : ∀ (l : List D) (ρ : Env) (s : Store), I l ρ s → Run (gLoop gd g b l ρ) s Q
  | [], ρ, s, h => by
    unfold gLoop Run walkC
    rw [if_pos (hg _ _ _ h)]
    exact fin ρ s h
  | d :: l, ρ, s, h => by
    have h1 := step d l ρ s h
    unfold gLoop
    have e : ∀ (m : Store → Res Fl), Run (walkC gd m) s Q ↔ Run m s Q := fun m => by
      unfold Run walkC; rw [if_pos (hg _ _ _ h)]
    rw [e, run_then]
    refine h1.mono fun ρ1 s1 h2 => ?_
    rw [run_then]
    refine h2.mono fun f s2 h3 => ?_
    cases f with
    | nx ρ2 => exact run_loop I hg step fin l ρ2 s2 h3
    | ct ρ2 => exact run_loop I hg step fin l ρ2 s2 h3
    | bk ρ2 => exact h3
    | rt d => exact h3
@[simp] theorem run_gLc {w : GI} {e : GE} {vs : List Nat} {QA : List D → Store → Prop} {t : GT} : Run (gLc w g t e vs ρ) st QA ↔ Run (w ρ) st fun k s => Run (gComp k.guard g t e (wipeE ρ vs) k.items) s fun ds s => ds.length ≤ SZ ∧ QA ds s := by
  unfold gLc; simp only [run_then, run_small]
/-- a comprehension by its invariant: I of the items done, what is made of them, the store -/
theorem run_comp {gd : Store → Prop} {t : GT} {e : GE} (J : List D → List D → Store → Prop) (hg : ∀ l acc s, J l acc s → gd s)
    (step : ∀ d l acc s, J (d :: l) acc s → Run (g d ρ) s fun ρ1 s1 => Run (t ρ1) s1 fun k s2 => if k = true then Run (e ρ1) s2 fun x s3 => J l (acc ++ [x]) s3 else J l acc s2) :
    ∀ (l : List D) (acc : List D) (s : Store), J l acc s → Run (gComp gd g t e ρ l) s fun ds s' => J [] (acc ++ ds) s'
  | [], acc, s, h => by
    unfold gComp Run walkC
    rw [if_pos (hg _ _ _ h)]
    show J [] (acc ++ []) s
    rw [List.append_nil]; exact h
  | d :: l, acc, s, h => by
    have h1 := step d l acc s h
    unfold gComp
    have ee : ∀ {QQ} (m : Store → Res (List D)), Run (walkC gd m) s QQ ↔ Run m s QQ := fun m => by
      unfold Run walkC; rw [if_pos (hg _ _ _ h)]
    rw [ee, run_then]
    refine h1.mono fun ρ1 s1 h2 => ?_
    rw [run_then]
    refine h2.mono fun k s2 h3 => ?_
    rw [run_ite]
    by_cases c : k = true
    · rw [if_pos c] at h3 ⊢
      rw [run_then]
      refine h3.mono fun x s3 h4 => ?_
      rw [run_then]
      refine (run_comp J hg step l (acc ++ [x]) s3 h4).mono fun ds s5 h5 => ?_
      rw [run_ret]
      rw [List.append_assoc] at h5
      exact h5
    · rw [if_neg c] at h3 ⊢
      exact run_comp J hg step l acc s2 h3
/-- a comprehension over items whose turn asks the store for nothing -/
theorem run_comp_map {gd : Store → Prop} {e : GE} (hd : gd st) (f : D → D) {l : List D} {QA : List D → Store → Prop} {t : GT}
    (step : ∀ d ∈ l, Run (g d ρ) st fun ρ1 s1 => s1 = st ∧ Run (t ρ1) st fun k s2 => k = true ∧ s2 = st ∧ Run (e ρ1) st fun x s3 => x = f d ∧ s3 = st) (q : QA (l.map f) st) : Run (gComp gd g t e ρ l) st QA := by
  refine (run_comp (fun l' acc s => s = st ∧ (∀ d ∈ l', d ∈ l) ∧ acc ++ l'.map f = l.map f) (fun _ _ s h => by rw [h.1]; exact hd) ?_ l [] st ⟨rfl, fun _ h => h, rfl⟩).mono ?_
  · rintro d l' acc s ⟨rfl, hm, ha⟩
    refine (step d (hm d List.mem_cons_self)).mono ?_
    rintro ρ1 s1 ⟨rfl, h⟩
    refine h.mono ?_
    rintro k s2 ⟨rfl, rfl, h⟩
    rw [if_pos rfl]
    refine h.mono ?_
    rintro x s3 ⟨rfl, rfl⟩
    exact ⟨rfl, fun y hy => hm y (List.mem_cons_of_mem _ hy), by rw [← ha]; simp⟩
  · rintro ds s ⟨rfl, _, h⟩
    simp at h
    rw [h]; exact q
end
end DL
namespace DL
open PySem
noncomputable def b_is_integer : GS :=
    (gRet (gAnd (gUn (vIsi .int) (gVar 0)) (gNot (gUn (vIsi .bool) (gVar 0)))))
noncomputable def g_is_integer : GF := gFn 1 1 b_is_integer
noncomputable def b_is_integer_within : GS :=
    (gRet (gAnd (gCall g_is_integer (gCons (gVar 0) gNil)) (gChain vLe vLe (gVar 1) (gVar 0) (gVar 2))))
noncomputable def g_is_integer_within : GF := gFn 3 3 b_is_integer_within
noncomputable def b_is_word_of : GS :=
    (gRet (gAnd (gUn (vIsi .str) (gVar 0)) (gOp vIn (gVar 0) (gVar 1))))
noncomputable def g_is_word_of : GF := gFn 2 2 b_is_word_of
noncomputable def r_are_numbers_below_1 : GS := (gSeq (gIfS (tNot (tTru (gCall g_is_integer_within (gCons (gVar 3) (gCons (gVar 2) (gCons (gOp vSub (gVar 1) (gC (.int 1))) gNil)))))) (gRet (gC (.bl false))) gNext) (gAsg (gOp vAdd (gVar 3) (gC (.int 1))) (gName 2)))
noncomputable def r_are_numbers_below_2 : GS := (gSeq (gFor (wSeq (gVar 0)) (gName 3) r_are_numbers_below_1) (gRet (gC (.bl true))))
noncomputable def r_are_numbers_below_3 : GS := (gSeq (gAsg (gC (.int 0)) (gName 2)) r_are_numbers_below_2)
noncomputable def r_are_numbers_below_4 : GS := (gSeq (gIfS (tNot (tTru (gUn (vIsi .tuple) (gVar 0)))) (gRet (gC (.bl false))) gNext) r_are_numbers_below_3)
noncomputable def b_are_numbers_below : GS :=
    r_are_numbers_below_4
noncomputable def g_are_numbers_below : GF := gFn 2 4 b_are_numbers_below
noncomputable def b_is_tuple_of : GS :=
    (gRet (gAnd (gUn (vIsi .tuple) (gVar 0)) (gChain vLe vLe (gVar 1) (gUn vLen (gVar 0)) (gVar 2))))
noncomputable def g_is_tuple_of : GF := gFn 3 3 b_is_tuple_of
noncomputable def b_places_of : GS :=
    (gRet (gOp vMul (gOp vIx (gVar 0) (gC (.int 0))) (gOp vIx (gVar 0) (gC (.int 1)))))
noncomputable def g_places_of : GF := gFn 1 1 b_places_of
noncomputable def b_is_kind : GS :=
    (gRet (gAnd (gCall g_is_tuple_of (gCons (gVar 0) (gCons (gC (.int 1)) (gCons (gVar 1) gNil)))) (gCall g_are_numbers_below (gCons (gVar 0) (gCons (gVar 1) gNil)))))
noncomputable def g_is_kind : GF := gFn 2 2 b_is_kind
noncomputable def r_is_rule_1 : GS := (gSeq (gAsg (gAll (gLc (wSeq (gOp vIx (gVar 0) (gC (.int 6)))) (gName 3) tYes (gCall g_is_kind (gCons (gVar 3) (gCons (gOp vIx (gVar 0) (gC (.int 1))) gNil))) [3])) (gName 2)) (gRet (gAnd (gVar 2) (gCall g_are_numbers_below (gCons (gOp vIx (gVar 0) (gC (.int 7))) (gCons (gCall g_places_of (gCons (gVar 0) gNil)) gNil))))))
noncomputable def r_is_rule_2 : GS := (gSeq (gIfS (tOr (tNot (tTru (gCall g_is_tuple_of (gCons (gOp vIx (gVar 0) (gC (.int 6))) (gCons (gC (.int 0)) (gCons (gC (.int 3)) gNil)))))) (tNot (tTru (gCall g_is_tuple_of (gCons (gOp vIx (gVar 0) (gC (.int 7))) (gCons (gC (.int 0)) (gCons (gC (.int 2)) gNil))))))) (gRet (gC (.bl false))) gNext) r_is_rule_1)
noncomputable def r_is_rule_3 : GS := (gSeq (gIfS (tNot (tTru (gUn (vIsi .bool) (gOp vIx (gVar 0) (gC (.int 4)))))) (gRet (gC (.bl false))) gNext) r_is_rule_2)
noncomputable def r_is_rule_4 : GS := (gSeq (gIfS (tOr (tNot (tTru (gCall g_is_word_of (gCons (gOp vIx (gVar 0) (gC (.int 3))) (gCons (gC (.tup [(.str (Str.ofString "whole")), (.str (Str.ofString "parts")), (.str (Str.ofString "filled"))])) gNil))))) (tNot (tTru (gCall g_is_word_of (gCons (gOp vIx (gVar 0) (gC (.int 5))) (gCons (gC (.tup [(.str (Str.ofString "into")), (.str (Str.ofString "past")), (.str (Str.ofString "first"))])) gNil)))))) (gRet (gC (.bl false))) gNext) r_is_rule_3)
noncomputable def r_is_rule_5 : GS := (gSeq (gFor (wSeq (gTup (gCons (gC (.int 0)) (gCons (gC (.int 1)) (gCons (gC (.int 2)) gNil))))) (gName 1) (gIfS (tNot (tTru (gCall g_is_integer_within (gCons (gOp vIx (gVar 0) (gVar 1)) (gCons (gC (.int 1)) (gCons (gC (.int 3)) gNil)))))) (gRet (gC (.bl false))) gNext)) r_is_rule_4)
noncomputable def r_is_rule_6 : GS := (gSeq (gIfS (tNot (tTru (gCall g_is_tuple_of (gCons (gVar 0) (gCons (gC (.int 8)) (gCons (gC (.int 8)) gNil)))))) (gRet (gC (.bl false))) gNext) r_is_rule_5)
noncomputable def b_is_rule : GS :=
    r_is_rule_6
noncomputable def g_is_rule : GF := gFn 1 4 b_is_rule
noncomputable def b__law_pool : GS :=
    (gRet (gNew (gLst (gCons (gC (.int 0)) (gCons (gC (.int 0)) (gCons (gC (.int 271828182845904523536028747135266249775724709369995)) (gCons (gNew (gLc (wSeq (gVar 0)) (gName 1) tYes (gUn vAbs (gVar 1)) [1])) gNil)))))))
noncomputable def g__law_pool : GF := gFn 1 2 b__law_pool
noncomputable def r__law_draw_1 : GS := (gSeq (gSet (gVar 3) (gVar 0) (gC (.int 2))) (gSet (gVar 3) (gVar 0) (gC (.int 0))))
noncomputable def r__law_draw_2 : GS := (gSeq (gAsg (gOp vMod (gUn vInt (gOp vAdd (gOp vMul (gVar 3) (gVar 3)) (gC (.int 16807)))) (gC (.int 900000000000000000000000000000000011))) (gName 3)) r__law_draw_1)
noncomputable def r__law_draw_3 : GS := (gSeq (gAsg (gOp vMod (gUn vInt (gOp vAdd (gVar 3) (gOp vIx (gVar 0) (gC (.int 1))))) (gC (.int 1000000000000000000000000000000000067))) (gName 3)) r__law_draw_2)
noncomputable def r__law_draw_4 : GS := (gSeq (gAsg (gOp vAdd (gOp vMul (gOp vIx (gVar 0) (gC (.int 2))) (gC (.int 69621))) (gOp vMul (gVar 2) (gC (.int 48271)))) (gName 3)) r__law_draw_3)
noncomputable def r__law_draw_5 : GS := (gSeq (gSet (gOp vSub (gVar 2) (gC (.int 1000000000000000000))) (gVar 0) (gC (.int 0))) (gIfS (tB (gOp vLt (gOp vIx (gVar 0) (gC (.int 0))) (gC (.int 0)))) r__law_draw_4 gNext))
noncomputable def r__law_draw_6 : GS := (gSeq (gSet (gOp vAdd (gOp vIx (gVar 0) (gC (.int 1))) (gC (.int 1))) (gVar 0) (gC (.int 1))) r__law_draw_5)
noncomputable def r__law_draw_7 : GS := (gSeq (gIfS (tB (gOp vLt (gOp vIx (gVar 0) (gC (.int 1))) (gUn vLen (gOp vIx (gVar 0) (gC (.int 3)))))) (gAsg (gOp vIx (gOp vIx (gVar 0) (gC (.int 3))) (gOp vIx (gVar 0) (gC (.int 1)))) (gName 2)) gNext) r__law_draw_6)
noncomputable def r__law_draw_8 : GS := (gSeq (gAsg (gC (.int 0)) (gName 2)) r__law_draw_7)
noncomputable def r__law_draw_9 : GS := (gSeq (gSet (gOp vDiv (gOp vIx (gVar 0) (gC (.int 0))) (gVar 1)) (gVar 0) (gC (.int 0))) (gRet (gVar 4)))
noncomputable def r__law_draw_10 : GS := (gSeq (gAsg (gOp vMod (gUn vInt (gOp vIx (gVar 0) (gC (.int 0)))) (gVar 1)) (gName 4)) r__law_draw_9)
noncomputable def r__law_draw_11 : GS := (gSeq (gIfS (tB (gOp vEq (gOp vIx (gVar 0) (gC (.int 0))) (gC (.int 0)))) r__law_draw_8 gNext) r__law_draw_10)
noncomputable def b__law_draw : GS :=
    r__law_draw_11
noncomputable def g__law_draw : GF := gFn 2 5 b__law_draw
noncomputable def b__law_bits : GS :=
    (gRet (gTupOf (gLc (wRange (gVar 1)) (gName 2) (tB (gOp vEq (gOp vMod (gUn vInt (gOp vShr (gVar 0) (gVar 2))) (gC (.int 2))) (gC (.int 1)))) (gVar 2) [2])))
noncomputable def g__law_bits : GF := gFn 2 3 b__law_bits
noncomputable def r__law_rule_1 : GS := (gSeq (gAsg (gSl (gCall g__law_bits (gCons (gCall g__law_draw (gCons (gVar 0) (gCons (gC (.int 512)) gNil))) (gCons (gOp vMul (gVar 4) (gVar 5)) gNil))) oNone (oSome (gC (.int 2)))) (gName 9)) (gRet (gTup (gCons (gVar 4) (gCons (gVar 5) (gCons (gVar 6) (gCons (gVar 1) (gCons (gVar 3) (gCons (gVar 2) (gCons (gUn vTuple (gVar 7)) (gCons (gVar 9) gNil)))))))))))
noncomputable def r__law_rule_2 : GS := (gSeq (gFor (wRange (gCall g__law_draw (gCons (gVar 0) (gCons (gC (.int 4)) gNil)))) (gName 8) (gDrop (gApp (gVar 7) (gCall g__law_bits (gCons (gOp vAdd (gC (.int 1)) (gCall g__law_draw (gCons (gVar 0) (gCons (gIxL (gLst (gCons (gC (.int 1)) (gCons (gC (.int 3)) (gCons (gC (.int 7)) gNil)))) (gOp vSub (gVar 5) (gC (.int 1)))) gNil)))) (gCons (gVar 5) gNil)))))) r__law_rule_1)
noncomputable def r__law_rule_3 : GS := (gSeq (gAsg (gNew (gLst gNil)) (gName 7)) r__law_rule_2)
noncomputable def r__law_rule_4 : GS := (gSeq (gAsg (gOp vAdd (gC (.int 1)) (gCall g__law_draw (gCons (gVar 0) (gCons (gC (.int 3)) gNil)))) (gName 6)) r__law_rule_3)
noncomputable def r__law_rule_5 : GS := (gSeq (gAsg (gOp vAdd (gC (.int 1)) (gCall g__law_draw (gCons (gVar 0) (gCons (gC (.int 3)) gNil)))) (gName 5)) r__law_rule_4)
noncomputable def r__law_rule_6 : GS := (gSeq (gAsg (gOp vAdd (gC (.int 1)) (gCall g__law_draw (gCons (gVar 0) (gCons (gC (.int 3)) gNil)))) (gName 4)) r__law_rule_5)
noncomputable def r__law_rule_7 : GS := (gSeq (gAsg (gOp vEq (gCall g__law_draw (gCons (gVar 0) (gCons (gC (.int 2)) gNil))) (gC (.int 1))) (gName 3)) r__law_rule_6)
noncomputable def r__law_rule_8 : GS := (gSeq (gAsg (gIxL (gLst (gCons (gC (.str (Str.ofString "into"))) (gCons (gC (.str (Str.ofString "past"))) (gCons (gC (.str (Str.ofString "first"))) gNil)))) (gCall g__law_draw (gCons (gVar 0) (gCons (gC (.int 3)) gNil)))) (gName 2)) r__law_rule_7)
noncomputable def r__law_rule_9 : GS := (gSeq (gAsg (gIxL (gLst (gCons (gC (.str (Str.ofString "whole"))) (gCons (gC (.str (Str.ofString "parts"))) (gCons (gC (.str (Str.ofString "filled"))) gNil)))) (gCall g__law_draw (gCons (gVar 0) (gCons (gC (.int 3)) gNil)))) (gName 1)) r__law_rule_8)
noncomputable def b__law_rule : GS :=
    r__law_rule_9
noncomputable def g__law_rule : GF := gFn 1 10 b__law_rule
noncomputable def r__law_bad_number_1 : GS := (gSeq (gAsg (gNew (gLst (gCons (gC (.int 0)) (gCons (gC (.int 4)) (gCons (gUn vNeg (gC (.int 1))) (gCons (gC (.bl true)) (gCons (gC (.bl false)) (gCons (gC .non) (gCons (gC (.str (Str.ofString "1"))) (gCons (gTup (gCons (gC (.int 1)) gNil)) (gCons (gNew (gLst (gCons (gC (.int 2)) gNil))) (gCons (gC (.str (Str.ofString ""))) (gCons (gOp vAdd (gC (.int 4)) (gVar 1)) (gCons (gOp vSub (gUn vNeg (gC (.int 1))) (gVar 1)) gNil)))))))))))))) (gName 2)) (gRet (gOp vIx (gVar 2) (gCall g__law_draw (gCons (gVar 0) (gCons (gC (.int 12)) gNil))))))
noncomputable def r__law_bad_number_2 : GS := (gSeq (gAsg (gCall g__law_draw (gCons (gVar 0) (gCons (gC (.int 10000000000000000000000000000000000000000000000000000000000)) gNil))) (gName 1)) r__law_bad_number_1)
noncomputable def b__law_bad_number : GS :=
    r__law_bad_number_2
noncomputable def g__law_bad_number : GF := gFn 1 3 b__law_bad_number
noncomputable def r__law_bad_word_1 : GS := (gSeq (gAsg (gNew (gLst (gCons (gC (.str (Str.ofString ""))) (gCons (gOp vAdd (gVar 1) (gC (.str (Str.ofString " ")))) (gCons (gOp vAdd (gC (.str (Str.ofString " "))) (gVar 1)) (gCons (gSl (gVar 1) (oSome (gC (.int 1))) oNone) (gCons (gUn vUpper (gVar 1)) (gCons (gOp vAdd (gVar 1) (gC (.str (Str.ofString "s")))) (gCons (gC .non) (gCons (gC (.int 0)) (gCons (gC (.bl true)) (gCons (gTup (gCons (gVar 1) gNil)) (gCons (gNew (gLst (gCons (gVar 1) gNil))) (gCons (gC (.str (Str.ofString "path"))) gNil)))))))))))))) (gName 2)) (gRet (gOp vIx (gVar 2) (gCall g__law_draw (gCons (gVar 0) (gCons (gC (.int 12)) gNil))))))
noncomputable def b__law_bad_word : GS :=
    r__law_bad_word_1
noncomputable def g__law_bad_word : GF := gFn 2 3 b__law_bad_word
noncomputable def r__law_bad_kind_1 : GS := (gSeq (gAsg (gNew (gLst (gCons (gTup gNil) (gCons (gTup (gCons (gVar 1) gNil)) (gCons (gTup (gCons (gUn vNeg (gC (.int 1))) gNil)) (gCons (gTup (gCons (gC (.bl true)) gNil)) (gCons (gTup (gCons (gC (.int 0)) (gCons (gC (.int 0)) gNil))) (gCons (gTup (gCons (gC (.int 1)) (gCons (gC (.int 0)) gNil))) (gCons (gNew (gLst (gCons (gC (.int 0)) gNil))) (gCons (gC (.int 0)) (gCons (gC (.str (Str.ofString "0"))) (gCons (gC .non) (gCons (gTup (gCons (gC (.str (Str.ofString "0"))) gNil)) (gCons (gTup (gCons (gC (.int 0)) (gCons (gC (.int 3)) gNil))) (gCons (gTup (gCons (gTup (gCons (gC (.int 0)) gNil)) gNil)) (gCons (gTup (gCons (gC (.int 0)) (gCons (gC .non) gNil))) gNil)))))))))))))))) (gName 2)) (gRet (gOp vIx (gVar 2) (gCall g__law_draw (gCons (gVar 0) (gCons (gC (.int 14)) gNil))))))
noncomputable def b__law_bad_kind : GS :=
    r__law_bad_kind_1
noncomputable def g__law_bad_kind : GF := gFn 2 3 b__law_bad_kind
noncomputable def r__law_bad_kinds_1 : GS := (gSeq (gIfS (tB (gOp vEq (gVar 3) (gC (.int 0)))) (gRet (gOp vIx (gVar 2) (gCall g__law_draw (gCons (gVar 0) (gCons (gC (.int 7)) gNil))))) gNext) (gRet (gOp vAdd (gOp vAdd (gSl (gOp vIx (gVar 1) (gC (.int 6))) oNone (oSome (gVar 4))) (gTup (gCons (gVar 5) gNil))) (gSl (gOp vIx (gVar 1) (gC (.int 6))) (oSome (gOp vAdd (gVar 4) (gC (.int 1)))) oNone))))
noncomputable def r__law_bad_kinds_2 : GS := (gSeq (gAsg (gCall g__law_bad_kind (gCons (gVar 0) (gCons (gOp vIx (gVar 1) (gC (.int 1))) gNil))) (gName 5)) r__law_bad_kinds_1)
noncomputable def r__law_bad_kinds_3 : GS := (gSeq (gAsg (gCall g__law_draw (gCons (gVar 0) (gCons (gC (.int 3)) gNil))) (gName 4)) r__law_bad_kinds_2)
noncomputable def r__law_bad_kinds_4 : GS := (gSeq (gAsg (gCall g__law_draw (gCons (gVar 0) (gCons (gC (.int 2)) gNil))) (gName 3)) r__law_bad_kinds_3)
noncomputable def r__law_bad_kinds_5 : GS := (gSeq (gAsg (gNew (gLst (gCons (gC .non) (gCons (gNew (gList (gOp vIx (gVar 1) (gC (.int 6))))) (gCons (gC (.str (Str.ofString ""))) (gCons (gC (.int 0)) (gCons (gTup (gCons (gTup (gCons (gC (.int 0)) gNil)) (gCons (gTup (gCons (gC (.int 0)) gNil)) (gCons (gTup (gCons (gC (.int 0)) gNil)) (gCons (gTup (gCons (gC (.int 0)) gNil)) gNil))))) (gCons (gNew (gLst (gCons (gTup (gCons (gC (.int 0)) gNil)) gNil))) (gCons (gC (.bl false)) gNil))))))))) (gName 2)) r__law_bad_kinds_4)
noncomputable def b__law_bad_kinds : GS :=
    r__law_bad_kinds_5
noncomputable def g__law_bad_kinds : GF := gFn 2 6 b__law_bad_kinds
noncomputable def r__law_bad_acting_1 : GS := (gSeq (gAsg (gNew (gLst (gCons (gC .non) (gCons (gNew (gLst (gCons (gC (.int 0)) gNil))) (gCons (gTup (gCons (gC (.int 0)) (gCons (gC (.int 0)) gNil))) (gCons (gTup (gCons (gC (.int 1)) (gCons (gC (.int 0)) gNil))) (gCons (gTup (gCons (gVar 2) gNil)) (gCons (gTup (gCons (gUn vNeg (gC (.int 1))) gNil)) (gCons (gTup (gCons (gC (.bl true)) gNil)) (gCons (gTup (gCons (gC (.int 0)) (gCons (gC (.int 1)) (gCons (gC (.int 2)) gNil)))) (gCons (gC (.str (Str.ofString "0"))) (gCons (gC (.int 0)) (gCons (gTup (gCons (gC (.str (Str.ofString "0"))) gNil)) (gCons (gTup (gCons (gC (.int 0)) (gCons (gC (.int 9)) gNil))) (gCons (gTup (gCons (gC (.int 0)) (gCons (gC .non) gNil))) (gCons (gC (.bl false)) gNil)))))))))))))))) (gName 3)) (gRet (gOp vIx (gVar 3) (gCall g__law_draw (gCons (gVar 0) (gCons (gC (.int 14)) gNil))))))
noncomputable def r__law_bad_acting_2 : GS := (gSeq (gAsg (gOp vMul (gOp vIx (gVar 1) (gC (.int 0))) (gOp vIx (gVar 1) (gC (.int 1)))) (gName 2)) r__law_bad_acting_1)
noncomputable def b__law_bad_acting : GS :=
    r__law_bad_acting_2
noncomputable def g__law_bad_acting : GF := gFn 2 4 b__law_bad_acting
noncomputable def r__law_spoilt_1 : GS := (gSeq (gIfS (tB (gOp vLt (gVar 2) (gC (.int 3)))) (gAsg (gCall g__law_bad_number (gCons (gVar 0) gNil)) (gName 3)) (gIfS (tB (gOp vEq (gVar 2) (gC (.int 4)))) (gAsg (gIxL (gLst (gCons (gC (.int 0)) (gCons (gC (.int 1)) (gCons (gC .non) (gCons (gC (.str (Str.ofString "eager"))) (gCons (gC (.str (Str.ofString "False"))) (gCons (gTup gNil) (gCons (gC (.int 2)) (gCons (gC (.str (Str.ofString "free"))) gNil))))))))) (gCall g__law_draw (gCons (gVar 0) (gCons (gC (.int 8)) gNil)))) (gName 3)) (gIfS (tB (gOp vEq (gVar 2) (gC (.int 6)))) (gAsg (gCall g__law_bad_kinds (gCons (gVar 0) (gCons (gVar 1) gNil))) (gName 3)) (gIfS (tB (gOp vEq (gVar 2) (gC (.int 7)))) (gAsg (gCall g__law_bad_acting (gCons (gVar 0) (gCons (gVar 1) gNil))) (gName 3)) (gAsg (gCall g__law_bad_word (gCons (gVar 0) (gCons (gOp vIx (gVar 1) (gVar 2)) gNil))) (gName 3)))))) (gRet (gOp vAdd (gOp vAdd (gSl (gVar 1) oNone (oSome (gVar 2))) (gTup (gCons (gVar 3) gNil))) (gSl (gVar 1) (oSome (gOp vAdd (gVar 2) (gC (.int 1)))) oNone))))
noncomputable def r__law_spoilt_2 : GS := (gSeq (gAsg (gCall g__law_draw (gCons (gVar 0) (gCons (gC (.int 8)) gNil))) (gName 2)) r__law_spoilt_1)
noncomputable def b__law_spoilt : GS :=
    r__law_spoilt_2
noncomputable def g__law_spoilt : GF := gFn 2 4 b__law_spoilt
noncomputable def r_law_1 : GS := (gSeq (gAsg (gNew (gLst (gCons (gC .non) (gCons (gTup gNil) (gCons (gNew (gLst gNil)) (gCons (gC (.str (Str.ofString ""))) (gCons (gC (.int 0)) (gCons (gC (.bl true)) (gCons (gOp vIx (gVar 3) (gC (.int 0))) (gCons (gOp vIx (gVar 3) (gC (.int 6))) (gCons (gTup (gCons (gVar 3) gNil)) (gCons (gC (.str (Str.ofString "(1, 1, 1)"))) gNil)))))))))))) (gName 5)) (gIfS (tOr (tB (gOp vIsNot (gCall g_is_rule (gCons (gOp vIx (gVar 5) (gCall g__law_draw (gCons (gVar 1) (gCons (gC (.int 10)) gNil)))) gNil)) (gC (.bl false)))) (tB (gOp vIsNot (gCall g_is_rule (gCons (gVar 3) gNil)) (gC (.bl true))))) (gRet (gC (.bl false))) gNext))
noncomputable def r_law_2 : GS := (gSeq (gFor (wNew (gLst (gCons (gCall g__law_spoilt (gCons (gVar 1) (gCons (gVar 3) gNil))) (gCons (gCall g__law_spoilt (gCons (gVar 1) (gCons (gVar 3) gNil))) (gCons (gNew (gList (gVar 3))) (gCons (gSl (gVar 3) oNone (oSome (gC (.int 7)))) (gCons (gOp vAdd (gVar 3) (gTup (gCons (gC (.int 0)) gNil))) (gCons (gOp vAdd (gVar 3) (gTup (gCons (gTup gNil) gNil))) gNil)))))))) (gName 4) (gIfS (tB (gOp vIsNot (gCall g_is_rule (gCons (gVar 4) gNil)) (gC (.bl false)))) (gRet (gC (.bl false))) gNext)) r_law_1)
noncomputable def r_law_3 : GS := (gSeq (gIfS (tB (gOp vIsNot (gCall g_is_rule (gCons (gVar 3) gNil)) (gC (.bl true)))) (gRet (gC (.bl false))) gNext) r_law_2)
noncomputable def r_law_4 : GS := (gSeq (gAsg (gCall g__law_rule (gCons (gVar 1) gNil)) (gName 3)) r_law_3)
noncomputable def r_law_5 : GS := (gSeq (gFor (wRange (gC (.int 4))) (gName 2) r_law_4) (gRet (gC (.bl true))))
noncomputable def r_law_6 : GS := (gSeq (gAsg (gCall g__law_pool (gCons (gVar 0) gNil)) (gName 1)) r_law_5)
noncomputable def b_law : GS :=
    r_law_6
noncomputable def g_law : GF := gFn 1 6 b_law
end DL
namespace DL
open PySem
theorem has_rf {st : Store} {n : Nat} : Has st (.rf n) ↔ n < st.length := by
  show (∃ ds, cellItems st n = some ds) ↔ _
  unfold cellItems
  by_cases h : n < st.length
  · rw [List.getElem?_eq_getElem h]
    cases e : st[n]; simp [h]
  · rw [List.getElem?_eq_none (by omega)]; simp [h]
theorem sp_is_integer {d : D} {st : Store} {Q : D → Store → Prop} (h : Has st d) (q : Q (.bl (isTy .int d && !isTy .bool d)) st) : Run (g_is_integer [d]) st Q := by
  unfold g_is_integer b_is_integer
  refine (run_gFn (by rfl)).mpr ?_
  simp [-Bool.exists_bool, startE, run_isi, h]
  cases d <;> simp_all [isTy]
def intIn (lo hi : Int) : D → Bool
  | .int i => decide (lo ≤ i) && decide (i ≤ hi)
  | _ => false
theorem sp_is_integer_within {d : D} {lo hi : Int} {st : Store} {Q : D → Store → Prop} (h : Has st d) (q : Q (.bl (intIn lo hi d)) st) : Run (g_is_integer_within [d, .int lo, .int hi]) st Q := by
  unfold g_is_integer_within b_is_integer_within
  refine (run_gFn (by rfl)).mpr ?_
  simp [startE]
  refine sp_is_integer h ?_
  cases d with
  | int i =>
    simp_all [isTy, intIn]
    by_cases c : lo ≤ i <;> simp_all
  | _ => simp_all [isTy, intIn]
def wordB (ws : List D) : D → Bool
  | .str x => ws.any fun z => eqF z (.str x)
  | _ => false
theorem sp_is_word_of {d : D} {ws : List D} (hw : ws.all flat = true) {st : Store} {Q : D → Store → Prop} (h : Has st d) (q : Q (.bl (wordB ws d)) st) : Run (g_is_word_of [d, .tup ws]) st Q := by
  unfold g_is_word_of b_is_word_of
  refine (run_gFn (by rfl)).mpr ?_
  simp [-Bool.exists_bool, startE, run_isi, h]
  cases d with
  | str x =>
    have e : inB (.str x) (.tup ws) st = some (ws.any fun z => eqF z (.str x)) := by
      show (if (true && ws.all flat) = true then _ else _) = _
      rw [hw]; rfl
    simp [-Bool.exists_bool, isTy, e]
    exact q
  | _ => simp_all [-Bool.exists_bool, isTy, wordB]
def lenB (lo hi : Int) : D → Bool
  | .tup ds => decide (lo ≤ (ds.length : Int)) && decide ((ds.length : Int) ≤ hi)
  | _ => false
theorem sp_is_tuple_of {d : D} {lo hi : Int} {st : Store} {Q : D → Store → Prop} (h : Has st d) (q : Q (.bl (lenB lo hi d)) st) : Run (g_is_tuple_of [d, .int lo, .int hi]) st Q := by
  unfold g_is_tuple_of b_is_tuple_of
  refine (run_gFn (by rfl)).mpr ?_
  simp [-Bool.exists_bool, startE, run_isi, h]
  cases d with
  | tup ds =>
    simp_all [isTy, lenB]
    by_cases c : lo ≤ (ds.length : Int) <;> simp_all
  | _ => simp_all [isTy, lenB]
def ascB (lim : Int) : Int → List D → Bool
  | _, [] => true
  | least, d :: ds => intIn least (lim - 1) d && (match d with
    | .int i => ascB lim (i + 1) ds
    | _ => false)
def numsB (lim : Int) : D → Bool
  | .tup ds => ascB lim 0 ds
  | _ => false
def Has2 (st : Store) (d : D) : Prop := Has st d ∧ ∀ ds, d = .tup ds → ∀ x ∈ ds, Has st x
def invA (st : Store) (ds : List D) (lim : Int) : List D → Env → Store → Prop := fun l ρ s => s = st ∧ (∀ x ∈ l, Has st x) ∧ ∃ least v, ρ = [some (.tup ds), some (.int lim), some (.int least), v] ∧ ascB lim 0 ds = ascB lim least l
theorem sp_are_numbers_below {d : D} {lim : Int} {st : Store} {Q : D → Store → Prop} (h : Has2 st d) (q : Q (.bl (numsB lim d)) st) : Run (g_are_numbers_below [d, .int lim]) st Q := by
  unfold g_are_numbers_below b_are_numbers_below r_are_numbers_below_4 r_are_numbers_below_3 r_are_numbers_below_2 r_are_numbers_below_1
  refine (run_gFn (by rfl)).mpr ?_
  cases d with
  | tup ds =>
    simp [startE, run_isi, h.1, isTy, run_gFor]
    refine run_loop (I := invA st ds lim) (fun _ _ _ _ => trivial) ?_ ?_ ds _ st ⟨rfl, h.2 ds rfl, 0, none, rfl, rfl⟩
    · rintro d l ρ s ⟨rfl, hl, least, v, rfl, e⟩
      simp
      refine sp_is_integer_within (hl d List.mem_cons_self) ?_
      by_cases c : intIn least (lim - 1) d = true
      · cases d with
        | int i =>
          simp [c, turnQ]
          refine ⟨rfl, fun x hx => hl x (List.mem_cons_of_mem _ hx), i + 1, _, rfl, ?_⟩
          rw [e]
          simp [ascB, c]
        | _ => simp [intIn] at c
      · simp [c, turnQ]
        have e2 : numsB lim (.tup ds) = false := by
          show ascB lim 0 ds = false
          rw [e]
          simp [ascB, c]
        rw [e2] at q
        exact q
    · rintro ρ s ⟨rfl, _, least, v, rfl, e⟩
      simp
      have e2 : numsB lim (.tup ds) = true := by
        show ascB lim 0 ds = true
        rw [e]
        rfl
      rw [e2] at q
      exact q
  | cl ds => exact h.1.elim
  | _ => simp_all [startE, run_isi, h.1, isTy, numsB]
def kindB (lines : Int) (d : D) : Bool := lenB 1 lines d && numsB lines d
theorem sp_is_kind {d : D} {lines : Int} {st : Store} {Q : D → Store → Prop} (h : Has2 st d) (q : Q (.bl (kindB lines d)) st) : Run (g_is_kind [d, .int lines]) st Q := by
  unfold g_is_kind b_is_kind
  refine (run_gFn (by rfl)).mpr ?_
  simp [startE]
  refine sp_is_tuple_of h.1 ?_
  unfold kindB at q
  by_cases c : lenB 1 lines d = true
  · simp [c]
    refine sp_are_numbers_below h ?_
    simpa [c] using q
  · simp [c]
    simpa [c] using q
def SW : List D := [.str (Str.ofString "whole"), .str (Str.ofString "parts"), .str (Str.ofString "filled")]
def LW : List D := [.str (Str.ofString "into"), .str (Str.ofString "past"), .str (Str.ofString "first")]
theorem sp_places_of {w l : Int} {rs : List D} {st : Store} {Q : D → Store → Prop} (hw : 1 ≤ w ∧ w ≤ 3) (q : Q (.int (w * l)) st) : Run (g_places_of [.tup (.int w :: .int l :: rs)]) st Q := by
  unfold g_places_of b_places_of
  refine (run_gFn (by rfl)).mpr ?_
  have e0 : atD (.int w :: .int l :: rs : List D) 0 = some (.int w) := by
    unfold atD ixOf
    rw [if_pos (by decide), if_pos (by simp; omega)]; rfl
  have e1 : atD (.int w :: .int l :: rs : List D) 1 = some (.int l) := by
    unfold atD ixOf
    rw [if_pos (by decide), if_pos (by simp; omega)]; rfl
  simp [startE, e0, e1]
  refine ⟨?_, q⟩
  unfold mulOk
  have : w.natAbs < 2 ^ 64 := by omega
  simp only [this, decide_true, Bool.true_or]
def kindsB : D → D → Bool
  | .int l, .tup ks => ks.all (kindB l)
  | _, _ => false
def actB : D → D → D → Bool
  | .int w, .int l, ac => numsB (w * l) ac
  | _, _, _ => false
def ruleB : D → Bool
  | .tup [w, l, r, s, e, k, ks, ac] => intIn 1 3 w && (intIn 1 3 l && (intIn 1 3 r && (wordB SW s && (wordB LW k && (isTy .bool e && (lenB 0 3 ks && (lenB 0 2 ac && (kindsB l ks && actB w l ac))))))))
  | _ => false
/-- what a rule's parts may be asked -/
def WfR (st : Store) (d : D) : Prop := Has st d ∧ ∀ ds, d = .tup ds → ∀ x ∈ ds, Has2 st x ∧ ∀ es, x = .tup es → ∀ y ∈ es, Has2 st y
def invP (st : Store) (ds : List D) : List D → Env → Store → Prop := fun l ρ s => s = st ∧ (∃ i : Nat, i ≤ 3 ∧ l = (fromTo 0 3).drop i ∧ ∀ j : Nat, j < i → ∀ d, ds[j]? = some d → intIn 1 3 d = true) ∧ ∃ v, ρ = [some (.tup ds), v, none, none]
theorem atD_nat {α : Type} {xs : List α} {j : Nat} (h : j < xs.length) : atD xs (j : Int) = xs[j]? := by
  unfold atD ixOf
  rw [if_pos (by omega), if_pos (by omega)]
  simp
theorem bools_map (f : D → Bool) : ∀ ks : List D, bools (ks.map fun d => .bl (f d)) = some (ks.map f)
  | [] => rfl
  | d :: r => by
    show (bools (r.map fun d => .bl (f d))).map (f d :: ·) = _
    rw [bools_map f r]; rfl
def invK (st : Store) (ks0 : List D) (lines : Int) (l acc : List D) (s : Store) : Prop := s = st ∧ (∀ x ∈ l, Has2 st x) ∧ acc ++ l.map (fun d => .bl (kindB lines d)) = ks0.map fun d => .bl (kindB lines d)
theorem intIn_elim {lo hi : Int} {d : D} (h : intIn lo hi d = true) : ∃ i, d = .int i ∧ lo ≤ i ∧ i ≤ hi := by
  cases d with
  | int i => simp [intIn] at h; exact ⟨i, rfl, h⟩
  | _ => simp [intIn] at h
theorem sp_is_rule {d : D} {st : Store} {Q : D → Store → Prop} (h : WfR st d) (hl : ∀ ds, d = .tup ds → ds.length ≤ SZ) (q : Q (.bl (ruleB d)) st) : Run (g_is_rule [d]) st Q := by
  unfold g_is_rule b_is_rule r_is_rule_6 r_is_rule_5 r_is_rule_4 r_is_rule_3 r_is_rule_2 r_is_rule_1
  refine (run_gFn (by rfl)).mpr ?_
  simp [-Bool.exists_bool, startE]
  refine sp_is_tuple_of h.1 ?_
  by_cases c8 : lenB 8 8 d = true
  · cases d with
    | tup ds =>
      have e8 : ds.length = 8 := by simp [lenB] at c8; omega
      match ds, e8 with
      | [w, l, r, s, e, k, ks, ac], _ =>
      have hx := h.2 _ rfl
      have hw := (hx w (by simp)).1.1
      have hll := (hx l (by simp)).1.1
      have hr := (hx r (by simp)).1.1
      have hs := (hx s (by simp)).1.1
      have he := (hx e (by simp)).1.1
      have hk := (hx k (by simp)).1.1
      have hks := hx ks (by simp)
      have hac := hx ac (by simp)
      have a0 : atD [w, l, r, s, e, k, ks, ac] 0 = some w := rfl
      have a1 : atD [w, l, r, s, e, k, ks, ac] 1 = some l := rfl
      have a2 : atD [w, l, r, s, e, k, ks, ac] 2 = some r := rfl
      have a3 : atD [w, l, r, s, e, k, ks, ac] 3 = some s := rfl
      have a4 : atD [w, l, r, s, e, k, ks, ac] 4 = some e := rfl
      have a5 : atD [w, l, r, s, e, k, ks, ac] 5 = some k := rfl
      have a6 : atD [w, l, r, s, e, k, ks, ac] 6 = some ks := rfl
      have a7 : atD [w, l, r, s, e, k, ks, ac] 7 = some ac := rfl
      simp [-Bool.exists_bool, c8, run_gFor, a0]
      have rb : ruleB (.tup [w, l, r, s, e, k, ks, ac]) = (intIn 1 3 w && (intIn 1 3 l && (intIn 1 3 r && (wordB SW s && (wordB LW k && (isTy .bool e && (lenB 0 3 ks && (lenB 0 2 ac && (kindsB l ks && actB w l ac))))))))) := rfl
      refine ⟨by decide, ?_⟩
      refine sp_is_integer_within hw ?_
      by_cases cw : intIn 1 3 w = true
      case neg => simp [cw]; simpa [rb, cw] using q
      simp [-Bool.exists_bool, cw, a1]
      refine sp_is_integer_within hll ?_
      by_cases cl : intIn 1 3 l = true
      case neg => simp [cl]; simpa [rb, cl] using q
      simp [-Bool.exists_bool, cl, a2]
      refine sp_is_integer_within hr ?_
      by_cases cr : intIn 1 3 r = true
      case neg => simp [cr]; simpa [rb, cr] using q
      simp [-Bool.exists_bool, cr, a3]
      refine sp_is_word_of (ws := SW) rfl hs ?_
      by_cases cs : wordB SW s = true
      case neg => simp [cs]; simpa [rb, cs] using q
      simp [-Bool.exists_bool, cs, a5]
      refine sp_is_word_of (ws := LW) rfl hk ?_
      by_cases ck : wordB LW k = true
      case neg => simp [ck]; simpa [rb, ck] using q
      simp [-Bool.exists_bool, ck, a4, run_isi, he]
      by_cases ce : isTy .bool e = true
      case neg => simp [ce]; simpa [rb, ce] using q
      simp [-Bool.exists_bool, ce, a6]
      refine sp_is_tuple_of hks.1.1 ?_
      by_cases cks : lenB 0 3 ks = true
      case neg => simp [cks]; simpa [rb, cks] using q
      simp [-Bool.exists_bool, cks, a7]
      refine sp_is_tuple_of hac.1.1 ?_
      by_cases cac : lenB 0 2 ac = true
      case neg => simp [cac]; simpa [rb, cac] using q
      simp [-Bool.exists_bool, cac, a6]
      cases ks with
      | tup kd =>
        obtain ⟨wi, rfl, hwi⟩ := intIn_elim cw
        obtain ⟨li, rfl, hli⟩ := intIn_elim cl
        have hkd : ∀ y ∈ kd, Has2 st y := hks.2 kd rfl
        have hkl : kd.length ≤ 3 := by simp [lenB] at cks; omega
        rw [seqW_tup]
        refine run_comp_map trivial (fun d => .bl (kindB li d)) (fun d hd => ?_) ?_
        · simp [wipeE, a1]
          exact sp_is_kind (hkd d hd) ⟨rfl, rfl⟩
        · refine ⟨by rw [List.length_map]; exact Nat.le_trans hkl (by decide), _, bools_map _ _, ?_⟩
          by_cases ca : kd.all (kindB li) = true
          · have n : ¬ false ∈ kd.map (kindB li) := by
              intro z
              obtain ⟨y, hy, e⟩ := List.mem_map.mp z
              rw [List.all_eq_true.mp ca y hy] at e; cases e
            rw [if_neg n]
            refine sp_places_of hwi ?_
            refine sp_are_numbers_below hac.1 ?_
            simpa [rb, cw, cl, cr, cs, ck, ce, cks, cac, kindsB, ca, actB] using q
          · have n : false ∈ kd.map (kindB li) := by
              rw [List.all_eq_true] at ca
              simp only [Classical.not_forall] at ca
              obtain ⟨y, hy, e⟩ := ca
              exact List.mem_map.mpr ⟨y, hy, by simpa using e⟩
            rw [if_pos n]
            simpa [rb, cw, cl, cr, cs, ck, ce, cks, cac, kindsB, ca, actB] using q
      | _ => simp [lenB] at cks
    | _ => simp [lenB] at c8
  · have rb : ruleB d = false := by
      cases d with
      | tup ds =>
        match ds with
        | [w, l, r, s, e, k, ks, ac] => simp [lenB] at c8
        | [] => rfl
        | [_] => rfl
        | [_, _] => rfl
        | [_, _, _] => rfl
        | [_, _, _, _] => rfl
        | [_, _, _, _, _] => rfl
        | [_, _, _, _, _, _] => rfl
        | [_, _, _, _, _, _, _] => rfl
        | _ :: _ :: _ :: _ :: _ :: _ :: _ :: _ :: _ :: _ => rfl
      | _ => rfl
    simp [c8]
    rw [rb] at q
    exact q
end DL
namespace DL
open PySem
def PoolAt (st : Store) (p : Nat) (a b c : Int) (q : Nat) (cs : List Int) : Prop :=
  st[p]? = some (.lst [.int a, .int b, .int c, .rf q]) ∧ st[q]? = some (.lst (cs.map D.int)) ∧ 0 ≤ a ∧ 0 ≤ b ∧ p ≠ q
def PoolOk (st : Store) (p q : Nat) : Prop := ∃ a b c cs, PoolAt st p a b c q cs
/-- from st to st': the pool at p is a pool still, all else that stood stands -/
structure Go (p q : Nat) (st st' : Store) : Prop where
  le : st.length ≤ st'.length
  pool : PoolOk st' p q
  keep : ∀ n, n ≠ p → n < st.length → st'[n]? = st[n]?
theorem Go.trans {p q : Nat} {a b c : Store} (h : Go p q a b) (g : Go p q b c) : Go p q a c :=
  ⟨Nat.le_trans h.le g.le, g.pool, fun n hn hl => (g.keep n hn (Nat.lt_of_lt_of_le hl h.le)).trans (h.keep n hn hl)⟩
theorem Go.refl {p q : Nat} {st : Store} (h : PoolOk st p q) : Go p q st st := ⟨Nat.le_refl _, h, fun _ _ _ => rfl⟩
theorem eqPy_int {i j : Int} {st : Store} : eqPy (.int i) (.int j) st = some (i == j) := by
  show (if (SeqAt.shaped (.int i) && SeqAt.shaped (.int j)) = true then some (PyData.eqv (.int i) (.int j)) else none) = _
  rw [if_pos (by rfl)]
  rfl
theorem cell_set {st : Store} {p : Nat} {ds : List D} (h : p < st.length) : cellItems (st.set p (.lst ds)) p = some ds := by
  unfold cellItems; rw [List.getElem?_set_self h]
theorem cell_set_ne {st : Store} {p q : Nat} {c : Cell} (h : p ≠ q) : cellItems (st.set p c) q = cellItems st q := by
  unfold cellItems; rw [List.getElem?_set_ne h]
theorem PoolAt.set {st : Store} {p : Nat} {a b c : Int} {q : Nat} {cs : List Int} (h : PoolAt st p a b c q cs) {a' b' c' : Int} (ha : 0 ≤ a') (hb : 0 ≤ b') : PoolAt (st.set p (.lst [.int a', .int b', .int c', .rf q])) p a' b' c' q cs := by
  obtain ⟨h1, h2, _, _, h5⟩ := h
  refine ⟨?_, ?_, ha, hb, h5⟩
  · rw [List.getElem?_set_self (List.getElem?_eq_some_iff.mp h1).1]
  · rw [List.getElem?_set_ne h5]; exact h2
theorem PoolAt.go {st : Store} {p : Nat} {a b c : Int} {q : Nat} {cs : List Int} (h : PoolAt st p a b c q cs) {a' b' c' : Int} (ha : 0 ≤ a') (hb : 0 ≤ b') : Go p q st (st.set p (.lst [.int a', .int b', .int c', .rf q])) :=
  ⟨by simp, ⟨a', b', c', cs, h.set ha hb⟩, fun n hn hl => List.getElem?_set_ne (Ne.symm hn)⟩
theorem PoolOk.lt {st : Store} {p q : Nat} (h : PoolOk st p q) : p < st.length ∧ q < st.length ∧ p ≠ q := by
  obtain ⟨a, b, c, cs, h1, h2, _, _, h5⟩ := h
  exact ⟨(List.getElem?_eq_some_iff.mp h1).1, (List.getElem?_eq_some_iff.mp h2).1, h5⟩
/-- a list that is neither the pool nor its cells may be written -/
theorem PoolOk.other {st : Store} {p q n : Nat} {c : Cell} (h : PoolOk st p q) (hp : n ≠ p) (hq : n ≠ q) : PoolOk (st.set n c) p q := by
  obtain ⟨a, b, d, cs, h1, h2, h3⟩ := h
  exact ⟨a, b, d, cs, by rw [List.getElem?_set_ne hp]; exact h1, by rw [List.getElem?_set_ne hq]; exact h2, h3⟩
theorem PoolOk.more {st m : Store} {p q : Nat} (h : PoolOk st p q) : PoolOk (st ++ m) p q := by
  obtain ⟨h4, h5, _⟩ := h.lt
  obtain ⟨a, b, d, cs, h1, h2, h3⟩ := h
  exact ⟨a, b, d, cs, by rw [List.getElem?_append_left h4]; exact h1, by rw [List.getElem?_append_left h5]; exact h2, h3⟩
theorem Go.more {st m : Store} {p q : Nat} (h : PoolOk st p q) : Go p q st (st ++ m) :=
  ⟨by simp, h.more, fun n _ hl => List.getElem?_append_left hl⟩
theorem mulOk_r {i j : Int} (h : j.natAbs < 2 ^ 64) : mulOk i j = true := by
  unfold mulOk
  simp only [h, decide_true, Bool.or_true, Bool.true_or]
theorem mulOk_w {i j : Int} (hi : i.natAbs < 2 ^ 400) (hj : j.natAbs < 2 ^ 400) : mulOk i j = true := by
  unfold mulOk
  simp only [hi, hj, decide_true, Bool.and_true, Bool.or_true]
theorem mod_big (x : Int) : (x % 1000000000000000000000000000000000067).natAbs < 2 ^ 400 := by
  have h1 := Int.emod_nonneg x (show (1000000000000000000000000000000000067 : Int) ≠ 0 by decide)
  have h2 := Int.emod_lt_of_pos x (show (0 : Int) < 1000000000000000000000000000000000067 by decide)
  have h3 : (x % 1000000000000000000000000000000000067).natAbs < 1000000000000000000000000000000000067 := by omega
  exact Nat.lt_trans h3 (by decide)
theorem set_same {st : Store} {p : Nat} {c : Cell} (h : st[p]? = some c) : st.set p c = st := by
  refine List.ext_getElem? fun j => ?_
  by_cases hj : j = p
  · subst hj; rw [List.getElem?_set_self (List.getElem?_eq_some_iff.mp h).1, h]
  · rw [List.getElem?_set_ne (Ne.symm hj)]
theorem sp_draw {st : Store} {p r : Nat} {many : Int} {Q : D → Store → Prop} (h : PoolOk st p r) (h0 : 0 < many) (h1 : many.natAbs < 2 ^ 400) (q : ∀ k st', 0 ≤ k → k < many → Go p r st st' → Q (.int k) st') : Run (g__law_draw [.rf p, .int many]) st Q := by
  obtain ⟨a, b, c, cs, hp⟩ := h
  have hl := (List.getElem?_eq_some_iff.mp hp.1).1
  have hb0 : 0 ≤ b := hp.2.2.2.1
  have hs : ∀ c : Cell, (st.set p c)[p]? = some c := fun c => List.getElem?_set_self hl
  have x0 : ixOf 4 0 = some 0 := rfl
  have x1 : ixOf 4 1 = some 1 := rfl
  have x2 : ixOf 4 2 = some 2 := rfl
  have j0 : ∀ a b c : Int, atD [D.int a, .int b, .int c, .rf r] 0 = some (.int a) := fun _ _ _ => rfl
  have j1 : ∀ a b c : Int, atD [D.int a, .int b, .int c, .rf r] 1 = some (.int b) := fun _ _ _ => rfl
  have j2 : ∀ a b c : Int, atD [D.int a, .int b, .int c, .rf r] 2 = some (.int c) := fun _ _ _ => rfl
  have j3 : ∀ a b c : Int, atD [D.int a, .int b, .int c, .rf r] 3 = some (.rf r) := fun _ _ _ => rfl
  -- the end: the drawn number, what is left
  have fin : ∀ (a' b' c' : Int) (v2 v3 : Option D), 0 ≤ a' → 0 ≤ b' → Run (r__law_draw_10 [some (.rf p), some (.int many), v2, v3, none]) (st.set p (.lst [.int a', .int b', .int c', .rf r])) (fnQ Q) := fun a' b' c' v2 v3 ha hb => by
    unfold r__law_draw_10 r__law_draw_9
    simp [cell_set hl, j0, h0, h1, x0, hs]
    exact q _ _ (Int.emod_nonneg _ (by omega)) (Int.emod_lt_of_pos _ h0) (hp.go (Int.ediv_nonneg ha (by omega)) hb)
  have e0 : cellItems st p = some [.int a, .int b, .int c, .rf r] := by unfold cellItems; rw [hp.1]
  have er : cellItems st r = some (cs.map D.int) := by unfold cellItems; rw [hp.2.1]
  -- with the cell
  have tail : ∀ cell : Int, Run (r__law_draw_6 [some (.rf p), some (.int many), some (.int cell), none, none]) st
        (fun f s => ∃ (a' b' c' : Int) (v2 v3 : Option D), 0 ≤ a' ∧ 0 ≤ b' ∧ f = .nx [some (.rf p), some (.int many), v2, v3, none] ∧ s = st.set p (.lst [.int a', .int b', .int c', .rf r])) := fun cell => by
    unfold r__law_draw_6 r__law_draw_5 r__law_draw_4 r__law_draw_3 r__law_draw_2 r__law_draw_1
    simp [-Bool.exists_bool, e0, j1, hp.1, x1, x0, cell_set hl, hs, j0, j2, x2, run_ltI]
    by_cases cc : cell - 1000000000000000000 < 0
    · rw [if_pos cc]
      refine ⟨mulOk_r (by decide), mulOk_r (by decide), mulOk_w (mod_big _) (mod_big _), ?_⟩
      exact ⟨_, Int.emod_nonneg _ (by decide), b + 1, by omega, _, rfl⟩
    · rw [if_neg cc]
      exact ⟨_, by omega, b + 1, by omega, c, rfl⟩
  unfold g__law_draw b__law_draw r__law_draw_11
  refine (run_gFn (by rfl)).mpr ?_
  rw [run_gSeq, run_gIfS]
  simp only [run_tB, run_gOp, run_gVar, run_gC, startE, List.map, List.length, List.replicate, List.append]
  refine ⟨_, rfl, run_ixL.mpr ⟨_, _, e0, j0 _ _ _, run_vEq.mpr ⟨_, eqPy_int, _, rfl, ?_⟩⟩⟩
  by_cases ca : a = 0
  · subst ca
    rw [if_pos (by rfl)]
    have go : ∀ cell : Int, Run (r__law_draw_6 [some (.rf p), some (.int many), some (.int cell), none, none]) st (fl (fnQ Q) r__law_draw_10) := fun cell => by
      refine (tail cell).mono ?_
      rintro f s ⟨a', b', c', v2, v3, ha, hb, rfl, rfl⟩
      exact fin a' b' c' v2 v3 ha hb
    unfold r__law_draw_8 r__law_draw_7
    simp [-Bool.exists_bool, e0, j1, j3, er, run_ltI]
    by_cases cb : b < (cs.length : Int)
    · rw [if_pos cb]
      have ec : atD (cs.map D.int) b = some (.int (cs[b.toNat]'(by have := hp.2.2.2.1; omega))) := by
        unfold atD ixOf
        rw [if_pos hp.2.2.2.1, if_pos (by simpa using cb)]
        show (cs.map D.int)[b.toNat]? = _
        rw [List.getElem?_map, List.getElem?_eq_getElem (by have := hp.2.2.2.1; omega)]
        rfl
      refine ⟨_, ec, ?_⟩
      exact go _
    · rw [if_neg cb]
      exact go 0
  · rw [if_neg (by simpa using ca), run_gNext, fl_nx]
    have := fin a b c none none hp.2.2.1 hp.2.2.2.1
    rw [set_same hp.1] at this
    exact this
end DL
namespace DL
open PySem
theorem sp_pool {ns : List Int} {st : Store} {Q : D → Store → Prop} (hn : ns.length ≤ 63) (q : ∀ p q st', PoolOk st' p q → st.length ≤ st'.length → (∀ n, n < st.length → st'[n]? = st[n]?) → Q (.rf p) st') : Run (g__law_pool [.cl (ns.map D.int)]) st Q := by
  unfold g__law_pool b__law_pool
  refine (run_gFn (by rfl)).mpr ?_
  simp [-Bool.exists_bool, startE]
  refine run_comp_map trivial (fun d => match d with
    | .int i => .int (if i < 0 then -i else i)
    | d => d) (fun d hd => ?_) ?_
  · obtain ⟨i, hi, rfl⟩ := List.mem_map.mp hd
    simp [wipeE]
  · have e : (ns.map D.int).map (fun d => match d with
      | .int i => .int (if i < 0 then -i else i)
      | d => d) = (ns.map fun i => if i < 0 then -i else i).map D.int := by
      rw [List.map_map, List.map_map]; rfl
    rw [e]
    refine ⟨by rw [List.length_map, List.length_map]; exact Nat.le_trans hn (by decide), by decide, ?_⟩
    refine q _ st.length _ ⟨0, 0, 271828182845904523536028747135266249775724709369995, ns.map fun i => if i < 0 then -i else i, ?_, ?_, by decide, by decide, ?_⟩ ?_ ?_
    · simp
    · rw [List.getElem?_append_right (Nat.le_refl _)]
      simp
    · simp
    · simp
    · intro n hn
      rw [List.getElem?_append_left hn]
theorem Go.has {p q : Nat} {st st' : Store} (h : Go p q st st') {d : D} (g : Has st d) : Has st' d := by
  cases d with
  | rf n => rw [has_rf] at g ⊢; exact Nat.lt_of_lt_of_le g h.le
  | cl _ => exact g
  | _ => trivial
theorem Go.has2 {p q : Nat} {st st' : Store} (h : Go p q st st') {d : D} (g : Has2 st d) : Has2 st' d := ⟨h.has g.1, fun ds e x hx => h.has (g.2 ds e x hx)⟩
/-- the bits of a number, ascending -/
def bitsOf (n : Int) (many : Nat) : List Int := ((List.range many).filter fun k => n / 2 ^ k % 2 == 1).map fun (k : Nat) => (k : Int)
theorem bits_asc (n lim : Int) : ∀ (many : Nat), (many : Int) ≤ lim → ascB lim 0 ((bitsOf n many).map D.int) = true := by
  intro many hm
  have key : ∀ (l : List Nat) (least : Int), l.Pairwise (· < ·) → (∀ k ∈ l, least ≤ (k : Int) ∧ (k : Int) ≤ lim - 1) → ascB lim least ((l.map fun (k : Nat) => (k : Int)).map D.int) = true := by
    intro l
    induction l with
    | nil => intro _ _ _; rfl
    | cons k r ih =>
      intro least hp hb
      obtain ⟨h1, h2⟩ := List.pairwise_cons.mp hp
      show (intIn least (lim - 1) (.int (k : Int)) && ascB lim ((k : Int) + 1) _) = true
      have := hb k List.mem_cons_self
      rw [ih _ h2 fun j hj => ⟨by have := h1 j hj; omega, (hb j (List.mem_cons_of_mem _ hj)).2⟩]
      simp [intIn, this.1, this.2]
  refine key _ 0 ?_ fun k hk => ?_
  · exact (List.pairwise_lt_range).filter _
  · have := List.mem_range.mp (List.mem_filter.mp hk).1
    omega
theorem sp_bits {n many : Int} {st : Store} {Q : D → Store → Prop} (h0 : 0 ≤ n) (h1 : 0 ≤ many) (h2 : many ≤ 100) (q : Q (.tup ((bitsOf n many.toNat).map D.int)) st) : Run (g__law_bits [.int n, .int many]) st Q := by
  unfold g__law_bits b__law_bits
  refine (run_gFn (by rfl)).mpr ?_
  simp [-Bool.exists_bool, startE]
  refine ⟨by unfold smallI; simp; omega, ?_⟩
  have key := run_comp (gd := fun _ => True) (g := gName 2) (t := tB (gOp vEq (gOp vMod (gUn vInt (gOp vShr (gVar 0) (gVar 2))) (gC (.int 2))) (gC (.int 1)))) (e := gVar 2) (ρ := wipeE [some (.int n), some (.int many), none] [2])
    (fun l acc s => s = st ∧ ∃ i : Nat, i ≤ many.toNat ∧ l = (fromTo 0 many.toNat).drop i ∧ acc = (bitsOf n i).map D.int) (fun _ _ _ _ => trivial) ?_ (fromTo 0 many.toNat) [] st ⟨rfl, 0, Nat.zero_le _, rfl, rfl⟩
  · refine key.mono ?_
    rintro ds s ⟨rfl, i, hi, hd, ha⟩
    have : i = many.toNat := by
      have := congrArg List.length hd
      simp [fromTo] at this
      omega
    subst this
    rw [List.nil_append] at ha
    subst ha
    refine ⟨?_, q⟩
    rw [List.length_map]
    unfold bitsOf
    rw [List.length_map]
    exact Nat.le_trans (List.length_filter_le _ _) (by rw [List.length_range]; exact Nat.le_trans (show many.toNat ≤ 100 by omega) (by decide))
  · rintro d l acc s ⟨rfl, i, hi, hd, ha⟩
    have hil : i < many.toNat := by
      have := congrArg List.length hd
      simp [fromTo] at this
      omega
    have h3 : (fromTo 0 many.toNat)[i]? = some (D.int (i : Int)) := by
      unfold fromTo
      rw [List.getElem?_map, List.getElem?_range hil]
      simp
    have h4 : i < (fromTo 0 many.toNat).length := by simp [fromTo]; omega
    rw [List.drop_eq_getElem_cons h4] at hd
    injection hd with hd1 hd2
    have h5 : d = .int (i : Int) := by
      rw [List.getElem?_eq_getElem h4] at h3
      rw [hd1]; exact Option.some.inj h3
    subst h5
    have hb : bitsOf n (i + 1) = if (n / 2 ^ i % 2 == 1) = true then bitsOf n i ++ [(i : Int)] else bitsOf n i := by
      unfold bitsOf
      rw [List.range_succ, List.filter_append, List.map_append]
      by_cases c : (n / 2 ^ i % 2 == 1) = true
      · rw [if_pos c]; simp [c]
      · rw [if_neg c]; simp [c]
    simp [-Bool.exists_bool, wipeE, eqPy_int]
    by_cases c : (n / 2 ^ i % 2 == 1) = true
    · have c' : n / 2 ^ i % 2 = 1 := by simpa using c
      rw [if_pos c']
      exact ⟨i + 1, hil, hd2, by rw [hb, if_pos c, ha]; simp⟩
    · have c' : ¬ n / 2 ^ i % 2 = 1 := by simpa using c
      rw [if_neg c']
      exact ⟨i + 1, hil, hd2, by rw [hb, if_neg c, ha]⟩
end DL
namespace DL
open PySem
theorem atD_mem {α : Type} {xs : List α} {i : Int} (h0 : 0 ≤ i) (h1 : i < xs.length) : ∃ x ∈ xs, atD xs i = some x := by
  have hl : i.toNat < xs.length := by omega
  refine ⟨xs[i.toNat], List.getElem_mem hl, ?_⟩
  unfold atD ixOf
  rw [if_pos h0, if_pos h1]
  exact List.getElem?_eq_getElem hl
def tupI (xs : List Int) : D := .tup (xs.map D.int)
/-- a rule that the law makes -/
structure VR (w l r : Int) (s k : Str) (ks : List (List Int)) (ac : List Int) : Prop where
  hw : 1 ≤ w ∧ w ≤ 3
  hl : 1 ≤ l ∧ l ≤ 3
  hr : 1 ≤ r ∧ r ≤ 3
  hs : s = Str.ofString "whole" ∨ s = Str.ofString "parts" ∨ s = Str.ofString "filled"
  hk : k = Str.ofString "into" ∨ k = Str.ofString "past" ∨ k = Str.ofString "first"
  hks : ks.length ≤ 3 ∧ ∀ x ∈ ks, kindB l (tupI x) = true
  hac : ac.length ≤ 2 ∧ ascB (w * l) 0 (ac.map D.int) = true
def ruleD (w l r : Int) (s k : Str) (e : Bool) (ks : List (List Int)) (ac : List Int) : D := .tup [.int w, .int l, .int r, .str s, .bl e, .str k, .tup (ks.map tupI), tupI ac]
theorem ascB_take (lim : Int) : ∀ (n : Nat) (least : Int) (ds : List D), ascB lim least ds = true → ascB lim least (ds.take n) = true
  | 0, _, _, _ => by simp [ascB]
  | n + 1, least, [], h => by simpa using h
  | n + 1, least, d :: ds, h => by
    rw [List.take_succ_cons]
    unfold ascB at h ⊢
    rw [Bool.and_eq_true] at h ⊢
    refine ⟨h.1, ?_⟩
    cases d with
    | int i => exact ascB_take lim n (i + 1) ds h.2
    | _ => exact h.2
theorem kind_bits {n l : Int} (hl : 1 ≤ l ∧ l ≤ 3) (h1 : 1 ≤ n) (h2 : n ≤ (if l = 1 then 1 else if l = 2 then 3 else 7)) : kindB l (tupI (bitsOf n l.toNat)) = true := by
  have hl' : l = 1 ∨ l = 2 ∨ l = 3 := by omega
  rcases hl' with rfl | rfl | rfl
  · have : n = 1 := by simp at h2; omega
    subst this; decide
  · have : n = 1 ∨ n = 2 ∨ n = 3 := by simp at h2; omega
    rcases this with rfl | rfl | rfl <;> decide
  · have : n = 1 ∨ n = 2 ∨ n = 3 ∨ n = 4 ∨ n = 5 ∨ n = 6 ∨ n = 7 := by simp at h2; omega
    rcases this with rfl | rfl | rfl | rfl | rfl | rfl | rfl <;> decide
theorem cut_take {α : Type} (xs : List α) : cutD xs none (some 2) = xs.take 2 := by
  unfold cutD sIx
  simp only
  rw [if_neg (by decide)]
  simp [Nat.min_def]
  by_cases h : 2 ≤ xs.length
  · rw [if_pos h]; omega
  · rw [if_neg h]; omega
theorem rule_1 {p q n : Nat} {w l r : Int} {s k : Str} {e : Bool} {ks : List (List Int)} {v8 : Option D} {st : Store} {Q : D → Store → Prop} (hp : PoolOk st p q) (hn : st[n]? = some (.lst (ks.map tupI))) (hnp : n ≠ p)
    (hw : 1 ≤ w ∧ w ≤ 3) (hl : 1 ≤ l ∧ l ≤ 3) (Qq : ∀ ac st', Go p q st st' → ac.length ≤ 2 → ascB (w * l) 0 (ac.map D.int) = true → Q (ruleD w l r s k e ks ac) st') :
    Run (r__law_rule_1 [some (.rf p), some (.str s), some (.str k), some (.bl e), some (.int w), some (.int l), some (.int r), some (.rf n), v8, none]) st (fnQ Q) := by
  unfold r__law_rule_1
  simp [-Bool.exists_bool]
  refine sp_draw hp (by decide) (by decide) fun d st1 hd0 hd1 g1 => ?_
  refine ⟨mulOk_r (by omega), ?_⟩
  have hwl : 1 ≤ w * l ∧ w * l ≤ 9 := by
    have hw' : w = 1 ∨ w = 2 ∨ w = 3 := by omega
    rcases hw' with rfl | rfl | rfl <;> omega
  refine sp_bits hd0 (by omega) (by omega) ?_
  have e1 : cellItems st1 n = some (ks.map tupI) := by
    unfold cellItems
    rw [g1.keep n hnp (List.getElem?_eq_some_iff.mp hn).1, hn]
  simp [-Bool.exists_bool, cut_take, e1]
  refine ⟨by decide, ?_⟩
  rw [← List.map_take]
  refine Qq _ st1 g1 (by simp; omega) ?_
  rw [List.map_take]
  refine ascB_take _ _ _ _ (bits_asc _ _ _ ?_)
  omega
def invRule (p q n : Nat) (w l r : Int) (s k : Str) (e : Bool) (st1 : Store) (L : List D) (ρ : Env) (s' : Store) : Prop :=
  ∃ (ks : List (List Int)) (v8 : Option D), ρ = [some (.rf p), some (.str s), some (.str k), some (.bl e), some (.int w), some (.int l), some (.int r), some (.rf n), v8, none] ∧ PoolOk s' p q ∧ s'[n]? = some (.lst (ks.map tupI)) ∧
    st1.length ≤ s'.length ∧ (∀ m, m ≠ p → m ≠ n → m < st1.length → s'[m]? = st1[m]?) ∧ ks.length + L.length ≤ 3 ∧ ∀ x ∈ ks, kindB l (tupI x) = true
theorem rule_2 {p q n : Nat} {w l r : Int} {s k : Str} {e : Bool} {st : Store} {Q : D → Store → Prop} (hp : PoolOk st p q) (hn : st[n]? = some (.lst [])) (hnp : n ≠ p) (hnq : n ≠ q)
    (hw : 1 ≤ w ∧ w ≤ 3) (hl : 1 ≤ l ∧ l ≤ 3) (Qq : ∀ ks ac st', PoolOk st' p q → st.length ≤ st'.length → (∀ m, m ≠ p → m ≠ n → m < st.length → st'[m]? = st[m]?) → ks.length ≤ 3 → (∀ x ∈ ks, kindB l (tupI x) = true) → ac.length ≤ 2 → ascB (w * l) 0 (ac.map D.int) = true → Q (ruleD w l r s k e ks ac) st') :
    Run (r__law_rule_2 [some (.rf p), some (.str s), some (.str k), some (.bl e), some (.int w), some (.int l), some (.int r), some (.rf n), none, none]) st (fnQ Q) := by
  unfold r__law_rule_2
  simp [-Bool.exists_bool, run_gFor]
  refine sp_draw hp (by decide) (by decide) fun d st1 hd0 hd1 g1 => ?_
  refine ⟨d, rfl, by unfold smallI; simp; omega, ?_⟩
  have hn1 : st1[n]? = some (.lst []) := by rw [g1.keep n hnp (List.getElem?_eq_some_iff.mp hn).1, hn]
  refine run_loop (I := invRule p q n w l r s k e st1) (fun _ _ _ _ => trivial) ?_ ?_ _ _ _ ⟨[], none, rfl, g1.pool, hn1, Nat.le_refl _, fun _ _ _ _ => rfl, by simp [fromTo]; omega, by simp⟩
  · rintro x L ρ s' ⟨ks, v8, rfl, hp1, hk1, hle, hkeep, hlen, hval⟩
    have hl' : l = 1 ∨ l = 2 ∨ l = 3 := by omega
    have hat : atD [D.int 1, .int 3, .int 7] (l - 1) = some (.int (if l = 1 then 1 else if l = 2 then 3 else 7)) := by
      rcases hl' with rfl | rfl | rfl <;> rfl
    simp [-Bool.exists_bool]
    refine ⟨by decide, _, hat, ?_⟩
    refine sp_draw hp1 (by split <;> first | omega | (split <;> omega)) (by rcases hl' with rfl | rfl | rfl <;> decide) fun z st2 hz0 hz1 g2 => ?_
    refine sp_bits (by omega) (by omega) (by omega) ?_
    have hn2 : st2[n]? = some (.lst (ks.map tupI)) := by rw [g2.keep n hnp (List.getElem?_eq_some_iff.mp hk1).1, hk1]
    simp [-Bool.exists_bool, hn2]
    refine ⟨Nat.lt_of_lt_of_le (show ks.length < 4 by omega) (by decide), ?_⟩
    refine ⟨ks ++ [bitsOf (1 + z) l.toNat], _, rfl, g2.pool.other hnp hnq, ?_, ?_, ?_, ?_, ?_⟩
    · rw [List.getElem?_set_self (List.getElem?_eq_some_iff.mp hn2).1]
      simp [tupI]
    · simp; exact Nat.le_trans hle g2.le
    · intro m h1 h2 h3
      rw [List.getElem?_set_ne (Ne.symm h2), g2.keep m h1 (Nat.lt_of_lt_of_le h3 hle), hkeep m h1 h2 h3]
    · simp at hlen ⊢; omega
    · intro y hy
      rcases List.mem_append.mp hy with hy | hy
      · exact hval y hy
      · have : y = bitsOf (1 + z) l.toNat := by simpa using hy
        subst this
        exact kind_bits hl (by omega) (by omega)
  · rintro ρ s' ⟨ks, v8, rfl, hp1, hk1, hle, hkeep, hlen, hval⟩
    rw [fl_nx]
    refine rule_1 hp1 hk1 hnp hw hl fun ac st' g3 ha1 ha2 => Qq ks ac st' g3.pool (Nat.le_trans g1.le (Nat.le_trans hle g3.le)) (fun m h1 h2 h3 => ?_) (by simpa using hlen) hval ha1 ha2
    rw [g3.keep m h1 (Nat.lt_of_lt_of_le h3 (Nat.le_trans g1.le hle)), hkeep m h1 h2 (Nat.lt_of_lt_of_le h3 g1.le), g1.keep m h1 h3]
theorem sp_law_rule {p q : Nat} {st : Store} {Q : D → Store → Prop} (hp : PoolOk st p q) (Qq : ∀ w l r s k e ks ac st', Go p q st st' → VR w l r s k ks ac → Q (ruleD w l r s k e ks ac) st') : Run (g__law_rule [.rf p]) st Q := by
  unfold g__law_rule b__law_rule r__law_rule_9
  refine (run_gFn (by rfl)).mpr ?_
  simp [-Bool.exists_bool, startE]
  refine ⟨by decide, ?_⟩
  refine sp_draw hp (by decide) (by decide) fun d1 st1 hd0 hd1 g1 => ?_
  obtain ⟨x1, hx1, e1⟩ := atD_mem (xs := [D.str (Str.ofString "whole"), .str (Str.ofString "parts"), .str (Str.ofString "filled")]) hd0 hd1
  refine ⟨d1, rfl, x1, e1, ?_⟩
  have hs : ∃ s, x1 = .str s ∧ (s = Str.ofString "whole" ∨ s = Str.ofString "parts" ∨ s = Str.ofString "filled") := by
    simp at hx1
    rcases hx1 with rfl | rfl | rfl
    · exact ⟨_, rfl, .inl rfl⟩
    · exact ⟨_, rfl, .inr (.inl rfl)⟩
    · exact ⟨_, rfl, .inr (.inr rfl)⟩
  obtain ⟨s, rfl, hs⟩ := hs
  unfold r__law_rule_8
  simp [-Bool.exists_bool]
  refine ⟨by decide, ?_⟩
  refine sp_draw g1.pool (by decide) (by decide) fun d2 st2 hd20 hd21 g2 => ?_
  obtain ⟨x2, hx2, e2⟩ := atD_mem (xs := [D.str (Str.ofString "into"), .str (Str.ofString "past"), .str (Str.ofString "first")]) hd20 hd21
  refine ⟨d2, rfl, x2, e2, ?_⟩
  have hk : ∃ k, x2 = .str k ∧ (k = Str.ofString "into" ∨ k = Str.ofString "past" ∨ k = Str.ofString "first") := by
    simp at hx2
    rcases hx2 with rfl | rfl | rfl
    · exact ⟨_, rfl, .inl rfl⟩
    · exact ⟨_, rfl, .inr (.inl rfl)⟩
    · exact ⟨_, rfl, .inr (.inr rfl)⟩
  obtain ⟨k, rfl, hk⟩ := hk
  unfold r__law_rule_7
  simp [-Bool.exists_bool]
  refine sp_draw g2.pool (by decide) (by decide) fun d3 st3 _ _ g3 => ?_
  simp [-Bool.exists_bool, eqPy_int]
  unfold r__law_rule_6
  simp [-Bool.exists_bool]
  refine sp_draw g3.pool (by decide) (by decide) fun d4 st4 h40 h41 g4 => ?_
  unfold r__law_rule_5
  simp [-Bool.exists_bool]
  refine sp_draw g4.pool (by decide) (by decide) fun d5 st5 h50 h51 g5 => ?_
  unfold r__law_rule_4
  simp [-Bool.exists_bool]
  refine sp_draw g5.pool (by decide) (by decide) fun d6 st6 h60 h61 g6 => ?_
  unfold r__law_rule_3
  simp [-Bool.exists_bool]
  obtain ⟨hp6, hq6, _⟩ := g6.pool.lt
  have g16 := ((((g1.trans g2).trans g3).trans g4).trans g5).trans g6
  refine rule_2 g6.pool.more (by simp) (by omega) (by omega) (by omega) (by omega) fun ks ac st' hpo hle hkeep hk1 hk2 ha1 ha2 => ?_
  refine Qq _ _ _ _ _ _ _ _ st' ⟨?_, hpo, fun m h1 h2 => ?_⟩ ⟨by omega, by omega, by omega, hs, hk, ⟨hk1, hk2⟩, ha1, ha2⟩
  · exact Nat.le_trans g16.le (Nat.le_trans (by simp) hle)
  · have h3 : m < st6.length := Nat.lt_of_lt_of_le h2 g16.le
    rw [hkeep m h1 (by omega) (by simp; omega), List.getElem?_append_left h3, g16.keep m h1 h2]
end DL
namespace DL
open PySem
section
variable {st : Store}
@[simp] theorem has_non : Has st .non ↔ True := Iff.rfl
@[simp] theorem has_bl {b : Bool} : Has st (.bl b) ↔ True := Iff.rfl
@[simp] theorem has_int {i : Int} : Has st (.int i) ↔ True := Iff.rfl
@[simp] theorem has_str {x : Str} : Has st (.str x) ↔ True := Iff.rfl
@[simp] theorem has_tup {ds : List D} : Has st (.tup ds) ↔ True := Iff.rfl
@[simp] theorem has_rf' {n : Nat} : Has st (.rf n) ↔ n < st.length := has_rf
theorem has2_flat {d : D} (h : flat d = true) : Has2 st d := by
  cases d with
  | tup _ => cases h
  | rf _ => cases h
  | cl _ => cases h
  | _ => exact ⟨trivial, fun _ e => by cases e⟩
@[simp] theorem has2_non : Has2 st .non ↔ True := by simp [has2_flat (d := .non) rfl]
@[simp] theorem has2_bl {b : Bool} : Has2 st (.bl b) ↔ True := by simp [has2_flat (d := .bl b) rfl]
@[simp] theorem has2_int {i : Int} : Has2 st (.int i) ↔ True := by simp [has2_flat (d := .int i) rfl]
@[simp] theorem has2_str {x : Str} : Has2 st (.str x) ↔ True := by simp [has2_flat (d := .str x) rfl]
@[simp] theorem has2_tup {ds : List D} : Has2 st (.tup ds) ↔ ∀ x ∈ ds, Has st x := ⟨fun h => h.2 ds rfl, fun h => ⟨trivial, fun es e x hx => by cases e; exact h x hx⟩⟩
@[simp] theorem has2_rf {n : Nat} : Has2 st (.rf n) ↔ n < st.length := ⟨fun h => has_rf.mp h.1, fun h => ⟨has_rf.mpr h, fun _ e => nomatch e⟩⟩
def H3 (st : Store) (d : D) : Prop := Has2 st d ∧ ∀ es, d = .tup es → ∀ y ∈ es, Has2 st y
theorem h3_flat {d : D} (h : flat d = true) : H3 st d := by
  cases d with
  | tup _ => cases h
  | rf _ => cases h
  | cl _ => cases h
  | _ => exact ⟨has2_flat h, fun _ e => by cases e⟩
@[simp] theorem h3_non : H3 st .non ↔ True := by simp [h3_flat (d := .non) rfl]
@[simp] theorem h3_bl {b : Bool} : H3 st (.bl b) ↔ True := by simp [h3_flat (d := .bl b) rfl]
@[simp] theorem h3_int {i : Int} : H3 st (.int i) ↔ True := by simp [h3_flat (d := .int i) rfl]
@[simp] theorem h3_str {x : Str} : H3 st (.str x) ↔ True := by simp [h3_flat (d := .str x) rfl]
@[simp] theorem h3_tup {ds : List D} : H3 st (.tup ds) ↔ ∀ x ∈ ds, Has2 st x := ⟨fun h => h.2 ds rfl, fun h => ⟨has2_tup.mpr fun x hx => (h x hx).1, fun es e x hx => by cases e; exact h x hx⟩⟩
@[simp] theorem h3_rf {n : Nat} : H3 st (.rf n) ↔ n < st.length := ⟨fun h => has2_rf.mp h.1, fun h => ⟨has2_rf.mpr h, fun _ e => nomatch e⟩⟩
theorem wfR_tup {ds : List D} : WfR st (.tup ds) ↔ ∀ x ∈ ds, H3 st x := ⟨fun h x hx => h.2 ds rfl x hx, fun h => ⟨trivial, fun es e x hx => by cases e; exact h x hx⟩⟩
theorem has_le {st' : Store} (hl : st.length ≤ st'.length) {d : D} (h : Has st d) : Has st' d := by
  cases d with
  | rf n => rw [has_rf] at h ⊢; omega
  | cl _ => exact h
  | _ => trivial
theorem has2_le {st' : Store} (hl : st.length ≤ st'.length) {d : D} (h : Has2 st d) : Has2 st' d := ⟨has_le hl h.1, fun ds e x hx => has_le hl (h.2 ds e x hx)⟩
theorem h3_le {st' : Store} (hl : st.length ≤ st'.length) {d : D} (h : H3 st d) : H3 st' d := ⟨has2_le hl h.1, fun ds e x hx => has2_le hl (h.2 ds e x hx)⟩
end
/-- one of a list kept at n is drawn -/
theorem draw_ix {p q n : Nat} {ds : List D} {many : Int} {st : Store} {Q : D → Store → Prop} (hp : PoolOk st p q) (hn : st[n]? = some (.lst ds)) (hnp : n ≠ p) (hm : many = ds.length) (h0 : 0 < many) (h1 : many < 100)
    (Qq : ∀ x st', x ∈ ds → Go p q st st' → Q x st') : Run (g__law_draw [.rf p, .int many]) st fun y s => Run (vIx (.rf n) y) s Q := by
  refine sp_draw hp h0 (Nat.lt_trans (show many.natAbs < 100 by omega) (by decide)) fun k st1 hk0 hk1 g1 => ?_
  obtain ⟨x, hx, e⟩ := atD_mem (xs := ds) hk0 (by omega)
  have hn1 : cellItems st1 n = some ds := by
    unfold cellItems
    rw [g1.keep n hnp (List.getElem?_eq_some_iff.mp hn).1, hn]
  simp [-Bool.exists_bool, hn1, e]
  exact Qq x st1 hx g1
theorem sp_bad_number {p q : Nat} {st : Store} {Q : D → Store → Prop} (hp : PoolOk st p q) (Qq : ∀ x st', Go p q st st' → intIn 1 3 x = false → H3 st' x → Q x st') : Run (g__law_bad_number [.rf p]) st Q := by
  unfold g__law_bad_number b__law_bad_number r__law_bad_number_2
  refine (run_gFn (by rfl)).mpr ?_
  simp [-Bool.exists_bool, startE]
  refine sp_draw hp (by decide) (by decide) fun far st1 hf0 hf1 g1 => ?_
  unfold r__law_bad_number_1
  simp [-Bool.exists_bool]
  refine ⟨by decide, by decide, ?_⟩
  obtain ⟨hp1, hq1, _⟩ := g1.pool.lt
  refine draw_ix g1.pool.more (n := st1.length + 1) (by simp; rfl) (by omega) (by simp) (by decide) (by decide) fun x st2 hx g2 => ?_
  have hle := g2.le
  simp at hle
  refine Qq x st2 (g1.trans ((Go.more g1.pool).trans g2)) ?_ ?_
  · simp at hx
    rcases hx with rfl | rfl | rfl | rfl | rfl | rfl | rfl | rfl | rfl | rfl | rfl | rfl <;> simp [intIn] <;> omega
  · simp at hx
    rcases hx with rfl | rfl | rfl | rfl | rfl | rfl | rfl | rfl | rfl | rfl | rfl | rfl <;> simp <;> omega
theorem word_cases {word : Str} {W : List D} (hb : ([Str.ofString "", word ++ Str.ofString " ", Str.ofString " " ++ word, cutS word (some 1) none, Txt.upper word, word ++ Str.ofString "s", Str.ofString "path"].all fun z => !wordB W (.str z)) = true) :
    ∀ z, z ∈ [Str.ofString "", word ++ Str.ofString " ", Str.ofString " " ++ word, cutS word (some 1) none, Txt.upper word, word ++ Str.ofString "s", Str.ofString "path"] → wordB W (.str z) = false := fun z hz => by
  have := List.all_eq_true.mp hb z hz
  simpa using this
theorem sp_bad_word {p q : Nat} {st : Store} {word : Str} {W : List D} {Q : D → Store → Prop} (hp : PoolOk st p q) (hw : word.length ≤ 10)
    (hb : ([Str.ofString "", word ++ Str.ofString " ", Str.ofString " " ++ word, cutS word (some 1) none, Txt.upper word, word ++ Str.ofString "s", Str.ofString "path"].all fun z => !wordB W (.str z)) = true)
    (Qq : ∀ x st', Go p q st st' → wordB W x = false → H3 st' x → Q x st') : Run (g__law_bad_word [.rf p, .str word]) st Q := by
  have hb' := word_cases hb
  unfold g__law_bad_word b__law_bad_word r__law_bad_word_1
  refine (run_gFn (by rfl)).mpr ?_
  simp [-Bool.exists_bool, startE]
  have l1 : (Str.ofString " ").length = 1 := by decide +kernel
  have l2 : (Str.ofString "s").length = 1 := by decide +kernel
  have sz : SZ = 16777216 := rfl
  refine ⟨by omega, by omega, by omega, by omega, by omega, by decide, by decide, ?_⟩
  obtain ⟨hp1, hq1, _⟩ := hp.lt
  refine draw_ix hp.more (n := st.length + 1) (by simp; rfl) (by omega) (by simp) (by decide) (by decide) fun x st2 hx g2 => ?_
  have hle := g2.le
  simp at hle
  refine Qq x st2 ((Go.more hp).trans g2) ?_ ?_
  · simp only [List.mem_cons, List.not_mem_nil, or_false] at hx
    rcases hx with rfl | rfl | rfl | rfl | rfl | rfl | rfl | rfl | rfl | rfl | rfl | rfl <;> first | rfl | exact hb' _ (by simp)
  · simp only [List.mem_cons, List.not_mem_nil, or_false] at hx
    rcases hx with rfl | rfl | rfl | rfl | rfl | rfl | rfl | rfl | rfl | rfl | rfl | rfl <;> simp <;> omega
theorem sp_bad_kind {p q : Nat} {st : Store} {lines : Int} {Q : D → Store → Prop} (hp : PoolOk st p q) (hl : 1 ≤ lines ∧ lines ≤ 3) (Qq : ∀ x st', Go p q st st' → kindB lines x = false → Has2 st' x → Q x st') : Run (g__law_bad_kind [.rf p, .int lines]) st Q := by
  unfold g__law_bad_kind b__law_bad_kind r__law_bad_kind_1
  refine (run_gFn (by rfl)).mpr ?_
  simp [-Bool.exists_bool, startE, SZ]
  obtain ⟨hp1, hq1, _⟩ := hp.lt
  refine draw_ix hp.more (n := st.length + 1) (by simp; rfl) (by omega) (by simp) (by decide) (by decide) fun x st2 hx g2 => ?_
  have hle := g2.le
  simp at hle
  refine Qq x st2 ((Go.more hp).trans g2) ?_ ?_
  · simp only [List.mem_cons, List.not_mem_nil, or_false] at hx
    rcases hx with rfl | rfl | rfl | rfl | rfl | rfl | rfl | rfl | rfl | rfl | rfl | rfl | rfl | rfl <;> simp [kindB, lenB, numsB, ascB, intIn] <;> omega
  · simp only [List.mem_cons, List.not_mem_nil, or_false] at hx
    rcases hx with rfl | rfl | rfl | rfl | rfl | rfl | rfl | rfl | rfl | rfl | rfl | rfl | rfl | rfl <;> simp <;> omega
theorem sp_bad_acting {p q : Nat} {st : Store} {w l r : Int} {s k : Str} {e : Bool} {ks : List (List Int)} {ac : List Int} {Q : D → Store → Prop} (hp : PoolOk st p q) (hv : VR w l r s k ks ac) (Qq : ∀ x st', Go p q st st' → (lenB 0 2 x && actB (.int w) (.int l) x) = false → H3 st' x → Q x st') :
    Run (g__law_bad_acting [.rf p, ruleD w l r s k e ks ac]) st Q := by
  unfold g__law_bad_acting b__law_bad_acting
  have a0 : atD [D.int w, .int l, .int r, .str s, .bl e, .str k, .tup (ks.map tupI), tupI ac] 0 = some (.int w) := rfl
  have a1 : atD [D.int w, .int l, .int r, .str s, .bl e, .str k, .tup (ks.map tupI), tupI ac] 1 = some (.int l) := rfl
  have hw := hv.hw
  have hl := hv.hl
  have hwl : 1 ≤ w * l ∧ w * l ≤ 9 := by
    have hw' : w = 1 ∨ w = 2 ∨ w = 3 := by omega
    rcases hw' with rfl | rfl | rfl <;> omega
  unfold r__law_bad_acting_2 r__law_bad_acting_1
  refine (run_gFn (by rfl)).mpr ?_
  simp [-Bool.exists_bool, startE, SZ, ruleD, a0, a1, mulOk_r (show l.natAbs < 2 ^ 64 by omega)]
  obtain ⟨hp1, hq1, _⟩ := hp.lt
  refine draw_ix hp.more (n := st.length + 1) (by simp; rfl) (by omega) (by simp) (by decide) (by decide) fun x st2 hx g2 => ?_
  have hle := g2.le
  simp at hle
  refine Qq x st2 ((Go.more hp).trans g2) ?_ ?_
  · simp only [List.mem_cons, List.not_mem_nil, or_false] at hx
    rcases hx with rfl | rfl | rfl | rfl | rfl | rfl | rfl | rfl | rfl | rfl | rfl | rfl | rfl | rfl <;> simp [actB, lenB, numsB, ascB, intIn] <;> omega
  · simp only [List.mem_cons, List.not_mem_nil, or_false] at hx
    rcases hx with rfl | rfl | rfl | rfl | rfl | rfl | rfl | rfl | rfl | rfl | rfl | rfl | rfl | rfl <;> simp <;> omega
theorem cut_lo {α : Type} (xs : List α) {n : Int} (h : 0 ≤ n) : cutD xs none (some n) = xs.take n.toNat := by
  unfold cutD sIx
  simp only
  rw [if_neg (by omega), List.drop_zero, Nat.sub_zero]
  by_cases c : n.toNat ≤ xs.length
  · rw [Nat.min_eq_left c]
  · rw [Nat.min_eq_right (by omega), List.take_of_length_le (Nat.le_refl _), List.take_of_length_le (by omega)]
theorem cut_hi {α : Type} (xs : List α) {n : Int} (h : 0 ≤ n) : cutD xs (some n) none = xs.drop n.toNat := by
  unfold cutD sIx
  simp only
  rw [if_neg (by omega)]
  by_cases c : n.toNat ≤ xs.length
  · rw [Nat.min_eq_left c, List.take_of_length_le (by simp)]
  · rw [Nat.min_eq_right (by omega), List.drop_of_length_le (Nat.le_refl _), List.drop_of_length_le (by omega)]; simp
theorem has2_tupI {st : Store} (y : List Int) : Has2 st (tupI y) := by
  unfold tupI
  rw [has2_tup]
  intro x hx
  obtain ⟨i, _, rfl⟩ := List.mem_map.mp hx
  trivial
theorem h3_tupI {st : Store} (y : List Int) : H3 st (tupI y) := by
  unfold tupI
  rw [h3_tup]
  intro x hx
  obtain ⟨i, _, rfl⟩ := List.mem_map.mp hx
  exact has2_int.mpr trivial
theorem h3_kinds {st : Store} (ks : List (List Int)) : H3 st (.tup (ks.map tupI)) := by
  rw [h3_tup]
  intro x hx
  obtain ⟨y, _, rfl⟩ := List.mem_map.mp hx
  exact has2_tupI y
theorem sp_bad_kinds {p q : Nat} {st : Store} {w l r : Int} {s k : Str} {e : Bool} {ks : List (List Int)} {ac : List Int} {Q : D → Store → Prop} (hp : PoolOk st p q) (hv : VR w l r s k ks ac) (Qq : ∀ x st', Go p q st st' → (lenB 0 3 x && kindsB (.int l) x) = false → H3 st' x → Q x st') :
    Run (g__law_bad_kinds [.rf p, ruleD w l r s k e ks ac]) st Q := by
  unfold g__law_bad_kinds b__law_bad_kinds r__law_bad_kinds_5
  have a1 : atD [D.int w, .int l, .int r, .str s, .bl e, .str k, .tup (ks.map tupI), tupI ac] 1 = some (.int l) := rfl
  have a6 : atD [D.int w, .int l, .int r, .str s, .bl e, .str k, .tup (ks.map tupI), tupI ac] 6 = some (.tup (ks.map tupI)) := rfl
  have hl := hv.hl
  refine (run_gFn (by rfl)).mpr ?_
  simp [-Bool.exists_bool, startE, SZ, ruleD, a6]
  obtain ⟨hp1, hq1, _⟩ := hp.lt
  unfold r__law_bad_kinds_4
  simp [-Bool.exists_bool]
  refine sp_draw hp.more (by decide) (by decide) fun which st1 hw0 hw1 g1 => ?_
  unfold r__law_bad_kinds_3
  simp [-Bool.exists_bool]
  refine sp_draw g1.pool (by decide) (by decide) fun at_ st2 ha0 ha1 g2 => ?_
  unfold r__law_bad_kinds_2
  simp [-Bool.exists_bool, a1]
  refine sp_bad_kind g2.pool hl fun bad st3 g3 hb1 hb2 => ?_
  unfold r__law_bad_kinds_1
  simp [-Bool.exists_bool, eqPy_int]
  have g13 := (g1.trans g2).trans g3
  have hle := g13.le
  simp at hle
  by_cases c : which = 0
  · rw [if_pos c]
    have hn : st3[st.length + 2]? = some (.lst [.non, .rf st.length, .str (Str.ofString ""), .int 0, .tup [.tup [.int 0], .tup [.int 0], .tup [.int 0], .tup [.int 0]], .rf (st.length + 1), .bl false]) := by
      rw [g13.keep _ (by omega) (by simp)]; simp
    refine draw_ix g3.pool hn (by omega) (by simp) (by decide) (by decide) fun x st4 hx g4 => ?_
    have hle4 := g4.le
    refine Qq x st4 ((Go.more hp).trans (g13.trans g4)) ?_ ?_
    · simp only [List.mem_cons, List.not_mem_nil, or_false] at hx
      rcases hx with rfl | rfl | rfl | rfl | rfl | rfl | rfl <;> simp [kindsB, lenB]
    · simp only [List.mem_cons, List.not_mem_nil, or_false] at hx
      rcases hx with rfl | rfl | rfl | rfl | rfl | rfl | rfl <;> simp <;> omega
  · rw [if_neg c]
    simp [-Bool.exists_bool, a6, SZ, cut_lo _ ha0, cut_hi _ (show 0 ≤ at_ + 1 by omega)]
    have hkl := hv.hks.1
    refine ⟨by omega, by omega, ?_⟩
    refine Qq _ st3 ((Go.more hp).trans g13) ?_ ?_
    · simp [kindsB, hb1]
    · rw [h3_tup]
      intro x hx
      rcases List.mem_append.mp hx with hx | hx
      · rw [← List.map_take] at hx
        obtain ⟨y, _, rfl⟩ := List.mem_map.mp hx
        exact has2_tupI y
      · rcases List.mem_cons.mp hx with rfl | hx
        · exact hb2
        · rw [← List.map_drop] at hx
          obtain ⟨y, _, rfl⟩ := List.mem_map.mp hx
          exact has2_tupI y
theorem sp_spoilt {p q : Nat} {st : Store} {w l r : Int} {s k : Str} {e : Bool} {ks : List (List Int)} {ac : List Int} {Q : D → Store → Prop} (hp : PoolOk st p q) (hv : VR w l r s k ks ac) (Qq : ∀ x st', Go p q st st' → ruleB x = false → WfR st' x → (∀ ds, x = .tup ds → ds.length ≤ SZ) → Q x st') :
    Run (g__law_spoilt [.rf p, ruleD w l r s k e ks ac]) st Q := by
  unfold g__law_spoilt b__law_spoilt r__law_spoilt_2
  refine (run_gFn (by rfl)).mpr ?_
  simp [-Bool.exists_bool, startE]
  refine sp_draw hp (by decide) (by decide) fun f st1 hf0 hf1 g1 => ?_
  unfold r__law_spoilt_1
  have hf : f = 0 ∨ f = 1 ∨ f = 2 ∨ f = 3 ∨ f = 4 ∨ f = 5 ∨ f = 6 ∨ f = 7 := by omega
  have w1 : ∀ s' : Str, s' = Str.ofString "whole" ∨ s' = Str.ofString "parts" ∨ s' = Str.ofString "filled" → s'.length ≤ 10 ∧ ([Str.ofString "", s' ++ Str.ofString " ", Str.ofString " " ++ s', cutS s' (some 1) none, Txt.upper s', s' ++ Str.ofString "s", Str.ofString "path"].all fun z => !wordB SW (.str z)) = true := by
    rintro s' (rfl | rfl | rfl) <;> exact ⟨by decide +kernel, by decide +kernel⟩
  have w2 : ∀ s' : Str, s' = Str.ofString "into" ∨ s' = Str.ofString "past" ∨ s' = Str.ofString "first" → s'.length ≤ 10 ∧ ([Str.ofString "", s' ++ Str.ofString " ", Str.ofString " " ++ s', cutS s' (some 1) none, Txt.upper s', s' ++ Str.ofString "s", Str.ofString "path"].all fun z => !wordB LW (.str z)) = true := by
    rintro s' (rfl | rfl | rfl) <;> exact ⟨by decide +kernel, by decide +kernel⟩
  have a3 : atD [D.int w, .int l, .int r, .str s, .bl e, .str k, .tup (ks.map tupI), tupI ac] 3 = some (.str s) := rfl
  have a5 : atD [D.int w, .int l, .int r, .str s, .bl e, .str k, .tup (ks.map tupI), tupI ac] 5 = some (.str k) := rfl
  have key : ∀ (i : Nat) (x : D) (st2 : Store), i < 8 → Go p q st1 st2 → H3 st2 x → ruleB (.tup (([D.int w, .int l, .int r, .str s, .bl e, .str k, .tup (ks.map tupI), tupI ac].take i) ++ x :: ([D.int w, .int l, .int r, .str s, .bl e, .str k, .tup (ks.map tupI), tupI ac].drop (i + 1)))) = false →
      Run (gRet (gOp vAdd (gOp vAdd (gSl (gVar 1) oNone (oSome (gVar 2))) (gTup (gCons (gVar 3) gNil))) (gSl (gVar 1) (oSome (gOp vAdd (gVar 2) (gC (.int 1)))) oNone)) [some (.rf p), some (ruleD w l r s k e ks ac), some (.int (i : Int)), some x]) st2 (fnQ Q) := fun i x st2 hi g2 hx hb => by
    simp [-Bool.exists_bool, ruleD, SZ, cut_lo _ (show 0 ≤ (i : Int) by omega), cut_hi _ (show 0 ≤ (i : Int) + 1 by omega)]
    refine ⟨by omega, by omega, ?_⟩
    refine Qq _ st2 (g1.trans g2) hb ?_ (fun ds e => by cases e; simp [SZ]; omega)
    rw [wfR_tup]
    have all : ∀ y ∈ [D.int w, .int l, .int r, .str s, .bl e, .str k, .tup (ks.map tupI), tupI ac], H3 st2 y := by
      intro y hy
      simp only [List.mem_cons, List.not_mem_nil, or_false] at hy
      rcases hy with rfl | rfl | rfl | rfl | rfl | rfl | rfl | rfl <;> first | exact h3_kinds ks | exact h3_tupI ac | simp
    intro y hy
    rcases List.mem_append.mp hy with hy | hy
    · exact all y (List.mem_of_mem_take hy)
    · rcases List.mem_cons.mp hy with rfl | hy
      · exact hx
      · exact all y (List.mem_cons_of_mem _ (List.mem_of_mem_drop hy))
  rcases hf with rfl | rfl | rfl | rfl | rfl | rfl | rfl | rfl
  · simp [-Bool.exists_bool]
    refine sp_bad_number g1.pool fun x st2 g2 h1 h2 => ?_
    have z := key 0 x st2 (by decide) g2 h2 (by simp [ruleB, h1])
    simpa [-Bool.exists_bool] using z
  · simp [-Bool.exists_bool]
    refine sp_bad_number g1.pool fun x st2 g2 h1 h2 => ?_
    have z := key 1 x st2 (by decide) g2 h2 (by simp [ruleB, h1])
    simpa [-Bool.exists_bool] using z
  · simp [-Bool.exists_bool]
    refine sp_bad_number g1.pool fun x st2 g2 h1 h2 => ?_
    have z := key 2 x st2 (by decide) g2 h2 (by simp [ruleB, h1])
    simpa [-Bool.exists_bool] using z
  · simp [-Bool.exists_bool, eqPy_int, ruleD, a3]
    refine sp_bad_word g1.pool (w1 s hv.hs).1 (w1 s hv.hs).2 fun x st2 g2 h1 h2 => ?_
    have z := key 3 x st2 (by decide) g2 h2 (by simp [ruleB, h1])
    simpa [-Bool.exists_bool, ruleD] using z
  · simp [-Bool.exists_bool, eqPy_int]
    refine ⟨by decide, ?_⟩
    refine sp_draw g1.pool (by decide) (by decide) fun d st2 hd0 hd1 g2 => ?_
    obtain ⟨x, hx, ex⟩ := atD_mem (xs := [D.int 0, .int 1, .non, .str (Str.ofString "eager"), .str (Str.ofString "False"), .tup [], .int 2, .str (Str.ofString "free")]) hd0 hd1
    refine ⟨d, rfl, x, ex, ?_⟩
    have z := key 4 x st2 (by decide) g2 ?_ ?_
    · simpa [-Bool.exists_bool] using z
    · simp only [List.mem_cons, List.not_mem_nil, or_false] at hx
      rcases hx with rfl | rfl | rfl | rfl | rfl | rfl | rfl | rfl <;> simp
    · simp only [List.mem_cons, List.not_mem_nil, or_false] at hx
      rcases hx with rfl | rfl | rfl | rfl | rfl | rfl | rfl | rfl <;> simp [ruleB, isTy]
  · simp [-Bool.exists_bool, eqPy_int, ruleD, a5]
    refine sp_bad_word g1.pool (w2 k hv.hk).1 (w2 k hv.hk).2 fun x st2 g2 h1 h2 => ?_
    have z := key 5 x st2 (by decide) g2 h2 (by simp [ruleB, h1])
    simpa [-Bool.exists_bool, ruleD] using z
  · simp [-Bool.exists_bool, eqPy_int]
    refine sp_bad_kinds g1.pool hv fun x st2 g2 h1 h2 => ?_
    have z := key 6 x st2 (by decide) g2 h2 (by
      simp only [ruleB, List.take, List.drop, List.cons_append, List.nil_append]
      rw [Bool.and_eq_false_iff] at h1
      rcases h1 with h1 | h1 <;> simp [h1])
    simpa [-Bool.exists_bool] using z
  · simp [-Bool.exists_bool, eqPy_int]
    refine sp_bad_acting g1.pool hv fun x st2 g2 h1 h2 => ?_
    have z := key 7 x st2 (by decide) g2 h2 (by
      simp only [ruleB, List.take, List.drop, List.cons_append, List.nil_append]
      rw [Bool.and_eq_false_iff] at h1
      rcases h1 with h1 | h1 <;> simp [h1])
    simpa [-Bool.exists_bool] using z
end DL
namespace DL
open PySem
theorem is_rule_at {d : D} {b : Bool} {st : Store} {Q : D → Store → Prop} (hb : ruleB d = b) (h : WfR st d) (hl : ∀ ds, d = .tup ds → ds.length ≤ SZ) (q : Q (.bl b) st) : Run (g_is_rule [d]) st Q := sp_is_rule h hl (by rw [hb]; exact q)
theorem ruleB_true {w l r : Int} {s k : Str} {e : Bool} {ks : List (List Int)} {ac : List Int} (hv : VR w l r s k ks ac) : ruleB (ruleD w l r s k e ks ac) = true := by
  have hs : wordB SW (.str s) = true := by rcases hv.hs with rfl | rfl | rfl <;> decide +kernel
  have hk : wordB LW (.str k) = true := by rcases hv.hk with rfl | rfl | rfl <;> decide +kernel
  have h1 : lenB 0 3 (.tup (ks.map tupI)) = true := by simp [lenB]; have := hv.hks.1; omega
  have h2 : lenB 0 2 (tupI ac) = true := by simp [lenB, tupI]; have := hv.hac.1; omega
  have h3 : kindsB (.int l) (.tup (ks.map tupI)) = true := by
    simp only [kindsB, List.all_map, List.all_eq_true]
    exact hv.hks.2
  have h4 : actB (.int w) (.int l) (tupI ac) = true := hv.hac.2
  simp [ruleD, ruleB, hs, hk, h1, h2, h3, h4, intIn, hv.hw, hv.hl, hv.hr, isTy]
theorem wf_ruleD {w l r : Int} {s k : Str} {e : Bool} {ks : List (List Int)} {ac : List Int} {st : Store} : ∀ y ∈ [D.int w, .int l, .int r, .str s, .bl e, .str k, .tup (ks.map tupI), tupI ac], H3 st y := by
  intro y hy
  simp only [List.mem_cons, List.not_mem_nil, or_false] at hy
  rcases hy with rfl | rfl | rfl | rfl | rfl | rfl | rfl | rfl <;> first | exact h3_kinds ks | exact h3_tupI ac | simp
theorem wfR_le {st st' : Store} (hl : st.length ≤ st'.length) {d : D} (h : WfR st d) : WfR st' d := ⟨has_le hl h.1, fun ds e x hx => h3_le hl (h.2 ds e x hx)⟩
theorem wfR_flat {st : Store} {d : D} (h : flat d = true) : WfR st d := by
  cases d with
  | tup _ => cases h
  | rf _ => cases h
  | cl _ => cases h
  | _ => exact ⟨trivial, fun _ e => by cases e⟩
theorem wfR_rf {st : Store} {n : Nat} (h : n < st.length) : WfR st (.rf n) := ⟨has_rf.mpr h, fun _ e => by cases e⟩
theorem noLen {d : D} (h : ∀ ds, d ≠ .tup ds) : ∀ ds, d = .tup ds → ds.length ≤ SZ := fun ds e => absurd e (h ds)
theorem small_kinds {ks : List (List Int)} (h : ks.length ≤ 3) : ruleB (.tup (ks.map tupI)) = false := by
  match ks, h with
  | [], _ => rfl
  | [_], _ => rfl
  | [_, _], _ => rfl
  | [_, _, _], _ => rfl
def invBad (p q : Nat) (st1 : Store) (rule : D) (L : List D) (ρ : Env) (s' : Store) : Prop :=
  s' = st1 ∧ (∃ v0 v2 v4 v5, ρ = [v0, some (.rf p), v2, some rule, v4, v5]) ∧ ∀ d ∈ L, ruleB d = false ∧ WfR st1 d ∧ ∀ ds, d = .tup ds → ds.length ≤ SZ
def invTurn (p q : Nat) (L : List D) (ρ : Env) (s' : Store) : Prop := PoolOk s' p q ∧ ∃ v0 v2 v3 v4 v5, ρ = [v0, some (.rf p), v2, v3, v4, v5]
theorem law_true (ns : List Int) (hn : ns.length ≤ 63) : ∃ st', g_law [.cl (ns.map D.int)] [] = .ok (.bl true) st' := by
  have main : Run (g_law [.cl (ns.map D.int)]) [] fun d _ => d = .bl true := by
    unfold g_law b_law r_law_6
    refine (run_gFn (by rfl)).mpr ?_
    simp [-Bool.exists_bool, startE]
    refine sp_pool hn fun p q st hp _ _ => ?_
    unfold r_law_5
    simp [-Bool.exists_bool, run_gFor]
    refine ⟨rfl, ?_⟩
    refine run_loop (I := invTurn p q) (fun _ _ _ _ => trivial) ?_ ?_ _ _ _ ⟨hp, _, _, _, _, _, rfl⟩
    · rintro d L ρ s' ⟨hp, v0, v2, v3, v4, v5, rfl⟩
      unfold r_law_4
      simp [-Bool.exists_bool]
      refine sp_law_rule hp fun w l r s k e ks ac st1 g1 hv => ?_
      have rt := ruleB_true (e := e) hv
      have hlen : (ruleD w l r s k e ks ac : D) = .tup [D.int w, .int l, .int r, .str s, .bl e, .str k, .tup (ks.map tupI), tupI ac] := rfl
      have wfr : ∀ st, WfR st (ruleD w l r s k e ks ac) := fun st => wfR_tup.mpr wf_ruleD
      have lr : ∀ ds, ruleD w l r s k e ks ac = .tup ds → ds.length ≤ SZ := fun ds e => by cases e; simp [SZ]
      unfold r_law_3
      simp [-Bool.exists_bool]
      refine is_rule_at rt (wfr _) lr ?_
      simp [-Bool.exists_bool]
      unfold r_law_2
      simp [-Bool.exists_bool, run_gFor]
      refine sp_spoilt g1.pool hv fun x1 st2 g2 b1 f1 l1 => ?_
      refine sp_spoilt g2.pool hv fun x2 st3 g3 b2 f2 l2 => ?_
      rw [hlen]
      simp [-Bool.exists_bool, SZ, cut_lo]
      have hl2 := g2.le
      have hl3 := g3.le
      obtain ⟨hp3, hq3, _⟩ := g3.pool.lt
      have wf8 : ∀ (st : Store) (xs : List D), (∀ x ∈ xs, H3 st x) → WfR st (.tup ([D.int w, .int l, .int r, .str s, .bl e, .str k, .tup (ks.map tupI)] ++ xs)) := fun st xs hx => by
        rw [wfR_tup]
        intro y hy
        rcases List.mem_append.mp hy with hy | hy
        · exact wf_ruleD (w := w) (l := l) (r := r) (s := s) (k := k) (e := e) (ks := ks) (ac := ac) y (List.mem_append_left [tupI ac] hy)
        · exact hx y hy
      refine is_rule_at b1 (wfR_le (by simp; omega) f1) l1 ?_
      simp [-Bool.exists_bool]
      refine is_rule_at b2 (wfR_le (by simp) f2) l2 ?_
      simp [-Bool.exists_bool]
      refine is_rule_at (b := false) rfl (wfR_rf (by simp)) (noLen fun _ e => by cases e) ?_
      simp [-Bool.exists_bool]
      refine is_rule_at (b := false) rfl (wf8 _ [] (by simp)) (fun ds e => by cases e; simp [SZ]) ?_
      simp [-Bool.exists_bool]
      refine is_rule_at (b := false) rfl (wf8 _ [tupI ac, .int 0] (by intro y hy; simp only [List.mem_cons, List.not_mem_nil, or_false] at hy; rcases hy with rfl | rfl; exact h3_tupI ac; simp)) (fun ds e => by cases e; simp [SZ]) ?_
      simp [-Bool.exists_bool]
      refine is_rule_at (b := false) rfl (wf8 _ [tupI ac, .tup []] (by intro y hy; simp only [List.mem_cons, List.not_mem_nil, or_false] at hy; rcases hy with rfl | rfl; exact h3_tupI ac; simp)) (fun ds e => by cases e; simp [SZ]) ?_
      simp [-Bool.exists_bool]
      unfold r_law_1
      have a0 : atD [D.int w, .int l, .int r, .str s, .bl e, .str k, .tup (ks.map tupI), tupI ac] 0 = some (.int w) := rfl
      have a6 : atD [D.int w, .int l, .int r, .str s, .bl e, .str k, .tup (ks.map tupI), tupI ac] 6 = some (.tup (ks.map tupI)) := rfl
      simp [-Bool.exists_bool, a0, a6, SZ]
      refine draw_ix g3.pool.more (n := st3.length + 2) (by simp; rfl) (by omega) (by simp) (by decide) (by decide) fun x st4 hx g4 => ?_
      have hl4 := g4.le
      simp at hl4
      have fx : ruleB x = false ∧ WfR st4 x ∧ ∀ ds, x = .tup ds → ds.length ≤ SZ := by
        simp only [List.mem_cons, List.not_mem_nil, or_false] at hx
        rcases hx with rfl | rfl | rfl | rfl | rfl | rfl | rfl | rfl | rfl | rfl
        · exact ⟨rfl, wfR_flat rfl, noLen fun _ e => by cases e⟩
        · exact ⟨rfl, wfR_tup.mpr (by simp), fun ds e => by cases e; simp⟩
        · exact ⟨rfl, wfR_rf (by omega), noLen fun _ e => by cases e⟩
        · exact ⟨rfl, wfR_flat rfl, noLen fun _ e => by cases e⟩
        · exact ⟨rfl, wfR_flat rfl, noLen fun _ e => by cases e⟩
        · exact ⟨rfl, wfR_flat rfl, noLen fun _ e => by cases e⟩
        · exact ⟨rfl, wfR_flat rfl, noLen fun _ e => by cases e⟩
        · refine ⟨small_kinds hv.hks.1, wfR_tup.mpr fun y hy => ?_, fun ds e => by cases e; rw [List.length_map]; exact Nat.le_trans hv.hks.1 (by decide)⟩
          obtain ⟨z, _, rfl⟩ := List.mem_map.mp hy
          exact h3_tupI z
        · refine ⟨rfl, wfR_tup.mpr fun y hy => ?_, fun ds e => by cases e; simp [SZ]⟩
          have : y = .tup [D.int w, .int l, .int r, .str s, .bl e, .str k, .tup (ks.map tupI), tupI ac] := by simpa using hy
          subst this
          exact h3_tup.mpr fun z hz => (wf_ruleD z hz).1
        · exact ⟨rfl, wfR_flat rfl, noLen fun _ e => by cases e⟩
      refine is_rule_at fx.1 fx.2.1 fx.2.2 ?_
      simp [-Bool.exists_bool]
      have rt' := rt
      rw [hlen] at rt'
      refine is_rule_at rt' (by have := wfr st4; rw [hlen] at this; exact this) (by rw [← hlen]; exact lr) ?_
      simp [-Bool.exists_bool]
      exact ⟨g4.pool, _, _, _, _, _, rfl⟩
    · rintro ρ s' ⟨_, v0, v2, v3, v4, v5, rfl⟩
      simp
  obtain ⟨a, s, e, h⟩ := main.get
  exact ⟨s, by rw [e, h]⟩
end DL
namespace DL
open PySem L2
def topS (i : Nat) : Stmt := PySem.Challenge.pw_heldwrites_k02_rules.main.body.getD i (.Pass ⟨0, 0, 0, 0⟩)
abbrev s_is_integer : Stmt := topS 11
abbrev N_is_integer : List Str := ["thing"]
abbrev p_is_integer : List Str := ["thing"]
theorem sc_is_integer : FnScope N_is_integer p_is_integer (defScope s_is_integer) := ⟨rfl, rfl, rfl, by decide +kernel, rfl, by decide +kernel, by decide +kernel⟩
abbrev s_is_integer_within : Stmt := topS 12
abbrev N_is_integer_within : List Str := ["thing", "low", "high"]
abbrev p_is_integer_within : List Str := ["thing", "low", "high"]
theorem sc_is_integer_within : FnScope N_is_integer_within p_is_integer_within (defScope s_is_integer_within) := ⟨rfl, rfl, rfl, by decide +kernel, rfl, by decide +kernel, by decide +kernel⟩
abbrev s_is_word_of : Stmt := topS 13
abbrev N_is_word_of : List Str := ["thing", "words"]
abbrev p_is_word_of : List Str := ["thing", "words"]
theorem sc_is_word_of : FnScope N_is_word_of p_is_word_of (defScope s_is_word_of) := ⟨rfl, rfl, rfl, by decide +kernel, rfl, by decide +kernel, by decide +kernel⟩
abbrev s_are_numbers_below : Stmt := topS 14
abbrev N_are_numbers_below : List Str := ["thing", "limit", "least", "number"]
abbrev p_are_numbers_below : List Str := ["thing", "limit"]
theorem sc_are_numbers_below : FnScope N_are_numbers_below p_are_numbers_below (defScope s_are_numbers_below) := ⟨rfl, rfl, rfl, by decide +kernel, rfl, by decide +kernel, by decide +kernel⟩
abbrev s_is_tuple_of : Stmt := topS 15
abbrev N_is_tuple_of : List Str := ["thing", "fewest", "most"]
abbrev p_is_tuple_of : List Str := ["thing", "fewest", "most"]
theorem sc_is_tuple_of : FnScope N_is_tuple_of p_is_tuple_of (defScope s_is_tuple_of) := ⟨rfl, rfl, rfl, by decide +kernel, rfl, by decide +kernel, by decide +kernel⟩
abbrev s_places_of : Stmt := topS 16
abbrev N_places_of : List Str := ["rule"]
abbrev p_places_of : List Str := ["rule"]
theorem sc_places_of : FnScope N_places_of p_places_of (defScope s_places_of) := ⟨rfl, rfl, rfl, by decide +kernel, rfl, by decide +kernel, by decide +kernel⟩
abbrev s_is_kind : Stmt := topS 17
abbrev N_is_kind : List Str := ["thing", "lines"]
abbrev p_is_kind : List Str := ["thing", "lines"]
theorem sc_is_kind : FnScope N_is_kind p_is_kind (defScope s_is_kind) := ⟨rfl, rfl, rfl, by decide +kernel, rfl, by decide +kernel, by decide +kernel⟩
abbrev s_is_rule : Stmt := topS 18
abbrev N_is_rule : List Str := ["thing", "part", "kinds_fit", "kind"]
abbrev p_is_rule : List Str := ["thing"]
theorem sc_is_rule : FnScope N_is_rule p_is_rule (defScope s_is_rule) := ⟨rfl, rfl, rfl, by decide +kernel, rfl, by decide +kernel, by decide +kernel⟩
abbrev s__law_pool : Stmt := topS 20
abbrev N__law_pool : List Str := ["script", "cell"]
abbrev p__law_pool : List Str := ["script"]
theorem sc__law_pool : FnScope N__law_pool p__law_pool (defScope s__law_pool) := ⟨rfl, rfl, rfl, by decide +kernel, rfl, by decide +kernel, by decide +kernel⟩
abbrev s__law_draw : Stmt := topS 21
abbrev N__law_draw : List Str := ["pool", "many", "cell", "mixed", "drawn"]
abbrev p__law_draw : List Str := ["pool", "many"]
theorem sc__law_draw : FnScope N__law_draw p__law_draw (defScope s__law_draw) := ⟨rfl, rfl, rfl, by decide +kernel, rfl, by decide +kernel, by decide +kernel⟩
abbrev s__law_bits : Stmt := topS 22
abbrev N__law_bits : List Str := ["number", "many", "k"]
abbrev p__law_bits : List Str := ["number", "many"]
theorem sc__law_bits : FnScope N__law_bits p__law_bits (defScope s__law_bits) := ⟨rfl, rfl, rfl, by decide +kernel, rfl, by decide +kernel, by decide +kernel⟩
abbrev s__law_rule : Stmt := topS 23
abbrev N__law_rule : List Str := ["pool", "sends", "look", "eager", "width", "lines", "room", "kinds", "k", "acting"]
abbrev p__law_rule : List Str := ["pool"]
theorem sc__law_rule : FnScope N__law_rule p__law_rule (defScope s__law_rule) := ⟨rfl, rfl, rfl, by decide +kernel, rfl, by decide +kernel, by decide +kernel⟩
abbrev s__law_bad_number : Stmt := topS 24
abbrev N__law_bad_number : List Str := ["pool", "far", "some"]
abbrev p__law_bad_number : List Str := ["pool"]
theorem sc__law_bad_number : FnScope N__law_bad_number p__law_bad_number (defScope s__law_bad_number) := ⟨rfl, rfl, rfl, by decide +kernel, rfl, by decide +kernel, by decide +kernel⟩
abbrev s__law_bad_word : Stmt := topS 25
abbrev N__law_bad_word : List Str := ["pool", "word", "some"]
abbrev p__law_bad_word : List Str := ["pool", "word"]
theorem sc__law_bad_word : FnScope N__law_bad_word p__law_bad_word (defScope s__law_bad_word) := ⟨rfl, rfl, rfl, by decide +kernel, rfl, by decide +kernel, by decide +kernel⟩
abbrev s__law_bad_kind : Stmt := topS 26
abbrev N__law_bad_kind : List Str := ["pool", "lines", "some"]
abbrev p__law_bad_kind : List Str := ["pool", "lines"]
theorem sc__law_bad_kind : FnScope N__law_bad_kind p__law_bad_kind (defScope s__law_bad_kind) := ⟨rfl, rfl, rfl, by decide +kernel, rfl, by decide +kernel, by decide +kernel⟩
abbrev s__law_bad_kinds : Stmt := topS 27
abbrev N__law_bad_kinds : List Str := ["pool", "rule", "some", "which", "at", "bad"]
abbrev p__law_bad_kinds : List Str := ["pool", "rule"]
theorem sc__law_bad_kinds : FnScope N__law_bad_kinds p__law_bad_kinds (defScope s__law_bad_kinds) := ⟨rfl, rfl, rfl, by decide +kernel, rfl, by decide +kernel, by decide +kernel⟩
abbrev s__law_bad_acting : Stmt := topS 28
abbrev N__law_bad_acting : List Str := ["pool", "rule", "places", "some"]
abbrev p__law_bad_acting : List Str := ["pool", "rule"]
theorem sc__law_bad_acting : FnScope N__law_bad_acting p__law_bad_acting (defScope s__law_bad_acting) := ⟨rfl, rfl, rfl, by decide +kernel, rfl, by decide +kernel, by decide +kernel⟩
abbrev s__law_spoilt : Stmt := topS 29
abbrev N__law_spoilt : List Str := ["pool", "rule", "field", "bad"]
abbrev p__law_spoilt : List Str := ["pool", "rule"]
theorem sc__law_spoilt : FnScope N__law_spoilt p__law_spoilt (defScope s__law_spoilt) := ⟨rfl, rfl, rfl, by decide +kernel, rfl, by decide +kernel, by decide +kernel⟩
abbrev s_law : Stmt := topS 30
abbrev N_law : List Str := ["script", "pool", "turn", "rule", "bad", "some"]
abbrev p_law : List Str := ["script"]
theorem sc_law : FnScope N_law p_law (defScope s_law) := ⟨rfl, rfl, rfl, by decide +kernel, rfl, by decide +kernel, by decide +kernel⟩
structure Top (K : PySem.W.Frag) (mg : Str → Option Value) : Prop where
  z_abs : mg "abs" = none
  z_all : mg "all" = none
  z_bool : mg "bool" = none
  z_int : mg "int" = none
  z_isinstance : mg "isinstance" = none
  z_len : mg "len" = none
  z_list : mg "list" = none
  z_range : mg "range" = none
  z_str : mg "str" = none
  z_tuple : mg "tuple" = none
  k_ACTING : ∃ t, mg "ACTING" = some (.int 7 t)
  k_EAGER : ∃ t, mg "EAGER" = some (.int 4 t)
  k_KINDS : ∃ t, mg "KINDS" = some (.int 6 t)
  k_LINES : ∃ t, mg "LINES" = some (.int 1 t)
  k_LOOK : ∃ t, mg "LOOK" = some (.int 5 t)
  k_LOOK_WORDS : ∃ a, mg "LOOK_WORDS" = some (.ref a) ∧ ∀ H, SqT K H a [.str (Str.ofString "into"), .str (Str.ofString "past"), .str (Str.ofString "first")]
  k_ROOM : ∃ t, mg "ROOM" = some (.int 2 t)
  k_SENDS : ∃ t, mg "SENDS" = some (.int 3 t)
  k_SENDS_WORDS : ∃ a, mg "SENDS_WORDS" = some (.ref a) ∧ ∀ H, SqT K H a [.str (Str.ofString "whole"), .str (Str.ofString "parts"), .str (Str.ofString "filled")]
  k_WIDTH : ∃ t, mg "WIDTH" = some (.int 0 t)
  d_is_integer : ∃ f fd, Fun K "is_integer" "is_integer" s_is_integer f fd ∧ mg "is_integer" = some (.ref f) ∧ Binds K fd p_is_integer []
  d_is_integer_within : ∃ f fd, Fun K "is_integer_within" "is_integer_within" s_is_integer_within f fd ∧ mg "is_integer_within" = some (.ref f) ∧ Binds K fd p_is_integer_within []
  d_is_word_of : ∃ f fd, Fun K "is_word_of" "is_word_of" s_is_word_of f fd ∧ mg "is_word_of" = some (.ref f) ∧ Binds K fd p_is_word_of []
  d_are_numbers_below : ∃ f fd, Fun K "are_numbers_below" "are_numbers_below" s_are_numbers_below f fd ∧ mg "are_numbers_below" = some (.ref f) ∧ Binds K fd p_are_numbers_below []
  d_is_tuple_of : ∃ f fd, Fun K "is_tuple_of" "is_tuple_of" s_is_tuple_of f fd ∧ mg "is_tuple_of" = some (.ref f) ∧ Binds K fd p_is_tuple_of []
  d_places_of : ∃ f fd, Fun K "places_of" "places_of" s_places_of f fd ∧ mg "places_of" = some (.ref f) ∧ Binds K fd p_places_of []
  d_is_kind : ∃ f fd, Fun K "is_kind" "is_kind" s_is_kind f fd ∧ mg "is_kind" = some (.ref f) ∧ Binds K fd p_is_kind []
  d_is_rule : ∃ f fd, Fun K "is_rule" "is_rule" s_is_rule f fd ∧ mg "is_rule" = some (.ref f) ∧ Binds K fd p_is_rule []
  d__law_pool : ∃ f fd, Fun K "_law_pool" "_law_pool" s__law_pool f fd ∧ mg "_law_pool" = some (.ref f) ∧ Binds K fd p__law_pool []
  d__law_draw : ∃ f fd, Fun K "_law_draw" "_law_draw" s__law_draw f fd ∧ mg "_law_draw" = some (.ref f) ∧ Binds K fd p__law_draw []
  d__law_bits : ∃ f fd, Fun K "_law_bits" "_law_bits" s__law_bits f fd ∧ mg "_law_bits" = some (.ref f) ∧ Binds K fd p__law_bits []
  d__law_rule : ∃ f fd, Fun K "_law_rule" "_law_rule" s__law_rule f fd ∧ mg "_law_rule" = some (.ref f) ∧ Binds K fd p__law_rule []
  d__law_bad_number : ∃ f fd, Fun K "_law_bad_number" "_law_bad_number" s__law_bad_number f fd ∧ mg "_law_bad_number" = some (.ref f) ∧ Binds K fd p__law_bad_number []
  d__law_bad_word : ∃ f fd, Fun K "_law_bad_word" "_law_bad_word" s__law_bad_word f fd ∧ mg "_law_bad_word" = some (.ref f) ∧ Binds K fd p__law_bad_word []
  d__law_bad_kind : ∃ f fd, Fun K "_law_bad_kind" "_law_bad_kind" s__law_bad_kind f fd ∧ mg "_law_bad_kind" = some (.ref f) ∧ Binds K fd p__law_bad_kind []
  d__law_bad_kinds : ∃ f fd, Fun K "_law_bad_kinds" "_law_bad_kinds" s__law_bad_kinds f fd ∧ mg "_law_bad_kinds" = some (.ref f) ∧ Binds K fd p__law_bad_kinds []
  d__law_bad_acting : ∃ f fd, Fun K "_law_bad_acting" "_law_bad_acting" s__law_bad_acting f fd ∧ mg "_law_bad_acting" = some (.ref f) ∧ Binds K fd p__law_bad_acting []
  d__law_spoilt : ∃ f fd, Fun K "_law_spoilt" "_law_spoilt" s__law_spoilt f fd ∧ mg "_law_spoilt" = some (.ref f) ∧ Binds K fd p__law_spoilt []
  d_law : ∃ f fd, Fun K "law" "law" s_law f fd ∧ mg "law" = some (.ref f) ∧ Binds K fd p_law []
section
variable {P : Program} {w : World} {K : PySem.W.Frag} {mg : Str → Option Value} {base : Heap}
theorem f_is_integer (T : Top K mg) {f : Addr} {fd : FuncData} (F : Fun K "is_integer" "is_integer" s_is_integer f fd) : FnOk P w K mg base CX0 1 f fd p_is_integer (spD K 1 g_is_integer) := by
  refine fn_mk (b := b_is_integer) (N := N_is_integer) (ps := p_is_integer) F sc_is_integer fun cdv A outer s H E hr => ?_
  exact (ss_one (s_ret (d_and (d_isi .int rfl T.z_isinstance T.z_int (d_var 0)) (d_one (d_not (d_isi .bool rfl T.z_isinstance T.z_bool (d_var 0)))))))
theorem c_is_integer (T : Top K mg) : Cal P w K mg base 1 "is_integer" 1 g_is_integer := by
  obtain ⟨f, fd, F, hm, hb⟩ := T.d_is_integer
  exact cal_mk (f_is_integer T F) hm F.kp hb
theorem f_is_integer_within (T : Top K mg) {f : Addr} {fd : FuncData} (F : Fun K "is_integer_within" "is_integer_within" s_is_integer_within f fd) : FnOk P w K mg base CX0 2 f fd p_is_integer_within (spD K 3 g_is_integer_within) := by
  refine fn_mk (b := b_is_integer_within) (N := N_is_integer_within) (ps := p_is_integer_within) F sc_is_integer_within fun cdv A outer s H E hr => ?_
  exact (ss_one (s_ret (d_and (d_call (c_is_integer T) (hr.mono (by decide)) (da_cons (d_var 0) da_nil)) (d_one (d_chain op_le s_le op_le s_le (d_var 1) (d_var 0) (d_var 2))))))
theorem c_is_integer_within (T : Top K mg) : Cal P w K mg base 2 "is_integer_within" 3 g_is_integer_within := by
  obtain ⟨f, fd, F, hm, hb⟩ := T.d_is_integer_within
  exact cal_mk (f_is_integer_within T F) hm F.kp hb
theorem f_is_word_of (T : Top K mg) {f : Addr} {fd : FuncData} (F : Fun K "is_word_of" "is_word_of" s_is_word_of f fd) : FnOk P w K mg base CX0 1 f fd p_is_word_of (spD K 2 g_is_word_of) := by
  refine fn_mk (b := b_is_word_of) (N := N_is_word_of) (ps := p_is_word_of) F sc_is_word_of fun cdv A outer s H E hr => ?_
  exact (ss_one (s_ret (d_and (d_isi .str rfl T.z_isinstance T.z_str (d_var 0)) (d_one (d_cmp (op_inA (u65 hr)) s_in (d_var 0) (d_var 1))))))
theorem c_is_word_of (T : Top K mg) : Cal P w K mg base 1 "is_word_of" 2 g_is_word_of := by
  obtain ⟨f, fd, F, hm, hb⟩ := T.d_is_word_of
  exact cal_mk (f_is_word_of T F) hm F.kp hb
theorem f_are_numbers_below (T : Top K mg) {f : Addr} {fd : FuncData} (F : Fun K "are_numbers_below" "are_numbers_below" s_are_numbers_below f fd) : FnOk P w K mg base CX0 3 f fd p_are_numbers_below (spD K 2 g_are_numbers_below) := by
  refine fn_mk (b := b_are_numbers_below) (N := N_are_numbers_below) (ps := p_are_numbers_below) F sc_are_numbers_below fun cdv A outer s H E hr => ?_
  exact (ss_cons (s_if (t_not (t_tru (d_isi .tuple rfl T.z_isinstance T.z_tuple (d_var 0)))) (ss_one (s_ret d_bl)) ss_nil)
      (ss_cons (s_asg d_int (dg_name 2 sc_are_numbers_below.nd))
      (ss_cons (s_for (di_seq (d_var 0)) (dg_name 3 sc_are_numbers_below.nd) (ss_cons (s_if (t_not (t_tru (d_call (c_is_integer_within T) (hr.mono (by decide)) (da_cons (d_var 3) (da_cons (d_var 2) (da_cons (d_op op_sub s_sub (d_var 1) d_int) da_nil)))))) (ss_one (s_ret d_bl)) ss_nil)
      (ss_one (s_asg (d_op op_addA s_add (d_var 3) d_int) (dg_name 2 sc_are_numbers_below.nd)))))
      (ss_one (s_ret d_bl)))))
theorem c_are_numbers_below (T : Top K mg) : Cal P w K mg base 3 "are_numbers_below" 2 g_are_numbers_below := by
  obtain ⟨f, fd, F, hm, hb⟩ := T.d_are_numbers_below
  exact cal_mk (f_are_numbers_below T F) hm F.kp hb
theorem f_is_tuple_of (T : Top K mg) {f : Addr} {fd : FuncData} (F : Fun K "is_tuple_of" "is_tuple_of" s_is_tuple_of f fd) : FnOk P w K mg base CX0 1 f fd p_is_tuple_of (spD K 3 g_is_tuple_of) := by
  refine fn_mk (b := b_is_tuple_of) (N := N_is_tuple_of) (ps := p_is_tuple_of) F sc_is_tuple_of fun cdv A outer s H E hr => ?_
  exact (ss_one (s_ret (d_and (d_isi .tuple rfl T.z_isinstance T.z_tuple (d_var 0)) (d_one (d_chain op_le s_le op_le s_le (d_var 1) (d_call1 call_len s_len T.z_len (d_var 0)) (d_var 2))))))
theorem c_is_tuple_of (T : Top K mg) : Cal P w K mg base 1 "is_tuple_of" 3 g_is_tuple_of := by
  obtain ⟨f, fd, F, hm, hb⟩ := T.d_is_tuple_of
  exact cal_mk (f_is_tuple_of T F) hm F.kp hb
theorem f_places_of (T : Top K mg) {f : Addr} {fd : FuncData} (F : Fun K "places_of" "places_of" s_places_of f fd) : FnOk P w K mg base CX0 1 f fd p_places_of (spD K 1 g_places_of) := by
  obtain ⟨t_LINES, m_LINES⟩ := T.k_LINES
  obtain ⟨t_WIDTH, m_WIDTH⟩ := T.k_WIDTH
  refine fn_mk (b := b_places_of) (N := N_places_of) (ps := p_places_of) F sc_places_of fun cdv A outer s H E hr => ?_
  exact (ss_one (s_ret (d_op op_mulA s_mul (d_ix (d_var 0) (d_glob (v := .int 0) m_WIDTH ⟨_, rfl⟩ (fun _ _ => (.int _)))) (d_ix (d_var 0) (d_glob (v := .int 1) m_LINES ⟨_, rfl⟩ (fun _ _ => (.int _)))))))
theorem c_places_of (T : Top K mg) : Cal P w K mg base 1 "places_of" 1 g_places_of := by
  obtain ⟨f, fd, F, hm, hb⟩ := T.d_places_of
  exact cal_mk (f_places_of T F) hm F.kp hb
theorem f_is_kind (T : Top K mg) {f : Addr} {fd : FuncData} (F : Fun K "is_kind" "is_kind" s_is_kind f fd) : FnOk P w K mg base CX0 4 f fd p_is_kind (spD K 2 g_is_kind) := by
  refine fn_mk (b := b_is_kind) (N := N_is_kind) (ps := p_is_kind) F sc_is_kind fun cdv A outer s H E hr => ?_
  exact (ss_one (s_ret (d_and (d_call (c_is_tuple_of T) (hr.mono (by decide)) (da_cons (d_var 0) (da_cons d_int (da_cons (d_var 1) da_nil)))) (d_one (d_call (c_are_numbers_below T) (hr.mono (by decide)) (da_cons (d_var 0) (da_cons (d_var 1) da_nil)))))))
theorem c_is_kind (T : Top K mg) : Cal P w K mg base 4 "is_kind" 2 g_is_kind := by
  obtain ⟨f, fd, F, hm, hb⟩ := T.d_is_kind
  exact cal_mk (f_is_kind T F) hm F.kp hb
theorem f_is_rule (T : Top K mg) {f : Addr} {fd : FuncData} (F : Fun K "is_rule" "is_rule" s_is_rule f fd) : FnOk P w K mg base CX0 5 f fd p_is_rule (spD K 1 g_is_rule) := by
  obtain ⟨t_ACTING, m_ACTING⟩ := T.k_ACTING
  obtain ⟨t_EAGER, m_EAGER⟩ := T.k_EAGER
  obtain ⟨t_KINDS, m_KINDS⟩ := T.k_KINDS
  obtain ⟨t_LINES, m_LINES⟩ := T.k_LINES
  obtain ⟨t_LOOK, m_LOOK⟩ := T.k_LOOK
  obtain ⟨a_LOOK_WORDS, m_LOOK_WORDS, q_LOOK_WORDS⟩ := T.k_LOOK_WORDS
  obtain ⟨t_ROOM, m_ROOM⟩ := T.k_ROOM
  obtain ⟨t_SENDS, m_SENDS⟩ := T.k_SENDS
  obtain ⟨a_SENDS_WORDS, m_SENDS_WORDS, q_SENDS_WORDS⟩ := T.k_SENDS_WORDS
  obtain ⟨t_WIDTH, m_WIDTH⟩ := T.k_WIDTH
  refine fn_mk (b := b_is_rule) (N := N_is_rule) (ps := p_is_rule) F sc_is_rule fun cdv A outer s H E hr => ?_
  exact (ss_cons (s_if (t_not (t_tru (d_call (c_is_tuple_of T) (hr.mono (by decide)) (da_cons (d_var 0) (da_cons d_int (da_cons d_int da_nil)))))) (ss_one (s_ret d_bl)) ss_nil)
      (ss_cons (s_for (di_seq (d_tup (da_cons (d_glob (v := .int 0) m_WIDTH ⟨_, rfl⟩ (fun _ _ => (.int _))) (da_cons (d_glob (v := .int 1) m_LINES ⟨_, rfl⟩ (fun _ _ => (.int _))) (da_cons (d_glob (v := .int 2) m_ROOM ⟨_, rfl⟩ (fun _ _ => (.int _))) da_nil))))) (dg_name 1 sc_is_rule.nd) (ss_one (s_if (t_not (t_tru (d_call (c_is_integer_within T) (hr.mono (by decide)) (da_cons (d_ix (d_var 0) (d_var 1)) (da_cons d_int (da_cons d_int da_nil)))))) (ss_one (s_ret d_bl)) ss_nil)))
      (ss_cons (s_if (t_w (t_or (t_not (t_tru (d_call (c_is_word_of T) (hr.mono (by decide)) (da_cons (d_ix (d_var 0) (d_glob (v := .int 3) m_SENDS ⟨_, rfl⟩ (fun _ _ => (.int _)))) (da_cons (d_glob (v := .ref a_SENDS_WORDS) m_SENDS_WORDS rfl (fun _ H => .tup (q_SENDS_WORDS H) (.cons (.str _) (.cons (.str _) (.cons (.str _) .nil))))) da_nil))))) (t_or1 (t_not (t_tru (d_call (c_is_word_of T) (hr.mono (by decide)) (da_cons (d_ix (d_var 0) (d_glob (v := .int 5) m_LOOK ⟨_, rfl⟩ (fun _ _ => (.int _)))) (da_cons (d_glob (v := .ref a_LOOK_WORDS) m_LOOK_WORDS rfl (fun _ H => .tup (q_LOOK_WORDS H) (.cons (.str _) (.cons (.str _) (.cons (.str _) .nil))))) da_nil)))))))) (ss_one (s_ret d_bl)) ss_nil)
      (ss_cons (s_if (t_not (t_tru (d_isi .bool rfl T.z_isinstance T.z_bool (d_ix (d_var 0) (d_glob (v := .int 4) m_EAGER ⟨_, rfl⟩ (fun _ _ => (.int _))))))) (ss_one (s_ret d_bl)) ss_nil)
      (ss_cons (s_if (t_w (t_or (t_not (t_tru (d_call (c_is_tuple_of T) (hr.mono (by decide)) (da_cons (d_ix (d_var 0) (d_glob (v := .int 6) m_KINDS ⟨_, rfl⟩ (fun _ _ => (.int _)))) (da_cons d_int (da_cons d_int da_nil)))))) (t_or1 (t_not (t_tru (d_call (c_is_tuple_of T) (hr.mono (by decide)) (da_cons (d_ix (d_var 0) (d_glob (v := .int 7) m_ACTING ⟨_, rfl⟩ (fun _ _ => (.int _)))) (da_cons d_int (da_cons d_int da_nil))))))))) (ss_one (s_ret d_bl)) ss_nil)
      (ss_cons (s_asg (d_all rfl T.z_all (dl_comp (own := [("kind", 3)]) (di_seq (d_ix (d_var 0) (d_glob (v := .int 6) m_KINDS ⟨_, rfl⟩ (fun _ _ => (.int _))))) sc_is_rule.nd (blkOk_by (N := N_is_rule) (sc := defScope s_is_rule) (by decide +kernel)) (fun _ _ _ _ _ => (dg_name 3 sc_is_rule.nd)) (fun _ _ _ _ _ => ts_nil) (fun _ _ _ _ _ => (d_call (c_is_kind T) (hr.mono (by decide)) (da_cons (d_var 3) (da_cons (d_ix (d_var 0) (d_glob (v := .int 1) m_LINES ⟨_, rfl⟩ (fun _ _ => (.int _)))) da_nil)))) (by decide))) (dg_name 2 sc_is_rule.nd))
      (ss_one (s_ret (d_and (d_var 2) (d_one (d_call (c_are_numbers_below T) (hr.mono (by decide)) (da_cons (d_ix (d_var 0) (d_glob (v := .int 7) m_ACTING ⟨_, rfl⟩ (fun _ _ => (.int _)))) (da_cons (d_call (c_places_of T) (hr.mono (by decide)) (da_cons (d_var 0) da_nil)) da_nil)))))))))))))
theorem c_is_rule (T : Top K mg) : Cal P w K mg base 5 "is_rule" 1 g_is_rule := by
  obtain ⟨f, fd, F, hm, hb⟩ := T.d_is_rule
  exact cal_mk (f_is_rule T F) hm F.kp hb
theorem f__law_pool (T : Top K mg) {f : Addr} {fd : FuncData} (F : Fun K "_law_pool" "_law_pool" s__law_pool f fd) : FnOk P w K mg base CX0 1 f fd p__law_pool (spD K 1 g__law_pool) := by
  refine fn_mk (b := b__law_pool) (N := N__law_pool) (ps := p__law_pool) F sc__law_pool fun cdv A outer s H E hr => ?_
  exact (ss_one (s_ret (d_new (dl_lst (da_cons d_int (da_cons d_int (da_cons d_int (da_cons (d_new (dl_comp (own := [("cell", 1)]) (di_seq (d_var 0)) sc__law_pool.nd (blkOk_by (N := N__law_pool) (sc := defScope s__law_pool) (by decide +kernel)) (fun _ _ _ _ _ => (dg_name 1 sc__law_pool.nd)) (fun _ _ _ _ _ => ts_nil) (fun _ _ _ _ _ => (d_call1 call_abs s_abs T.z_abs (d_var 1))) (by decide))) da_nil))))))))
theorem c__law_pool (T : Top K mg) : Cal P w K mg base 1 "_law_pool" 1 g__law_pool := by
  obtain ⟨f, fd, F, hm, hb⟩ := T.d__law_pool
  exact cal_mk (f__law_pool T F) hm F.kp hb
theorem f__law_draw (T : Top K mg) {f : Addr} {fd : FuncData} (F : Fun K "_law_draw" "_law_draw" s__law_draw f fd) : FnOk P w K mg base CX0 1 f fd p__law_draw (spD K 2 g__law_draw) := by
  refine fn_mk (b := b__law_draw) (N := N__law_draw) (ps := p__law_draw) F sc__law_draw fun cdv A outer s H E hr => ?_
  exact (ss_cons (s_if (d_tcmp (op_eqD hr.units) s_eq (d_ix (d_var 0) d_int) d_int) (ss_cons (s_asg d_int (dg_name 2 sc__law_draw.nd))
      (ss_cons (s_if (d_tcmp op_lt s_lt (d_ix (d_var 0) d_int) (d_call1 call_len s_len T.z_len (d_ix (d_var 0) d_int))) (ss_one (s_asg (d_ix (d_ix (d_var 0) d_int) (d_ix (d_var 0) d_int)) (dg_name 2 sc__law_draw.nd))) ss_nil)
      (ss_cons (s_set (d_op op_addA s_add (d_ix (d_var 0) d_int) d_int) (d_var 0) d_int)
      (ss_cons (s_set (d_op op_sub s_sub (d_var 2) d_int) (d_var 0) d_int)
      (ss_one (s_if (d_tcmp op_lt s_lt (d_ix (d_var 0) d_int) d_int) (ss_cons (s_asg (d_op op_addA s_add (d_op op_mulA s_mul (d_ix (d_var 0) d_int) d_int) (d_op op_mulA s_mul (d_var 2) d_int)) (dg_name 3 sc__law_draw.nd))
      (ss_cons (s_asg (d_op op_mod s_mod (d_callT1 call_int1 s_int T.z_int (d_op op_addA s_add (d_var 3) (d_ix (d_var 0) d_int))) d_int) (dg_name 3 sc__law_draw.nd))
      (ss_cons (s_asg (d_op op_mod s_mod (d_callT1 call_int1 s_int T.z_int (d_op op_addA s_add (d_op op_mulA s_mul (d_var 3) (d_var 3)) d_int)) d_int) (dg_name 3 sc__law_draw.nd))
      (ss_cons (s_set (d_var 3) (d_var 0) d_int)
      (ss_one (s_set (d_var 3) (d_var 0) d_int)))))) ss_nil)))))) ss_nil)
      (ss_cons (s_asg (d_op op_mod s_mod (d_callT1 call_int1 s_int T.z_int (d_ix (d_var 0) d_int)) (d_var 1)) (dg_name 4 sc__law_draw.nd))
      (ss_cons (s_set (d_op op_fdivW s_div (d_ix (d_var 0) d_int) (d_var 1)) (d_var 0) d_int)
      (ss_one (s_ret (d_var 4))))))
theorem c__law_draw (T : Top K mg) : Cal P w K mg base 1 "_law_draw" 2 g__law_draw := by
  obtain ⟨f, fd, F, hm, hb⟩ := T.d__law_draw
  exact cal_mk (f__law_draw T F) hm F.kp hb
theorem f__law_bits (T : Top K mg) {f : Addr} {fd : FuncData} (F : Fun K "_law_bits" "_law_bits" s__law_bits f fd) : FnOk P w K mg base CX0 1 f fd p__law_bits (spD K 2 g__law_bits) := by
  refine fn_mk (b := b__law_bits) (N := N__law_bits) (ps := p__law_bits) F sc__law_bits fun cdv A outer s H E hr => ?_
  exact (ss_one (s_ret (d_tupOf rfl T.z_tuple (dl_comp (own := [("k", 2)]) (di_range rfl T.z_range (d_var 1)) sc__law_bits.nd (blkOk_by (N := N__law_bits) (sc := defScope s__law_bits) (by decide +kernel)) (fun _ _ _ _ _ => (dg_name 2 sc__law_bits.nd)) (fun _ _ _ _ _ => (ts_one (d_tcmp (op_eqD hr.units) s_eq (d_op op_mod s_mod (d_callT1 call_int1 s_int T.z_int (d_op op_shr s_shr (d_var 0) (d_var 2))) d_int) d_int))) (fun _ _ _ _ _ => (d_var 2)) (by decide)))))
theorem c__law_bits (T : Top K mg) : Cal P w K mg base 1 "_law_bits" 2 g__law_bits := by
  obtain ⟨f, fd, F, hm, hb⟩ := T.d__law_bits
  exact cal_mk (f__law_bits T F) hm F.kp hb
theorem f__law_rule (T : Top K mg) {f : Addr} {fd : FuncData} (F : Fun K "_law_rule" "_law_rule" s__law_rule f fd) : FnOk P w K mg base CX0 2 f fd p__law_rule (spD K 1 g__law_rule) := by
  refine fn_mk (b := b__law_rule) (N := N__law_rule) (ps := p__law_rule) F sc__law_rule fun cdv A outer s H E hr => ?_
  exact (ss_cons (s_asg (d_ixL (dl_lst (da_cons d_str (da_cons d_str (da_cons d_str da_nil)))) (d_call (c__law_draw T) (hr.mono (by decide)) (da_cons (d_var 0) (da_cons d_int da_nil)))) (dg_name 1 sc__law_rule.nd))
      (ss_cons (s_asg (d_ixL (dl_lst (da_cons d_str (da_cons d_str (da_cons d_str da_nil)))) (d_call (c__law_draw T) (hr.mono (by decide)) (da_cons (d_var 0) (da_cons d_int da_nil)))) (dg_name 2 sc__law_rule.nd))
      (ss_cons (s_asg (d_cmp (op_eqD hr.units) s_eq (d_call (c__law_draw T) (hr.mono (by decide)) (da_cons (d_var 0) (da_cons d_int da_nil))) d_int) (dg_name 3 sc__law_rule.nd))
      (ss_cons (s_asg (d_op op_addA s_add d_int (d_call (c__law_draw T) (hr.mono (by decide)) (da_cons (d_var 0) (da_cons d_int da_nil)))) (dg_name 4 sc__law_rule.nd))
      (ss_cons (s_asg (d_op op_addA s_add d_int (d_call (c__law_draw T) (hr.mono (by decide)) (da_cons (d_var 0) (da_cons d_int da_nil)))) (dg_name 5 sc__law_rule.nd))
      (ss_cons (s_asg (d_op op_addA s_add d_int (d_call (c__law_draw T) (hr.mono (by decide)) (da_cons (d_var 0) (da_cons d_int da_nil)))) (dg_name 6 sc__law_rule.nd))
      (ss_cons (s_asg (d_new (dl_lst da_nil)) (dg_name 7 sc__law_rule.nd))
      (ss_cons (s_for (di_range rfl T.z_range (d_call (c__law_draw T) (hr.mono (by decide)) (da_cons (d_var 0) (da_cons d_int da_nil)))) (dg_name 8 sc__law_rule.nd) (ss_one (s_expr (d_app rfl (d_var 7) (d_call (c__law_bits T) (hr.mono (by decide)) (da_cons (d_op op_addA s_add d_int (d_call (c__law_draw T) (hr.mono (by decide)) (da_cons (d_var 0) (da_cons (d_ixL (dl_lst (da_cons d_int (da_cons d_int (da_cons d_int da_nil)))) (d_op op_sub s_sub (d_var 5) d_int)) da_nil)))) (da_cons (d_var 5) da_nil)))))))
      (ss_cons (s_asg (d_sl (d_call (c__law_bits T) (hr.mono (by decide)) (da_cons (d_call (c__law_draw T) (hr.mono (by decide)) (da_cons (d_var 0) (da_cons d_int da_nil))) (da_cons (d_op op_mulA s_mul (d_var 4) (d_var 5)) da_nil))) do_none (do_some d_int)) (dg_name 9 sc__law_rule.nd))
      (ss_one (s_ret (d_tup (da_cons (d_var 4) (da_cons (d_var 5) (da_cons (d_var 6) (da_cons (d_var 1) (da_cons (d_var 3) (da_cons (d_var 2) (da_cons (d_callT1 call_tuple_of s_tuple T.z_tuple (d_var 7)) (da_cons (d_var 9) da_nil))))))))))))))))))))
theorem c__law_rule (T : Top K mg) : Cal P w K mg base 2 "_law_rule" 1 g__law_rule := by
  obtain ⟨f, fd, F, hm, hb⟩ := T.d__law_rule
  exact cal_mk (f__law_rule T F) hm F.kp hb
theorem f__law_bad_number (T : Top K mg) {f : Addr} {fd : FuncData} (F : Fun K "_law_bad_number" "_law_bad_number" s__law_bad_number f fd) : FnOk P w K mg base CX0 2 f fd p__law_bad_number (spD K 1 g__law_bad_number) := by
  refine fn_mk (b := b__law_bad_number) (N := N__law_bad_number) (ps := p__law_bad_number) F sc__law_bad_number fun cdv A outer s H E hr => ?_
  exact (ss_cons (s_asg (d_call (c__law_draw T) (hr.mono (by decide)) (da_cons (d_var 0) (da_cons d_int da_nil))) (dg_name 1 sc__law_bad_number.nd))
      (ss_cons (s_asg (d_new (dl_lst (da_cons d_int (da_cons d_int (da_cons (d_un un_neg s_neg d_int) (da_cons d_bl (da_cons d_bl (da_cons d_non (da_cons d_str (da_cons (d_tup (da_cons d_int da_nil)) (da_cons (d_new (dl_lst (da_cons d_int da_nil))) (da_cons d_str (da_cons (d_op op_addA s_add d_int (d_var 1)) (da_cons (d_op op_sub s_sub (d_un un_neg s_neg d_int) (d_var 1)) da_nil)))))))))))))) (dg_name 2 sc__law_bad_number.nd))
      (ss_one (s_ret (d_ix (d_var 2) (d_call (c__law_draw T) (hr.mono (by decide)) (da_cons (d_var 0) (da_cons d_int da_nil))))))))
theorem c__law_bad_number (T : Top K mg) : Cal P w K mg base 2 "_law_bad_number" 1 g__law_bad_number := by
  obtain ⟨f, fd, F, hm, hb⟩ := T.d__law_bad_number
  exact cal_mk (f__law_bad_number T F) hm F.kp hb
theorem f__law_bad_word (T : Top K mg) {f : Addr} {fd : FuncData} (F : Fun K "_law_bad_word" "_law_bad_word" s__law_bad_word f fd) : FnOk P w K mg base CX0 2 f fd p__law_bad_word (spD K 2 g__law_bad_word) := by
  refine fn_mk (b := b__law_bad_word) (N := N__law_bad_word) (ps := p__law_bad_word) F sc__law_bad_word fun cdv A outer s H E hr => ?_
  exact (ss_cons (s_asg (d_new (dl_lst (da_cons d_str (da_cons (d_op op_addA s_add (d_var 1) d_str) (da_cons (d_op op_addA s_add d_str (d_var 1)) (da_cons (d_sl (d_var 1) (do_some d_int) do_none) (da_cons (d_upper rfl (d_var 1)) (da_cons (d_op op_addA s_add (d_var 1) d_str) (da_cons d_non (da_cons d_int (da_cons d_bl (da_cons (d_tup (da_cons (d_var 1) da_nil)) (da_cons (d_new (dl_lst (da_cons (d_var 1) da_nil))) (da_cons d_str da_nil)))))))))))))) (dg_name 2 sc__law_bad_word.nd))
      (ss_one (s_ret (d_ix (d_var 2) (d_call (c__law_draw T) (hr.mono (by decide)) (da_cons (d_var 0) (da_cons d_int da_nil)))))))
theorem c__law_bad_word (T : Top K mg) : Cal P w K mg base 2 "_law_bad_word" 2 g__law_bad_word := by
  obtain ⟨f, fd, F, hm, hb⟩ := T.d__law_bad_word
  exact cal_mk (f__law_bad_word T F) hm F.kp hb
theorem f__law_bad_kind (T : Top K mg) {f : Addr} {fd : FuncData} (F : Fun K "_law_bad_kind" "_law_bad_kind" s__law_bad_kind f fd) : FnOk P w K mg base CX0 2 f fd p__law_bad_kind (spD K 2 g__law_bad_kind) := by
  refine fn_mk (b := b__law_bad_kind) (N := N__law_bad_kind) (ps := p__law_bad_kind) F sc__law_bad_kind fun cdv A outer s H E hr => ?_
  exact (ss_cons (s_asg (d_new (dl_lst (da_cons (d_tup da_nil) (da_cons (d_tup (da_cons (d_var 1) da_nil)) (da_cons (d_tup (da_cons (d_un un_neg s_neg d_int) da_nil)) (da_cons (d_tup (da_cons d_bl da_nil)) (da_cons (d_tup (da_cons d_int (da_cons d_int da_nil))) (da_cons (d_tup (da_cons d_int (da_cons d_int da_nil))) (da_cons (d_new (dl_lst (da_cons d_int da_nil))) (da_cons d_int (da_cons d_str (da_cons d_non (da_cons (d_tup (da_cons d_str da_nil)) (da_cons (d_tup (da_cons d_int (da_cons d_int da_nil))) (da_cons (d_tup (da_cons (d_tup (da_cons d_int da_nil)) da_nil)) (da_cons (d_tup (da_cons d_int (da_cons d_non da_nil))) da_nil)))))))))))))))) (dg_name 2 sc__law_bad_kind.nd))
      (ss_one (s_ret (d_ix (d_var 2) (d_call (c__law_draw T) (hr.mono (by decide)) (da_cons (d_var 0) (da_cons d_int da_nil)))))))
theorem c__law_bad_kind (T : Top K mg) : Cal P w K mg base 2 "_law_bad_kind" 2 g__law_bad_kind := by
  obtain ⟨f, fd, F, hm, hb⟩ := T.d__law_bad_kind
  exact cal_mk (f__law_bad_kind T F) hm F.kp hb
theorem f__law_bad_kinds (T : Top K mg) {f : Addr} {fd : FuncData} (F : Fun K "_law_bad_kinds" "_law_bad_kinds" s__law_bad_kinds f fd) : FnOk P w K mg base CX0 3 f fd p__law_bad_kinds (spD K 2 g__law_bad_kinds) := by
  refine fn_mk (b := b__law_bad_kinds) (N := N__law_bad_kinds) (ps := p__law_bad_kinds) F sc__law_bad_kinds fun cdv A outer s H E hr => ?_
  exact (ss_cons (s_asg (d_new (dl_lst (da_cons d_non (da_cons (d_new (dl_list rfl T.z_list (d_ix (d_var 1) d_int))) (da_cons d_str (da_cons d_int (da_cons (d_tup (da_cons (d_tup (da_cons d_int da_nil)) (da_cons (d_tup (da_cons d_int da_nil)) (da_cons (d_tup (da_cons d_int da_nil)) (da_cons (d_tup (da_cons d_int da_nil)) da_nil))))) (da_cons (d_new (dl_lst (da_cons (d_tup (da_cons d_int da_nil)) da_nil))) (da_cons d_bl da_nil))))))))) (dg_name 2 sc__law_bad_kinds.nd))
      (ss_cons (s_asg (d_call (c__law_draw T) (hr.mono (by decide)) (da_cons (d_var 0) (da_cons d_int da_nil))) (dg_name 3 sc__law_bad_kinds.nd))
      (ss_cons (s_asg (d_call (c__law_draw T) (hr.mono (by decide)) (da_cons (d_var 0) (da_cons d_int da_nil))) (dg_name 4 sc__law_bad_kinds.nd))
      (ss_cons (s_asg (d_call (c__law_bad_kind T) (hr.mono (by decide)) (da_cons (d_var 0) (da_cons (d_ix (d_var 1) d_int) da_nil))) (dg_name 5 sc__law_bad_kinds.nd))
      (ss_cons (s_if (d_tcmp (op_eqD hr.units) s_eq (d_var 3) d_int) (ss_one (s_ret (d_ix (d_var 2) (d_call (c__law_draw T) (hr.mono (by decide)) (da_cons (d_var 0) (da_cons d_int da_nil)))))) ss_nil)
      (ss_one (s_ret (d_op op_addA s_add (d_op op_addA s_add (d_sl (d_ix (d_var 1) d_int) do_none (do_some (d_var 4))) (d_tup (da_cons (d_var 5) da_nil))) (d_sl (d_ix (d_var 1) d_int) (do_some (d_op op_addA s_add (d_var 4) d_int)) do_none)))))))))
theorem c__law_bad_kinds (T : Top K mg) : Cal P w K mg base 3 "_law_bad_kinds" 2 g__law_bad_kinds := by
  obtain ⟨f, fd, F, hm, hb⟩ := T.d__law_bad_kinds
  exact cal_mk (f__law_bad_kinds T F) hm F.kp hb
theorem f__law_bad_acting (T : Top K mg) {f : Addr} {fd : FuncData} (F : Fun K "_law_bad_acting" "_law_bad_acting" s__law_bad_acting f fd) : FnOk P w K mg base CX0 2 f fd p__law_bad_acting (spD K 2 g__law_bad_acting) := by
  refine fn_mk (b := b__law_bad_acting) (N := N__law_bad_acting) (ps := p__law_bad_acting) F sc__law_bad_acting fun cdv A outer s H E hr => ?_
  exact (ss_cons (s_asg (d_op op_mulA s_mul (d_ix (d_var 1) d_int) (d_ix (d_var 1) d_int)) (dg_name 2 sc__law_bad_acting.nd))
      (ss_cons (s_asg (d_new (dl_lst (da_cons d_non (da_cons (d_new (dl_lst (da_cons d_int da_nil))) (da_cons (d_tup (da_cons d_int (da_cons d_int da_nil))) (da_cons (d_tup (da_cons d_int (da_cons d_int da_nil))) (da_cons (d_tup (da_cons (d_var 2) da_nil)) (da_cons (d_tup (da_cons (d_un un_neg s_neg d_int) da_nil)) (da_cons (d_tup (da_cons d_bl da_nil)) (da_cons (d_tup (da_cons d_int (da_cons d_int (da_cons d_int da_nil)))) (da_cons d_str (da_cons d_int (da_cons (d_tup (da_cons d_str da_nil)) (da_cons (d_tup (da_cons d_int (da_cons d_int da_nil))) (da_cons (d_tup (da_cons d_int (da_cons d_non da_nil))) (da_cons d_bl da_nil)))))))))))))))) (dg_name 3 sc__law_bad_acting.nd))
      (ss_one (s_ret (d_ix (d_var 3) (d_call (c__law_draw T) (hr.mono (by decide)) (da_cons (d_var 0) (da_cons d_int da_nil))))))))
theorem c__law_bad_acting (T : Top K mg) : Cal P w K mg base 2 "_law_bad_acting" 2 g__law_bad_acting := by
  obtain ⟨f, fd, F, hm, hb⟩ := T.d__law_bad_acting
  exact cal_mk (f__law_bad_acting T F) hm F.kp hb
theorem f__law_spoilt (T : Top K mg) {f : Addr} {fd : FuncData} (F : Fun K "_law_spoilt" "_law_spoilt" s__law_spoilt f fd) : FnOk P w K mg base CX0 4 f fd p__law_spoilt (spD K 2 g__law_spoilt) := by
  refine fn_mk (b := b__law_spoilt) (N := N__law_spoilt) (ps := p__law_spoilt) F sc__law_spoilt fun cdv A outer s H E hr => ?_
  exact (ss_cons (s_asg (d_call (c__law_draw T) (hr.mono (by decide)) (da_cons (d_var 0) (da_cons d_int da_nil))) (dg_name 2 sc__law_spoilt.nd))
      (ss_cons (s_if (d_tcmp op_lt s_lt (d_var 2) d_int) (ss_one (s_asg (d_call (c__law_bad_number T) (hr.mono (by decide)) (da_cons (d_var 0) da_nil)) (dg_name 3 sc__law_spoilt.nd))) (ss_one (s_if (d_tcmp (op_eqD hr.units) s_eq (d_var 2) d_int) (ss_one (s_asg (d_ixL (dl_lst (da_cons d_int (da_cons d_int (da_cons d_non (da_cons d_str (da_cons d_str (da_cons (d_tup da_nil) (da_cons d_int (da_cons d_str da_nil))))))))) (d_call (c__law_draw T) (hr.mono (by decide)) (da_cons (d_var 0) (da_cons d_int da_nil)))) (dg_name 3 sc__law_spoilt.nd))) (ss_one (s_if (d_tcmp (op_eqD hr.units) s_eq (d_var 2) d_int) (ss_one (s_asg (d_call (c__law_bad_kinds T) (hr.mono (by decide)) (da_cons (d_var 0) (da_cons (d_var 1) da_nil))) (dg_name 3 sc__law_spoilt.nd))) (ss_one (s_if (d_tcmp (op_eqD hr.units) s_eq (d_var 2) d_int) (ss_one (s_asg (d_call (c__law_bad_acting T) (hr.mono (by decide)) (da_cons (d_var 0) (da_cons (d_var 1) da_nil))) (dg_name 3 sc__law_spoilt.nd))) (ss_one (s_asg (d_call (c__law_bad_word T) (hr.mono (by decide)) (da_cons (d_var 0) (da_cons (d_ix (d_var 1) (d_var 2)) da_nil))) (dg_name 3 sc__law_spoilt.nd))))))))))
      (ss_one (s_ret (d_op op_addA s_add (d_op op_addA s_add (d_sl (d_var 1) do_none (do_some (d_var 2))) (d_tup (da_cons (d_var 3) da_nil))) (d_sl (d_var 1) (do_some (d_op op_addA s_add (d_var 2) d_int)) do_none))))))
theorem c__law_spoilt (T : Top K mg) : Cal P w K mg base 4 "_law_spoilt" 2 g__law_spoilt := by
  obtain ⟨f, fd, F, hm, hb⟩ := T.d__law_spoilt
  exact cal_mk (f__law_spoilt T F) hm F.kp hb
theorem f_law (T : Top K mg) {f : Addr} {fd : FuncData} (F : Fun K "law" "law" s_law f fd) : FnOk P w K mg base CX0 6 f fd p_law (spD K 1 g_law) := by
  refine fn_mk (b := b_law) (N := N_law) (ps := p_law) F sc_law fun cdv A outer s H E hr => ?_
  exact (ss_cons (s_asg (d_call (c__law_pool T) (hr.mono (by decide)) (da_cons (d_var 0) da_nil)) (dg_name 1 sc_law.nd))
      (ss_cons (s_for (di_range rfl T.z_range d_int) (dg_name 2 sc_law.nd) (ss_cons (s_asg (d_call (c__law_rule T) (hr.mono (by decide)) (da_cons (d_var 1) da_nil)) (dg_name 3 sc_law.nd))
      (ss_cons (s_if (d_tcmp op_isNotA s_isNot (d_call (c_is_rule T) (hr.mono (by decide)) (da_cons (d_var 3) da_nil)) d_bl) (ss_one (s_ret d_bl)) ss_nil)
      (ss_cons (s_for (di_new (dl_lst (da_cons (d_call (c__law_spoilt T) (hr.mono (by decide)) (da_cons (d_var 1) (da_cons (d_var 3) da_nil))) (da_cons (d_call (c__law_spoilt T) (hr.mono (by decide)) (da_cons (d_var 1) (da_cons (d_var 3) da_nil))) (da_cons (d_new (dl_list rfl T.z_list (d_var 3))) (da_cons (d_sl (d_var 3) do_none (do_some d_int)) (da_cons (d_op op_addA s_add (d_var 3) (d_tup (da_cons d_int da_nil))) (da_cons (d_op op_addA s_add (d_var 3) (d_tup (da_cons (d_tup da_nil) da_nil))) da_nil)))))))) (dg_name 4 sc_law.nd) (ss_one (s_if (d_tcmp op_isNotA s_isNot (d_call (c_is_rule T) (hr.mono (by decide)) (da_cons (d_var 4) da_nil)) d_bl) (ss_one (s_ret d_bl)) ss_nil)))
      (ss_cons (s_asg (d_new (dl_lst (da_cons d_non (da_cons (d_tup da_nil) (da_cons (d_new (dl_lst da_nil)) (da_cons d_str (da_cons d_int (da_cons d_bl (da_cons (d_ix (d_var 3) d_int) (da_cons (d_ix (d_var 3) d_int) (da_cons (d_tup (da_cons (d_var 3) da_nil)) (da_cons d_str da_nil)))))))))))) (dg_name 5 sc_law.nd))
      (ss_one (s_if (t_w (t_or (d_tcmp op_isNotA s_isNot (d_call (c_is_rule T) (hr.mono (by decide)) (da_cons (d_ix (d_var 5) (d_call (c__law_draw T) (hr.mono (by decide)) (da_cons (d_var 1) (da_cons d_int da_nil)))) da_nil)) d_bl) (t_or1 (d_tcmp op_isNotA s_isNot (d_call (c_is_rule T) (hr.mono (by decide)) (da_cons (d_var 3) da_nil)) d_bl)))) (ss_one (s_ret d_bl)) ss_nil)))))))
      (ss_one (s_ret d_bl))))
theorem c_law (T : Top K mg) : Cal P w K mg base 6 "law" 1 g_law := by
  obtain ⟨f, fd, F, hm, hb⟩ := T.d_law
  exact cal_mk (f_law T F) hm F.kp hb
end
end DL
namespace DL
open PySem L2
theorem all_mk {P : Program} {w : World} {K : PySem.W.Frag} {h : Heap} {mg : Str → Option Value} {fa : Addr} (X : K.In h) (G : h.Ns mainGlobals mg) (hfa : mg "law" = some (.ref fa))
    {f0 f1 f2 f3 f4 f5 f6 f7 f8 f9 f10 f11 f12 f13 f14 f15 f16 f17 f18 : Addr} {od0 an0 od1 an1 od2 an2 od3 an3 od4 an4 od5 an5 od6 an6 od7 an7 od8 an8 od9 an9 od10 an10 od11 an11 od12 an12 od13 an13 od14 an14 od15 an15 od16 an16 od17 an17 od18 an18 : Option Addr} {sl0 sl1 sl2 sl3 sl4 sl5 sl6 sl7 sl8 sl9 sl10 sl11 sl12 sl13 sl14 sl15 sl16 sl17 sl18 : Array (Option Value)} {oc0 kV0 dc0 pm0 cd0 ct0 oc1 kV1 dc1 pm1 cd1 ct1 oc2 kV2 dc2 pm2 cd2 ct2 oc3 kV3 dc3 pm3 cd3 ct3 oc4 kV4 dc4 pm4 cd4 ct4 oc5 kV5 dc5 pm5 cd5 ct5 oc6 kV6 dc6 pm6 cd6 ct6 oc7 kV7 dc7 pm7 cd7 ct7 oc8 kV8 dc8 pm8 cd8 ct8 oc9 kV9 dc9 pm9 cd9 ct9 oc10 kV10 dc10 pm10 cd10 ct10 oc11 kV11 dc11 pm11 cd11 ct11 oc12 kV12 dc12 pm12 cd12 ct12 oc13 kV13 dc13 pm13 cd13 ct13 oc14 kV14 dc14 pm14 cd14 ct14 oc15 kV15 dc15 pm15 cd15 ct15 oc16 kV16 dc16 pm16 cd16 ct16 oc17 kV17 dc17 pm17 cd17 ct17 oc18 kV18 dc18 pm18 cd18 ct18 : Value}
    {t_ACTING t_EAGER t_KINDS t_LINES t_LOOK t_ROOM t_SENDS t_WIDTH : Tok}
    {a_LOOK_WORDS : Addr} {dd_LOOK_WORDS : Option Addr} {n_LOOK_WORDS : Nat} {sl_LOOK_WORDS : Array (Option Value)} {u_LOOK_WORDS_0 u_LOOK_WORDS_1 u_LOOK_WORDS_2 : Tok}
    {a_SENDS_WORDS : Addr} {dd_SENDS_WORDS : Option Addr} {n_SENDS_WORDS : Nat} {sl_SENDS_WORDS : Array (Option Value)} {u_SENDS_WORDS_0 u_SENDS_WORDS_1 u_SENDS_WORDS_2 : Tok}
    (a0 : PySem.W.nsIn K mainGlobals "is_integer" = some (some (.ref f0))) (l0 : K.lookup f0 = some ⟨oc0, od0, .func (PySem.W.fnOf "is_integer" "is_integer" (defArgs s_is_integer) (defBody s_is_integer) (defScope s_is_integer) .none kV0 dc0 pm0 an0 cd0 ct0), sl0⟩) (c0 : PySem.W.codeIn K cd0 "is_integer" = true) (k0 : PySem.W.keepIn K (.ref f0) = true)
    (a1 : PySem.W.nsIn K mainGlobals "is_integer_within" = some (some (.ref f1))) (l1 : K.lookup f1 = some ⟨oc1, od1, .func (PySem.W.fnOf "is_integer_within" "is_integer_within" (defArgs s_is_integer_within) (defBody s_is_integer_within) (defScope s_is_integer_within) .none kV1 dc1 pm1 an1 cd1 ct1), sl1⟩) (c1 : PySem.W.codeIn K cd1 "is_integer_within" = true) (k1 : PySem.W.keepIn K (.ref f1) = true)
    (a2 : PySem.W.nsIn K mainGlobals "is_word_of" = some (some (.ref f2))) (l2 : K.lookup f2 = some ⟨oc2, od2, .func (PySem.W.fnOf "is_word_of" "is_word_of" (defArgs s_is_word_of) (defBody s_is_word_of) (defScope s_is_word_of) .none kV2 dc2 pm2 an2 cd2 ct2), sl2⟩) (c2 : PySem.W.codeIn K cd2 "is_word_of" = true) (k2 : PySem.W.keepIn K (.ref f2) = true)
    (a3 : PySem.W.nsIn K mainGlobals "are_numbers_below" = some (some (.ref f3))) (l3 : K.lookup f3 = some ⟨oc3, od3, .func (PySem.W.fnOf "are_numbers_below" "are_numbers_below" (defArgs s_are_numbers_below) (defBody s_are_numbers_below) (defScope s_are_numbers_below) .none kV3 dc3 pm3 an3 cd3 ct3), sl3⟩) (c3 : PySem.W.codeIn K cd3 "are_numbers_below" = true) (k3 : PySem.W.keepIn K (.ref f3) = true)
    (a4 : PySem.W.nsIn K mainGlobals "is_tuple_of" = some (some (.ref f4))) (l4 : K.lookup f4 = some ⟨oc4, od4, .func (PySem.W.fnOf "is_tuple_of" "is_tuple_of" (defArgs s_is_tuple_of) (defBody s_is_tuple_of) (defScope s_is_tuple_of) .none kV4 dc4 pm4 an4 cd4 ct4), sl4⟩) (c4 : PySem.W.codeIn K cd4 "is_tuple_of" = true) (k4 : PySem.W.keepIn K (.ref f4) = true)
    (a5 : PySem.W.nsIn K mainGlobals "places_of" = some (some (.ref f5))) (l5 : K.lookup f5 = some ⟨oc5, od5, .func (PySem.W.fnOf "places_of" "places_of" (defArgs s_places_of) (defBody s_places_of) (defScope s_places_of) .none kV5 dc5 pm5 an5 cd5 ct5), sl5⟩) (c5 : PySem.W.codeIn K cd5 "places_of" = true) (k5 : PySem.W.keepIn K (.ref f5) = true)
    (a6 : PySem.W.nsIn K mainGlobals "is_kind" = some (some (.ref f6))) (l6 : K.lookup f6 = some ⟨oc6, od6, .func (PySem.W.fnOf "is_kind" "is_kind" (defArgs s_is_kind) (defBody s_is_kind) (defScope s_is_kind) .none kV6 dc6 pm6 an6 cd6 ct6), sl6⟩) (c6 : PySem.W.codeIn K cd6 "is_kind" = true) (k6 : PySem.W.keepIn K (.ref f6) = true)
    (a7 : PySem.W.nsIn K mainGlobals "is_rule" = some (some (.ref f7))) (l7 : K.lookup f7 = some ⟨oc7, od7, .func (PySem.W.fnOf "is_rule" "is_rule" (defArgs s_is_rule) (defBody s_is_rule) (defScope s_is_rule) .none kV7 dc7 pm7 an7 cd7 ct7), sl7⟩) (c7 : PySem.W.codeIn K cd7 "is_rule" = true) (k7 : PySem.W.keepIn K (.ref f7) = true)
    (a8 : PySem.W.nsIn K mainGlobals "_law_pool" = some (some (.ref f8))) (l8 : K.lookup f8 = some ⟨oc8, od8, .func (PySem.W.fnOf "_law_pool" "_law_pool" (defArgs s__law_pool) (defBody s__law_pool) (defScope s__law_pool) .none kV8 dc8 pm8 an8 cd8 ct8), sl8⟩) (c8 : PySem.W.codeIn K cd8 "_law_pool" = true) (k8 : PySem.W.keepIn K (.ref f8) = true)
    (a9 : PySem.W.nsIn K mainGlobals "_law_draw" = some (some (.ref f9))) (l9 : K.lookup f9 = some ⟨oc9, od9, .func (PySem.W.fnOf "_law_draw" "_law_draw" (defArgs s__law_draw) (defBody s__law_draw) (defScope s__law_draw) .none kV9 dc9 pm9 an9 cd9 ct9), sl9⟩) (c9 : PySem.W.codeIn K cd9 "_law_draw" = true) (k9 : PySem.W.keepIn K (.ref f9) = true)
    (a10 : PySem.W.nsIn K mainGlobals "_law_bits" = some (some (.ref f10))) (l10 : K.lookup f10 = some ⟨oc10, od10, .func (PySem.W.fnOf "_law_bits" "_law_bits" (defArgs s__law_bits) (defBody s__law_bits) (defScope s__law_bits) .none kV10 dc10 pm10 an10 cd10 ct10), sl10⟩) (c10 : PySem.W.codeIn K cd10 "_law_bits" = true) (k10 : PySem.W.keepIn K (.ref f10) = true)
    (a11 : PySem.W.nsIn K mainGlobals "_law_rule" = some (some (.ref f11))) (l11 : K.lookup f11 = some ⟨oc11, od11, .func (PySem.W.fnOf "_law_rule" "_law_rule" (defArgs s__law_rule) (defBody s__law_rule) (defScope s__law_rule) .none kV11 dc11 pm11 an11 cd11 ct11), sl11⟩) (c11 : PySem.W.codeIn K cd11 "_law_rule" = true) (k11 : PySem.W.keepIn K (.ref f11) = true)
    (a12 : PySem.W.nsIn K mainGlobals "_law_bad_number" = some (some (.ref f12))) (l12 : K.lookup f12 = some ⟨oc12, od12, .func (PySem.W.fnOf "_law_bad_number" "_law_bad_number" (defArgs s__law_bad_number) (defBody s__law_bad_number) (defScope s__law_bad_number) .none kV12 dc12 pm12 an12 cd12 ct12), sl12⟩) (c12 : PySem.W.codeIn K cd12 "_law_bad_number" = true) (k12 : PySem.W.keepIn K (.ref f12) = true)
    (a13 : PySem.W.nsIn K mainGlobals "_law_bad_word" = some (some (.ref f13))) (l13 : K.lookup f13 = some ⟨oc13, od13, .func (PySem.W.fnOf "_law_bad_word" "_law_bad_word" (defArgs s__law_bad_word) (defBody s__law_bad_word) (defScope s__law_bad_word) .none kV13 dc13 pm13 an13 cd13 ct13), sl13⟩) (c13 : PySem.W.codeIn K cd13 "_law_bad_word" = true) (k13 : PySem.W.keepIn K (.ref f13) = true)
    (a14 : PySem.W.nsIn K mainGlobals "_law_bad_kind" = some (some (.ref f14))) (l14 : K.lookup f14 = some ⟨oc14, od14, .func (PySem.W.fnOf "_law_bad_kind" "_law_bad_kind" (defArgs s__law_bad_kind) (defBody s__law_bad_kind) (defScope s__law_bad_kind) .none kV14 dc14 pm14 an14 cd14 ct14), sl14⟩) (c14 : PySem.W.codeIn K cd14 "_law_bad_kind" = true) (k14 : PySem.W.keepIn K (.ref f14) = true)
    (a15 : PySem.W.nsIn K mainGlobals "_law_bad_kinds" = some (some (.ref f15))) (l15 : K.lookup f15 = some ⟨oc15, od15, .func (PySem.W.fnOf "_law_bad_kinds" "_law_bad_kinds" (defArgs s__law_bad_kinds) (defBody s__law_bad_kinds) (defScope s__law_bad_kinds) .none kV15 dc15 pm15 an15 cd15 ct15), sl15⟩) (c15 : PySem.W.codeIn K cd15 "_law_bad_kinds" = true) (k15 : PySem.W.keepIn K (.ref f15) = true)
    (a16 : PySem.W.nsIn K mainGlobals "_law_bad_acting" = some (some (.ref f16))) (l16 : K.lookup f16 = some ⟨oc16, od16, .func (PySem.W.fnOf "_law_bad_acting" "_law_bad_acting" (defArgs s__law_bad_acting) (defBody s__law_bad_acting) (defScope s__law_bad_acting) .none kV16 dc16 pm16 an16 cd16 ct16), sl16⟩) (c16 : PySem.W.codeIn K cd16 "_law_bad_acting" = true) (k16 : PySem.W.keepIn K (.ref f16) = true)
    (a17 : PySem.W.nsIn K mainGlobals "_law_spoilt" = some (some (.ref f17))) (l17 : K.lookup f17 = some ⟨oc17, od17, .func (PySem.W.fnOf "_law_spoilt" "_law_spoilt" (defArgs s__law_spoilt) (defBody s__law_spoilt) (defScope s__law_spoilt) .none kV17 dc17 pm17 an17 cd17 ct17), sl17⟩) (c17 : PySem.W.codeIn K cd17 "_law_spoilt" = true) (k17 : PySem.W.keepIn K (.ref f17) = true)
    (a18 : PySem.W.nsIn K mainGlobals "law" = some (some (.ref f18))) (l18 : K.lookup f18 = some ⟨oc18, od18, .func (PySem.W.fnOf "law" "law" (defArgs s_law) (defBody s_law) (defScope s_law) .none kV18 dc18 pm18 an18 cd18 ct18), sl18⟩) (c18 : PySem.W.codeIn K cd18 "law" = true) (k18 : PySem.W.keepIn K (.ref f18) = true)
    (z_abs : PySem.W.nsIn K mainGlobals "abs" = some none)
    (z_all : PySem.W.nsIn K mainGlobals "all" = some none)
    (z_bool : PySem.W.nsIn K mainGlobals "bool" = some none)
    (z_int : PySem.W.nsIn K mainGlobals "int" = some none)
    (z_isinstance : PySem.W.nsIn K mainGlobals "isinstance" = some none)
    (z_len : PySem.W.nsIn K mainGlobals "len" = some none)
    (z_list : PySem.W.nsIn K mainGlobals "list" = some none)
    (z_range : PySem.W.nsIn K mainGlobals "range" = some none)
    (z_str : PySem.W.nsIn K mainGlobals "str" = some none)
    (z_tuple : PySem.W.nsIn K mainGlobals "tuple" = some none)
    (g_ACTING : PySem.W.nsIn K mainGlobals "ACTING" = some (some (.int 7 t_ACTING)))
    (g_EAGER : PySem.W.nsIn K mainGlobals "EAGER" = some (some (.int 4 t_EAGER)))
    (g_KINDS : PySem.W.nsIn K mainGlobals "KINDS" = some (some (.int 6 t_KINDS)))
    (g_LINES : PySem.W.nsIn K mainGlobals "LINES" = some (some (.int 1 t_LINES)))
    (g_LOOK : PySem.W.nsIn K mainGlobals "LOOK" = some (some (.int 5 t_LOOK)))
    (g_ROOM : PySem.W.nsIn K mainGlobals "ROOM" = some (some (.int 2 t_ROOM)))
    (g_SENDS : PySem.W.nsIn K mainGlobals "SENDS" = some (some (.int 3 t_SENDS)))
    (g_WIDTH : PySem.W.nsIn K mainGlobals "WIDTH" = some (some (.int 0 t_WIDTH)))
    (g_LOOK_WORDS : PySem.W.nsIn K mainGlobals "LOOK_WORDS" = some (some (.ref a_LOOK_WORDS))) (o_LOOK_WORDS : K.lookup a_LOOK_WORDS = some ⟨.type "tuple", dd_LOOK_WORDS, .seq #[.str (Str.ofString "into") u_LOOK_WORDS_0, .str (Str.ofString "past") u_LOOK_WORDS_1, .str (Str.ofString "first") u_LOOK_WORDS_2] n_LOOK_WORDS, sl_LOOK_WORDS⟩)
    (g_SENDS_WORDS : PySem.W.nsIn K mainGlobals "SENDS_WORDS" = some (some (.ref a_SENDS_WORDS))) (o_SENDS_WORDS : K.lookup a_SENDS_WORDS = some ⟨.type "tuple", dd_SENDS_WORDS, .seq #[.str (Str.ofString "whole") u_SENDS_WORDS_0, .str (Str.ofString "parts") u_SENDS_WORDS_1, .str (Str.ofString "filled") u_SENDS_WORDS_2] n_SENDS_WORDS, sl_SENDS_WORDS⟩)
    : ∃ fd : FuncData, (∀ (s : Shared) (v : Value), BindsTo s fd ⟨[v], []⟩ [("script", v)]) ∧ ∀ base : Heap, K.In base → base.Ns mainGlobals mg → FnOk P w K mg base CX0 6 fa fd ["script"] (spD K 1 g_law) := by
  have e := hfa.symm.trans (PySem.W.mg_of X G a18)
  cases e
  have T : Top K mg := {
    z_abs := PySem.W.mg_none_of X G z_abs
    z_all := PySem.W.mg_none_of X G z_all
    z_bool := PySem.W.mg_none_of X G z_bool
    z_int := PySem.W.mg_none_of X G z_int
    z_isinstance := PySem.W.mg_none_of X G z_isinstance
    z_len := PySem.W.mg_none_of X G z_len
    z_list := PySem.W.mg_none_of X G z_list
    z_range := PySem.W.mg_none_of X G z_range
    z_str := PySem.W.mg_none_of X G z_str
    z_tuple := PySem.W.mg_none_of X G z_tuple
    k_ACTING := ⟨_, PySem.W.mg_of X G g_ACTING⟩
    k_EAGER := ⟨_, PySem.W.mg_of X G g_EAGER⟩
    k_KINDS := ⟨_, PySem.W.mg_of X G g_KINDS⟩
    k_LINES := ⟨_, PySem.W.mg_of X G g_LINES⟩
    k_LOOK := ⟨_, PySem.W.mg_of X G g_LOOK⟩
    k_ROOM := ⟨_, PySem.W.mg_of X G g_ROOM⟩
    k_SENDS := ⟨_, PySem.W.mg_of X G g_SENDS⟩
    k_WIDTH := ⟨_, PySem.W.mg_of X G g_WIDTH⟩
    k_LOOK_WORDS := ⟨_, PySem.W.mg_of X G g_LOOK_WORDS, fun H => .inr ⟨_, _, _, o_LOOK_WORDS, rfl, rfl, (by show 3 ≤ sizeLine; decide), (.cons ⟨_, rfl⟩ (.cons ⟨_, rfl⟩ (.cons ⟨_, rfl⟩ .nil)))⟩⟩
    k_SENDS_WORDS := ⟨_, PySem.W.mg_of X G g_SENDS_WORDS, fun H => .inr ⟨_, _, _, o_SENDS_WORDS, rfl, rfl, (by show 3 ≤ sizeLine; decide), (.cons ⟨_, rfl⟩ (.cons ⟨_, rfl⟩ (.cons ⟨_, rfl⟩ .nil)))⟩⟩
    d_is_integer := ⟨_, _, fun_mk (st := s_is_integer) l0 c0 k0, PySem.W.mg_of X G a0, (fun_mk (st := s_is_integer) l0 c0 k0).binds (ps := p_is_integer) fun _ _ _ _ _ _ us hl => match us, hl with | [_], _ => rfl⟩
    d_is_integer_within := ⟨_, _, fun_mk (st := s_is_integer_within) l1 c1 k1, PySem.W.mg_of X G a1, (fun_mk (st := s_is_integer_within) l1 c1 k1).binds (ps := p_is_integer_within) fun _ _ _ _ _ _ us hl => match us, hl with | [_, _, _], _ => rfl⟩
    d_is_word_of := ⟨_, _, fun_mk (st := s_is_word_of) l2 c2 k2, PySem.W.mg_of X G a2, (fun_mk (st := s_is_word_of) l2 c2 k2).binds (ps := p_is_word_of) fun _ _ _ _ _ _ us hl => match us, hl with | [_, _], _ => rfl⟩
    d_are_numbers_below := ⟨_, _, fun_mk (st := s_are_numbers_below) l3 c3 k3, PySem.W.mg_of X G a3, (fun_mk (st := s_are_numbers_below) l3 c3 k3).binds (ps := p_are_numbers_below) fun _ _ _ _ _ _ us hl => match us, hl with | [_, _], _ => rfl⟩
    d_is_tuple_of := ⟨_, _, fun_mk (st := s_is_tuple_of) l4 c4 k4, PySem.W.mg_of X G a4, (fun_mk (st := s_is_tuple_of) l4 c4 k4).binds (ps := p_is_tuple_of) fun _ _ _ _ _ _ us hl => match us, hl with | [_, _, _], _ => rfl⟩
    d_places_of := ⟨_, _, fun_mk (st := s_places_of) l5 c5 k5, PySem.W.mg_of X G a5, (fun_mk (st := s_places_of) l5 c5 k5).binds (ps := p_places_of) fun _ _ _ _ _ _ us hl => match us, hl with | [_], _ => rfl⟩
    d_is_kind := ⟨_, _, fun_mk (st := s_is_kind) l6 c6 k6, PySem.W.mg_of X G a6, (fun_mk (st := s_is_kind) l6 c6 k6).binds (ps := p_is_kind) fun _ _ _ _ _ _ us hl => match us, hl with | [_, _], _ => rfl⟩
    d_is_rule := ⟨_, _, fun_mk (st := s_is_rule) l7 c7 k7, PySem.W.mg_of X G a7, (fun_mk (st := s_is_rule) l7 c7 k7).binds (ps := p_is_rule) fun _ _ _ _ _ _ us hl => match us, hl with | [_], _ => rfl⟩
    d__law_pool := ⟨_, _, fun_mk (st := s__law_pool) l8 c8 k8, PySem.W.mg_of X G a8, (fun_mk (st := s__law_pool) l8 c8 k8).binds (ps := p__law_pool) fun _ _ _ _ _ _ us hl => match us, hl with | [_], _ => rfl⟩
    d__law_draw := ⟨_, _, fun_mk (st := s__law_draw) l9 c9 k9, PySem.W.mg_of X G a9, (fun_mk (st := s__law_draw) l9 c9 k9).binds (ps := p__law_draw) fun _ _ _ _ _ _ us hl => match us, hl with | [_, _], _ => rfl⟩
    d__law_bits := ⟨_, _, fun_mk (st := s__law_bits) l10 c10 k10, PySem.W.mg_of X G a10, (fun_mk (st := s__law_bits) l10 c10 k10).binds (ps := p__law_bits) fun _ _ _ _ _ _ us hl => match us, hl with | [_, _], _ => rfl⟩
    d__law_rule := ⟨_, _, fun_mk (st := s__law_rule) l11 c11 k11, PySem.W.mg_of X G a11, (fun_mk (st := s__law_rule) l11 c11 k11).binds (ps := p__law_rule) fun _ _ _ _ _ _ us hl => match us, hl with | [_], _ => rfl⟩
    d__law_bad_number := ⟨_, _, fun_mk (st := s__law_bad_number) l12 c12 k12, PySem.W.mg_of X G a12, (fun_mk (st := s__law_bad_number) l12 c12 k12).binds (ps := p__law_bad_number) fun _ _ _ _ _ _ us hl => match us, hl with | [_], _ => rfl⟩
    d__law_bad_word := ⟨_, _, fun_mk (st := s__law_bad_word) l13 c13 k13, PySem.W.mg_of X G a13, (fun_mk (st := s__law_bad_word) l13 c13 k13).binds (ps := p__law_bad_word) fun _ _ _ _ _ _ us hl => match us, hl with | [_, _], _ => rfl⟩
    d__law_bad_kind := ⟨_, _, fun_mk (st := s__law_bad_kind) l14 c14 k14, PySem.W.mg_of X G a14, (fun_mk (st := s__law_bad_kind) l14 c14 k14).binds (ps := p__law_bad_kind) fun _ _ _ _ _ _ us hl => match us, hl with | [_, _], _ => rfl⟩
    d__law_bad_kinds := ⟨_, _, fun_mk (st := s__law_bad_kinds) l15 c15 k15, PySem.W.mg_of X G a15, (fun_mk (st := s__law_bad_kinds) l15 c15 k15).binds (ps := p__law_bad_kinds) fun _ _ _ _ _ _ us hl => match us, hl with | [_, _], _ => rfl⟩
    d__law_bad_acting := ⟨_, _, fun_mk (st := s__law_bad_acting) l16 c16 k16, PySem.W.mg_of X G a16, (fun_mk (st := s__law_bad_acting) l16 c16 k16).binds (ps := p__law_bad_acting) fun _ _ _ _ _ _ us hl => match us, hl with | [_, _], _ => rfl⟩
    d__law_spoilt := ⟨_, _, fun_mk (st := s__law_spoilt) l17 c17 k17, PySem.W.mg_of X G a17, (fun_mk (st := s__law_spoilt) l17 c17 k17).binds (ps := p__law_spoilt) fun _ _ _ _ _ _ us hl => match us, hl with | [_, _], _ => rfl⟩
    d_law := ⟨_, _, fun_mk (st := s_law) l18 c18 k18, PySem.W.mg_of X G a18, (fun_mk (st := s_law) l18 c18 k18).binds (ps := p_law) fun _ _ _ _ _ _ us hl => match us, hl with | [_], _ => rfl⟩ }
  refine ⟨PySem.W.fnOf "law" "law" (defArgs s_law) (defBody s_law) (defScope s_law) .none kV18 dc18 pm18 an18 cd18 ct18, fun s v => .of_eq rfl, fun base _ _ => ?_⟩
  exact f_law T (fun_mk (st := s_law) l18 c18 k18)
theorem walk {l : PySem.W.OpenLaw} {q : Program} {loose : List Str} {XP : (Str → Option Value) → Heap → Prop} {YP : World → Heap → Prop} {d : DefRec} {K : Params → PySem.W.Frag} (hn : l.most = some 63) (hdf : d.params.defaults = [])
    (hY : ∀ (w : World) (h : Heap), YP w h → (K w.params).In h)
    (F : ∀ (w : World) (mg : Str → Option Value) (fa : Addr) (h : Heap), (K w.params).In h → h.Ns mainGlobals mg → mg d.name = some (.ref fa) →
      ∃ fd : FuncData, (∀ (s : Shared) (u : Value), BindsTo s fd ⟨[u], []⟩ [("script", u)]) ∧ ∀ base : Heap, (K w.params).In base → base.Ns mainGlobals mg → FnOk l.prog w (K w.params) mg base CX0 6 fa fd ["script"] (spD (K w.params) 1 g_law)) :
    PySem.W.WalkO q loose XP YP l.row.toRowW d [] (fun f vs => PySem.call f vs) :=
  L2.walk_of (n := 63) (k := 6) (x := "script") (CX := fun _ => CX0) (sp := fun w => spD (K w.params) 1 g_law) hn (by decide) hdf ⟨rfl, by decide, by decide⟩ hY F (fun _ H a ns hl ho hS => sp_law (law_true ns hl) ho hS) fun _ _ _ _ _ z => z
end DL
open PySem PySem.W PyProof.Rows in
set_option maxRecDepth 100000 in
set_option maxHeartbeats 0 in
theorem PySem.Challenge.cw_heldwrites_k02_rules_holds : PySem.Challenge.rw_heldwrites_k02_rules.Holds := by
  w_on; o_law; k_head; (case hw => w_witness2)
  k_fill
  refine DL.walk (l := PySem.Challenge.rw_heldwrites_k02_rules) rfl rfl (fun w h Y => PySem.W.kIn_of Y) ?F
  case F =>
    intro w mg fa h KX G hmg
    refine' DL.all_mk KX G hmg ?a0 ?l0 ?c0 ?k0 ?a1 ?l1 ?c1 ?k1 ?a2 ?l2 ?c2 ?k2 ?a3 ?l3 ?c3 ?k3 ?a4 ?l4 ?c4 ?k4 ?a5 ?l5 ?c5 ?k5 ?a6 ?l6 ?c6 ?k6 ?a7 ?l7 ?c7 ?k7 ?a8 ?l8 ?c8 ?k8 ?a9 ?l9 ?c9 ?k9 ?a10 ?l10 ?c10 ?k10 ?a11 ?l11 ?c11 ?k11 ?a12 ?l12 ?c12 ?k12 ?a13 ?l13 ?c13 ?k13 ?a14 ?l14 ?c14 ?k14 ?a15 ?l15 ?c15 ?k15 ?a16 ?l16 ?c16 ?k16 ?a17 ?l17 ?c17 ?k17 ?a18 ?l18 ?c18 ?k18 ?z_abs ?z_all ?z_bool ?z_int ?z_isinstance ?z_len ?z_list ?z_range ?z_str ?z_tuple ?g_ACTING ?g_EAGER ?g_KINDS ?g_LINES ?g_LOOK ?g_ROOM ?g_SENDS ?g_WIDTH ?g_LOOK_WORDS ?o_LOOK_WORDS ?g_SENDS_WORDS ?o_SENDS_WORDS
    (case a0 => k_is)
    (case l0 => k_is)
    (case c0 => k_is)
    (case k0 => k_is)
    (case a1 => k_is)
    (case l1 => k_is)
    (case c1 => k_is)
    (case k1 => k_is)
    (case a2 => k_is)
    (case l2 => k_is)
    (case c2 => k_is)
    (case k2 => k_is)
    (case a3 => k_is)
    (case l3 => k_is)
    (case c3 => k_is)
    (case k3 => k_is)
    (case a4 => k_is)
    (case l4 => k_is)
    (case c4 => k_is)
    (case k4 => k_is)
    (case a5 => k_is)
    (case l5 => k_is)
    (case c5 => k_is)
    (case k5 => k_is)
    (case a6 => k_is)
    (case l6 => k_is)
    (case c6 => k_is)
    (case k6 => k_is)
    (case a7 => k_is)
    (case l7 => k_is)
    (case c7 => k_is)
    (case k7 => k_is)
    (case a8 => k_is)
    (case l8 => k_is)
    (case c8 => k_is)
    (case k8 => k_is)
    (case a9 => k_is)
    (case l9 => k_is)
    (case c9 => k_is)
    (case k9 => k_is)
    (case a10 => k_is)
    (case l10 => k_is)
    (case c10 => k_is)
    (case k10 => k_is)
    (case a11 => k_is)
    (case l11 => k_is)
    (case c11 => k_is)
    (case k11 => k_is)
    (case a12 => k_is)
    (case l12 => k_is)
    (case c12 => k_is)
    (case k12 => k_is)
    (case a13 => k_is)
    (case l13 => k_is)
    (case c13 => k_is)
    (case k13 => k_is)
    (case a14 => k_is)
    (case l14 => k_is)
    (case c14 => k_is)
    (case k14 => k_is)
    (case a15 => k_is)
    (case l15 => k_is)
    (case c15 => k_is)
    (case k15 => k_is)
    (case a16 => k_is)
    (case l16 => k_is)
    (case c16 => k_is)
    (case k16 => k_is)
    (case a17 => k_is)
    (case l17 => k_is)
    (case c17 => k_is)
    (case k17 => k_is)
    (case a18 => k_is)
    (case l18 => k_is)
    (case c18 => k_is)
    (case k18 => k_is)
    (case z_abs => k_is)
    (case z_all => k_is)
    (case z_bool => k_is)
    (case z_int => k_is)
    (case z_isinstance => k_is)
    (case z_len => k_is)
    (case z_list => k_is)
    (case z_range => k_is)
    (case z_str => k_is)
    (case z_tuple => k_is)
    (case g_ACTING => k_is)
    (case g_EAGER => k_is)
    (case g_KINDS => k_is)
    (case g_LINES => k_is)
    (case g_LOOK => k_is)
    (case g_ROOM => k_is)
    (case g_SENDS => k_is)
    (case g_WIDTH => k_is)
    (case g_LOOK_WORDS => k_is)
    (case o_LOOK_WORDS => k_is)
    (case g_SENDS_WORDS => k_is)
    (case o_SENDS_WORDS => k_is)
#print axioms PySem.Challenge.cw_heldwrites_k02_rules_holds
