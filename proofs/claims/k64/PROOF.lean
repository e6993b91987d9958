import PyProof.Rows.All
import Wide.All
import OpenK.AllK
import Wide.FinOn
import PySem.Str
import PySem.Syntax
import HandS.ForMost
import HandS.Evl
import HandS.ForExc
import HandS.IsInst
import HandS.Style
import HandS.Flow
import HandS.TupAny
import HandS.Defaults
import PyProof.LongRange
import HandS.SortInts
import HandS.ExcIs
import HandS.TupMul
import PyProof.NeData
import HandS.Dict
import HandS.Star
import HandS.Conv
import HandS.More
import HandS.Steps
import HandS.Text
import HandS.MapSum
import KE.SortData
import HandS.SortRule
import KE.DataMinMax
import HandS.SortKw
import HandS.Iter
import HandS.Zip
import HandS.Exc
import HandS.Comp
import HandS.DictComp
import PyProof.DictUpdate
import HandS.Nested
import HandS.HeadHook2
import HandS.ExcInit
import HandS.FStr
import HandS.ExcField
import HandS.ExcSuper
import KE.KExcSuper
import KE.KSuper
import HandS.TryOnly
import HandS.RaiseMore
import HandS.HeadHook1
import KE.KStateDown
import HandS.Head0
import HandS.Head1
import HandS.Head2
import HandS.HeadEnd
import PySem.Challenge.RW_diesnon_k64_worlds_and_histories
set_option Elab.async false
section
set_option linter.all false
set_option autoImplicit false
namespace Mp
open PySem (Str)
/-! ### data, values, the small heap -/
inductive D where
  | non | bl (b : Bool) | int (i : Int) | str (s : Str)
  | lst (ds : List D) | tup (ds : List D) | dct (kvs : List (D × D)) | obj (c : Nat) (fs : List (Str × D)) | fn (f : Nat)
  deriving Inhabited
/-- an exception: its class, its one field -/
inductive Exn where
  | pl (c : Nat) | fld (c : Nat) (f : Str) (d : D)
def Exn.cls : Exn → Nat
  | .pl c => c
  | .fld c _ _ => c
inductive Val where
  | d (x : D) | ref (i : Nat) | clo (f : Nat) (caps : List Val) | exn (x : Exn)
instance : Inhabited Val := ⟨.d .non⟩
inductive Cell where
  | lst (vs : List Val) | dct (kvs : List (D × Val)) | obj (c : Nat) (fs : List (Str × Val)) | frz (d : D)
abbrev Heap := List Cell
abbrev Slots := List (Option Val)
inductive Res (α : Type) where
  | ok (a : α) (μ : Heap) | ex (x : Exn) (μ : Heap) | bad
def Res.bnd {α β : Type} : Res α → (α → Heap → Res β) → Res β
  | .ok a μ, f => f a μ
  | .ex x μ, _ => .ex x μ
  | .bad, _ => .bad
section
variable {α β γ : Type}
@[simp] theorem bnd_ok (a : α) (μ : Heap) (f : α → Heap → Res β) : (Res.ok a μ).bnd f = f a μ := rfl
@[simp] theorem bnd_ex (x : Exn) (μ : Heap) (f : α → Heap → Res β) : (Res.ex x μ : Res α).bnd f = .ex x μ := rfl
@[simp] theorem bnd_bad (f : α → Heap → Res β) : (Res.bad : Res α).bnd f = .bad := rfl
theorem bnd_assoc (r : Res α) (f : α → Heap → Res β) (g : β → Heap → Res γ) : (r.bnd f).bnd g = r.bnd fun a μ => (f a μ).bnd g := by cases r <;> rfl
/-- no exception may come -/
def Res.nox : Res α → Res α
  | .ok a μ => .ok a μ
  | _ => .bad
@[simp] theorem nox_ok (a : α) (μ : Heap) : (Res.ok a μ).nox = .ok a μ := rfl
@[simp] theorem nox_bad : (Res.bad : Res α).nox = .bad := rfl
@[simp] theorem nox_ex (x : Exn) (μ : Heap) : (Res.ex x μ : Res α).nox = .bad := rfl
/-- a value of an option, or stuck -/
def opt (o : Option α) (μ : Heap) : Res α := match o with
  | some a => .ok a μ
  | none => .bad
@[simp] theorem opt_some (a : α) (μ : Heap) : opt (some a) μ = .ok a μ := rfl
@[simp] theorem opt_none (μ : Heap) : (opt none μ : Res α) = .bad := rfl
/-- a condition, or stuck -/
def need (c : Bool) (r : Res α) : Res α := if c = true then r else .bad
theorem need_true (r : Res α) : need true r = r := rfl
theorem need_of {c : Bool} (h : c = true) (r : Res α) : need c r = r := if_pos h
/-- by an answer, if there is one -/
def tri (o : Option Bool) (a b : Res α) : Res α := match o with
  | some c => if c = true then a else b
  | none => .bad
theorem tri_some (c : Bool) (a b : Res α) : tri (some c) a b = if c = true then a else b := rfl
theorem ite_bnd (p : Prop) [Decidable p] (a b : Res α) (f : α → Heap → Res β) : (if p then a else b).bnd f = if p then a.bnd f else b.bnd f := by split <;> rfl
theorem ite_ok (p : Prop) [Decidable p] (a b : α) (μ : Heap) : (if p then Res.ok a μ else .ok b μ) = .ok (if p then a else b) μ := by split <;> rfl
def mapO (f : α → Option β) : List α → Option (List β)
  | [] => some []
  | a :: as => match f a with
    | some b => match mapO f as with
      | some bs => some (b :: bs)
      | none => none
    | none => none
end
def Slots.at (δ : Slots) (i : Nat) : Option Val := match δ[i]? with
  | some o => o
  | none => none
/-! ### data: equality, order, truth -/
mutual
def plain : D → Bool
  | .non | .bl _ | .int _ | .str _ => true
  | .lst ds => plains ds
  | .tup ds => plains ds
  | _ => false
def plains : List D → Bool
  | [] => true
  | d :: ds => plain d && plains ds
end
mutual
def depth : D → Nat
  | .lst ds => depths ds + 1
  | .tup ds => depths ds + 1
  | _ => 0
def depths : List D → Nat
  | [] => 0
  | d :: ds => Nat.max (depth d) (depths ds)
end
/-- what may stand beside == -/
def shp (d : D) : Bool := plain d && decide (depth d ≤ 62)
mutual
def eqv : D → D → Bool
  | .non, .non => true
  | .bl a, .bl b => a == b
  | .bl a, .int j => (if a then 1 else 0) == j
  | .int i, .bl b => i == (if b then 1 else 0)
  | .int i, .int j => i == j
  | .str x, .str y => x == y
  | .lst xs, .lst ys => eqvs xs ys
  | .tup xs, .tup ys => eqvs xs ys
  | _, _ => false
def eqvs : List D → List D → Bool
  | [], [] => true
  | x :: xs, y :: ys => eqv x y && eqvs xs ys
  | _, _ => false
end
mutual
/-- a < b of ints, texts, tuples of such -/
def ltD : D → D → Option Bool
  | .int i, .int j => some (decide (i < j))
  | .str x, .str y => some (decide (x.cps.toList < y.cps.toList))
  | .tup xs, .tup ys => ltDs xs ys
  | _, _ => none
def ltDs : List D → List D → Option Bool
  | [], [] => some false
  | [], _ :: _ => some true
  | _ :: _, [] => some false
  | x :: xs, y :: ys => if eqv x y then ltDs xs ys else ltD x y
end
mutual
/-- can be compared, place by place -/
def alk : D → D → Bool
  | .bl _, .bl _ => true
  | .int _, .int _ => true
  | .str _, .str _ => true
  | .non, .non => true
  | .tup xs, .tup ys => alks xs ys
  | _, _ => false
def alks : List D → List D → Bool
  | x :: xs, y :: ys => alk x y && alks xs ys
  | [], _ => true
  | _ :: _, [] => true
end
def flat : D → Bool
  | .non | .bl _ | .int _ | .str _ => true
  | _ => false
def isD : Val → Bool
  | .d _ => true
  | _ => false
/-! ### operators -/
inductive Bop where
  | add | sub | mul | fdiv | mod | pow | band
  deriving DecidableEq
inductive Cop where
  | eq | ne | lt | le | gt | ge | is | isn | in_ | nin
  deriving DecidableEq
/-- lengths of lists, tuples, texts -/
def small (n : Nat) : Bool := decide (n < 16777216)
def mulOk (i j : Int) : Bool := decide (-(2 ^ 64) < i ∧ i < 2 ^ 64) || decide (-(2 ^ 64) < j ∧ j < 2 ^ 64)
def divOk (j : Int) : Bool := decide (0 < j ∧ j < 1073741824)
def powOk (i j : Int) : Bool := decide (0 ≤ j ∧ j ≤ 1000000 ∧ i.natAbs < 2 ^ 64)
/-- tuple * int -/
def repOk (k : Int) (ds : List D) : Bool := decide (0 < k) && decide (k ≤ 1000) && decide (ds.length ≤ 1000) && !ds.isEmpty
/-- the items of what stands still: a list's, a tuple's -/
def items (μ : Heap) : Val → Option (List Val)
  | .d (.lst ds) => some (ds.map .d)
  | .d (.tup ds) => some (ds.map .d)
  | .ref i => match μ[i]? with
    | some (.lst vs) => some vs
    | some (.frz (.lst ds)) => some (ds.map .d)
    | _ => none
  | _ => none
/-- the pairs of a dict -/
def pairs (μ : Heap) : Val → Option (List (D × Val))
  | .d (.dct kvs) => some (kvs.map fun p => (p.1, .d p.2))
  | .ref i => match μ[i]? with
    | some (.dct kvs) => some kvs
    | some (.frz (.dct kvs)) => some (kvs.map fun p => (p.1, .d p.2))
    | _ => none
  | _ => none
/-- the pairs of a dict that doesn't change any more -/
def fpairs (μ : Heap) : Val → Option (List (D × D))
  | .d (.dct kvs) => some kvs
  | .ref i => match μ[i]? with
    | some (.frz (.dct kvs)) => some kvs
    | _ => none
  | _ => none
/-- what a value is now, as data -/
def snap (μ : Heap) : Nat → Val → Option D
  | 0, v => match v with
    | .d x => some x
    | _ => none
  | n + 1, v => match v with
    | .d x => some x
    | .ref i => match μ[i]? with
      | some (.lst vs) => match mapO (snap μ n) vs with
        | some ds => some (.lst ds)
        | none => none
      | some (.frz d) => some d
      | _ => none
    | _ => none
/-- what a value is, from now on as data that doesn't change -/
def freeze : Nat → Val → Heap → Option (D × Heap)
  | 0, v, μ => match v with
    | .d x => some (x, μ)
    | _ => none
  | n + 1, v, μ => match v with
    | .d x => some (x, μ)
    | .ref i => match μ[i]? with
      | some (.lst vs) => match freezes (freeze n) vs μ with
        | some (ds, μ') => match μ'[i]? with
          | some (.lst _) => some (.lst ds, μ'.set i (.frz (.lst ds)))
          | _ => none
        | none => none
      | some (.dct _) => none
      | some (.obj c fs) => match freezes (freeze n) (fs.map (·.2)) μ with
        | some (ds, μ') => match μ'[i]? with
          | some (.obj _ _) => some (.obj c ((fs.map (·.1)).zip ds), μ'.set i (.frz (.obj c ((fs.map (·.1)).zip ds))))
          | _ => none
        | none => none
      | some (.frz d) => some (d, μ)
      | none => none
    | _ => none
where
  freezes (f : Val → Heap → Option (D × Heap)) : List Val → Heap → Option (List D × Heap)
    | [], μ => some ([], μ)
    | v :: vs, μ => match f v μ with
      | some (d, μ1) => match freezes f vs μ1 with
        | some (ds, μ2) => some (d :: ds, μ2)
        | none => none
      | none => none
def truth (μ : Heap) : Val → Option Bool
  | .d .non => some false
  | .d (.bl b) => some b
  | .d (.int i) => some (i != 0)
  | .d (.str s) => if small s.length then some (decide (s.length ≠ 0)) else none
  | .d (.lst ds) => some (!ds.isEmpty)
  | .d (.tup ds) => some (!ds.isEmpty)
  | .ref i => match μ[i]? with
    | some (.lst vs) => some (!vs.isEmpty)
    | some (.frz (.lst ds)) => some (!ds.isEmpty)
    | _ => none
  | _ => none
/-- i seen as an index of n items -/
def ixN (n : Nat) (i : Int) : Option Nat := if 0 ≤ i then (if i < n then some i.toNat else none) else if -(n : Int) ≤ i then some (i + n).toNat else none
def atI {α : Type} (xs : List α) (i : Int) : Option α := match ixN xs.length i with
  | some j => xs[j]?
  | none => none
/-- one bound of a slice -/
def sIx (n dflt : Nat) : Option Int → Nat
  | none => dflt
  | some i => if i < 0 then (i + n).toNat else min i.toNat n
def cutG {α : Type} (xs : List α) (lo hi : Option Int) : List α := (xs.drop (sIx xs.length 0 lo)).take (sIx xs.length xs.length hi - sIx xs.length 0 lo)
def binop (op : Bop) (x y : Val) (μ : Heap) : Res Val := match op, x, y with
  | .add, .d (.int i), .d (.int j) => .ok (.d (.int (i + j))) μ
  | .add, .d (.str a), .d (.str b) => need (small (a.length + b.length)) (.ok (.d (.str (a ++ b))) μ)
  | .add, .d (.tup a), .d (.tup b) => need (small (a.length + b.length)) (.ok (.d (.tup (a ++ b))) μ)
  | .add, _, _ => .bad
  | .sub, .d (.int i), .d (.int j) => .ok (.d (.int (i - j))) μ
  | .mul, .d (.int i), .d (.int j) => need (mulOk i j) (.ok (.d (.int (i * j))) μ)
  | .mul, .d (.tup ds), .d (.int k) => need (repOk k ds) (.ok (.d (.tup (List.replicate k.toNat ds).flatten)) μ)
  | .fdiv, .d (.int i), .d (.int j) => need (divOk j) (.ok (.d (.int (i / j))) μ)
  | .mod, .d (.int i), .d (.int j) => need (decide (0 < j)) (.ok (.d (.int (i % j))) μ)
  | .pow, .d (.int i), .d (.int j) => need (powOk i j) (.ok (.d (.int (i ^ j.toNat))) μ)
  | _, _, _ => .bad
def isL (μ : Heap) : Val → Bool
  | .d (.lst _) => true
  | .ref i => match μ[i]? with
    | some (.lst _) => true
    | some (.frz (.lst _)) => true
    | _ => false
  | _ => false
/-- list + list, list * int: the items of a new list -/
def lstop (op : Bop) (x y : Val) (μ : Heap) : Option (List Val) := match op, y with
  | .add, _ => match items μ x, items μ y with
    | some a, some b => if isL μ y && small (a.length + b.length) then some (a ++ b) else none
    | _, _ => none
  | .mul, .d (.int k) => match items μ x with
    | some a => if small (a.length * k.toNat) && decide (k < 2 ^ 62) && decide (-(2 ^ 62) < k) then some ((List.replicate k.toNat a).flatten) else none
    | none => none
  | _, _ => none
def lookD {α : Type} (k : D) : List (D × α) → Option α
  | [] => none
  | (j, v) :: r => if eqv j k then some v else lookD k r
def putD {α : Type} (k : D) (v : α) : List (D × α) → List (D × α)
  | [] => [(k, v)]
  | (j, w) :: r => if eqv j k then (j, v) :: r else (j, w) :: putD k v r
/-- what may be a key: int, text, tuples of such -/
def isKey : D → Bool
  | .int _ | .str _ => true
  | .tup ds => ds.all fun d => match d with
    | .int _ | .str _ => true
    | _ => false
  | _ => false
def isKey0 : D → Bool
  | .int _ | .str _ => true
  | _ => false
def isDct (μ : Heap) : Val → Bool
  | .d (.dct _) => true
  | .ref i => match μ[i]? with
    | some (.dct _) => true
    | some (.frz (.dct _)) => true
    | _ => false
  | _ => false
/-- x in y -/
def inop (x y : Val) (μ : Heap) : Option Bool := match x, y with
  | .d (.str a), .d (.str b) => match a.cps.toList with
    | [c] => some (decide (c ∈ b.cps.toList))
    | _ => none
  | .d a, y => match items μ y with
      | some vs => match mapO (snap μ 0) vs with
        | some ds => if shp a && plains ds then some (ds.any fun d => eqv d a) else none
        | none => none
      | none => match pairs μ y with
        | some kvs => if isKey0 a then some (lookD a kvs).isSome else none
        | none => none
  | _, _ => none
def cmpop (op : Cop) (x y : Val) (μ : Heap) : Option Bool := match op with
  | .eq => match snap μ 8 x, snap μ 8 y with
    | some a, some b => if shp a && shp b then some (eqv a b) else none
    | _, _ => none
  | .ne => match snap μ 8 x, snap μ 8 y with
    | some a, some b => if shp a && shp b then some (!eqv a b) else none
    | _, _ => none
  | .lt => match x, y with
    | .d (.int i), .d (.int j) => some (decide (i < j))
    | _, _ => none
  | .le => match x, y with
    | .d (.int i), .d (.int j) => some (decide (i ≤ j))
    | _, _ => none
  | .gt => match x, y with
    | .d (.int i), .d (.int j) => some (decide (j < i))
    | _, _ => none
  | .ge => match x, y with
    | .d (.int i), .d (.int j) => some (decide (j ≤ i))
    | _, _ => none
  | .is => match x, y with
    | .d (.bl a), .d (.bl b) => some (decide (a = b))
    | .d .non, .d .non => some true
    | .d _, .d .non => some false
    | .ref _, .d .non => some false
    | _, _ => none
  | .isn => match x, y with
    | .d (.bl a), .d (.bl b) => some (!decide (a = b))
    | .d .non, .d .non => some false
    | .d _, .d .non => some true
    | .ref _, .d .non => some true
    | _, _ => none
  | .in_ => inop x y μ
  | .nin => match inop x y μ with
    | some b => some (!b)
    | none => none
end Mp
end
section
set_option linter.all false
set_option autoImplicit false
namespace Mp
open PySem (Str)
/-! ### programs -/
inductive Ty where
  | non | bl | int | str | lst | tup | dct
  deriving DecidableEq
/-- built-ins that are called -/
inductive Blt where
  | len | abs | int | str | tuple | list | dict | sum | min1 | max1 | min2 | max2 | maxd | all | any | sorted | sortedR | sortedS | lenS
  | isi (ts : List Ty) | isx (cs : List Nat) | listRev | listZip | listRng1 | listRng2 | repr
/-- methods of built-in types -/
inductive Bme where
  | append | extend | pop0 | popAt | insert | remove | index | get1 | get2 | setdefault | update | join | split | partition | replace | replace3 | startswith | rfind | upper | reverse | items | keys | values
  deriving DecidableEq
mutual
inductive E where
  | non | bl (b : Bool) | int (i : Int) | str (s : Str)
  | var (i : Nat) | frz (e : E) | frzD (e : E) | glb (g : Nat) | fnv (f : Nat)
  | bin (op : Bop) (a b : E) | binL (w : Bool) (op : Bop) (a b : E) | neg (a : E) | not (a : E) | and (a b : E) | or (a b : E)
  | cmp (op : Cop) (a b : E) | chn (o1 o2 : Cop) (a b c : E) | ife (c : Tt) (a b : E)
  | idx (a i : E) | slc (w : Bool) (a : E) (lo hi : EO) | bck (w : Bool) (a : E) | att (a : E) (f : Str)
  | tup (es : Es) | lst (w : Bool) (es : Es) | dsp (w : Bool) (kvs : Es)
  | cal (f : Nat) (es : Es) | cai (f : Nat) (es : Es) | cac (f : Nat) (es : Es) | cav (i : Nat) (es : Es)
  | sup (f : Nat) (es : Es) | met (m : Str) (o : E) (es : Es) | mk (c : Nat) (es : Es)
  | blt (b : Blt) (w : Bool) (es : Es) | srtK (f : Nat) (w : Bool) (e : E)
  | bme (m : Bme) (w : Bool) (o : E) (es : Es)
  | lc (w : Bool) (t : Tg) (it : It) (c : TO) (e : E)
  | lcE (w : Bool) (t : Tg) (it : It) (c : TO) (e : E)
  | lcc (w : Bool) (t : Tg) (it : It) (t2 : Tg) (it2 : It) (c : TO) (e : E)
  | dc (w : Bool) (t : Tg) (it : It) (c : TO) (k v : E)
  | lam (f : Nat) (caps : List Nat) | fst (es : Es) | xat (i : Nat) (f : Str)
inductive Es where
  | nil | cons (e : E) (es : Es) | star (e : E) (es : Es)
inductive EO where
  | no | so (e : E)
inductive Tt where
  | val (e : E) | and (a b : Tt) | or (a b : Tt) | not (a : Tt) | ife (c a b : Tt)
inductive TO where
  | no | so (e : Tt)
inductive It where
  | val (e : E) | rng1 (a : E) | rng2 (a b : E) | rng3 (a b c : E) | enm (e : E) | enmFrom (e : E) (k : Int) | zip (a b : E) | rev (e : E)
  | keys (e : E) | vals (e : E) | itms (e : E)
inductive Tg where
  | nm (i : Nat) | tp (ts : Tgs) | sub (o i : E) | slc (o : E) (lo hi : EO) | att (o : E) (f : Str)
inductive Tgs where
  | nil | cons (t : Tg) (ts : Tgs)
end
instance : Inhabited E := ⟨.non⟩
mutual
inductive S where
  | asg (t : Tg) (e : E) | asg2 (t u : Tg) (e : E) | aug (t : Tg) (op : Bop) (e : E) | augL (i : Nat) (e : E)
  | expr (e : E) | ret (e : E) | retN
  | ife (c : Tt) (a b : Ss) | for_ (gc : Bool) (t : Tg) (it : It) (b : Ss) | whl (gc : Bool) (c : Tt) (b : Ss)
  | raise (c : Nat) (es : Es) | raiseH (c : Nat) (es : Es) | try_ (b : Ss) (hs : Hs)
  | pass | brk | cont | ndef (i : Nat) (f : Nat) (caps : List Nat)
inductive Ss where
  | nil | cons (s : S) (ss : Ss) | kill (is : List Nat) (ss : Ss)
inductive Hs where
  | nil | cons (cs : List Nat) (as_ : Option Nat) (b : Ss) (hs : Hs)
end
instance : Inhabited Ss := ⟨.nil⟩
inductive ExK where
  | no | pl | fld (f : Str)
structure Fn where
  npar : Nat
  nslot : Nat
  body : Ss
structure Tbl where
  fn : Nat → Option Fn
  gl : Nat → Option D
  meth : Nat → Str → Option Nat
  init : Nat → Option Nat
  anc : Nat → List Nat
  exk : Nat → ExK
/-- a table by lists -/
def Tbl.of (fns : List Fn) (gls : List D) (meths : List (Nat × Str × Nat)) (inits : List (Nat × Nat)) (anc : List (Nat × List Nat)) (exf : List (Nat × Str)) (xs : List Nat) : Tbl where
  fn := fun f => fns[f]?
  gl := fun g => gls[g]?
  meth := fun k m => (meths.find? fun q => q.1 == k && q.2.1 == m).map (·.2.2)
  init := fun k => inits.lookup k
  anc := fun k => (anc.lookup k).getD []
  exk := fun k => match exf.lookup k with
    | some f => .fld f
    | none => if xs.contains k then .pl else .no
def Tbl.sub (T : Tbl) (c c' : Nat) : Bool := c == c' || (T.anc c).contains c'
/-! ### built-ins on values -/
def tyOf (μ : Heap) : Val → Option Ty
  | .d .non => some .non
  | .d (.bl _) => some .bl
  | .d (.int _) => some .int
  | .d (.str _) => some .str
  | .d (.lst _) => some .lst
  | .d (.tup _) => some .tup
  | .ref i => match μ[i]? with
    | some (.lst _) => some .lst
    | some (.frz (.lst _)) => some .lst
    | _ => none
  | _ => none
def isTy : Ty → Ty → Bool
  | .bl, .int => true
  | a, b => a == b
def intL (ds : List D) : Option (List Int) := mapO (fun d => match d with
  | .int i => some i
  | _ => none) ds
def boolL (ds : List D) : Option (List Bool) := mapO (fun d => match d with
  | .bl i => some i
  | _ => none) ds
def strL (ds : List D) : Option (List Str) := mapO (fun d => match d with
  | .str i => some i
  | _ => none) ds
def itemsD (μ : Heap) (v : Val) : Option (List D) := match items μ v with
  | some vs => mapO (snap μ 0) vs
  | none => none
def maxL : List Int → Option Int
  | [] => none
  | a :: r => some (r.foldl (fun m x => if x > m then x else m) a)
def minL : List Int → Option Int
  | [] => none
  | a :: r => some (r.foldl (fun m x => if x < m then x else m) a)
/-- stable insertion by <, of comparable things -/
def insD (lt : D → D → Bool) (x : D) : List D → List D
  | [] => [x]
  | y :: r => if lt x y then x :: y :: r else y :: insD lt x r
def sortD (lt : D → D → Bool) (ds : List D) : List D := ds.foldl (fun acc x => insD lt x acc) []
def dedup (ds : List D) : List D := ds.foldl (fun acc x => if acc.any fun d => eqv d x then acc else acc ++ [x]) []
/-- all pairs can be compared -/
def cmpAll (ds : List D) : Bool := ds.all fun a => ds.all fun b => (ltD a b).isSome
def ltB (a b : D) : Bool := (ltD a b).getD false
def leB (a b : D) : Bool := !ltB b a
/-- tuples that sorted takes -/
def sortOk (ds : List D) : Bool := (ds.all fun d => match d with
  | .tup (_ :: _) => true
  | _ => false) && (plains ds && (cmpAll ds && ((ds.all fun a => ds.all fun b => alk a b) && ds.all fun d => decide (depth d ≤ 60))))
def strOf : D → Option Str
  | .int i => if i.natAbs.log2 < 1920 then some (Str.ofString (toString i)) else none
  | .str s => some s
  | _ => none
/-- a built-in that hands back data -/
def bltD (T : Tbl) (b : Blt) (vs : List Val) (μ : Heap) : Option D := match b, vs with
  | .len, [v] => match v with
    | .d (.str s) => if small s.length then some (.int s.length) else none
    | v => match items μ v with
      | some xs => some (.int xs.length)
      | none => none
  | .abs, [.d (.int i)] => some (.int (if i < 0 then -i else i))
  | .int, [.d (.int i)] => some (.int i)
  | .int, [.d (.bl b)] => some (.int (if b then 1 else 0))
  | .str, [.d (.int i)] => if i.natAbs.log2 < 1920 then some (.str (Str.ofString (toString i))) else none
  | .tuple, [v] => match itemsD μ v with
    | some ds => some (.tup ds)
    | none => none
  | .sum, [v] => match itemsD μ v with
    | some ds => if isL μ v then (match intL ds with
      | some ns => some (.int ns.sum)
      | none => none) else none
    | none => none
  | .min1, [v] => match itemsD μ v with
    | some ds => if isL μ v then (match intL ds with
      | some ns => (minL ns).map .int
      | none => none) else none
    | none => none
  | .max1, [v] => match itemsD μ v with
    | some ds => if isL μ v then (match intL ds with
      | some ns => (maxL ns).map .int
      | none => none) else none
    | none => none
  | .maxd, [v, .d (.int k)] => match itemsD μ v with
    | some ds => if isL μ v then (match intL ds with
      | some ns => some (.int ((maxL ns).getD k))
      | none => none) else none
    | none => none
  | .min2, [.d (.int i), .d (.int j)] => some (.int (if j < i then j else i))
  | .max2, [.d (.int i), .d (.int j)] => some (.int (if j > i then j else i))
  | .all, [v] => match itemsD μ v with
    | some ds => if isL μ v then (match boolL ds with
      | some ns => some (.bl (ns.all id))
      | none => none) else none
    | none => none
  | .any, [v] => match itemsD μ v with
    | some ds => if isL μ v then (match boolL ds with
      | some ns => some (.bl (ns.any id))
      | none => none) else none
    | none => none
  | .lenS, [v] => match itemsD μ v with
    | some ds => if ds.all isKey then some (.int (dedup ds).length) else none
    | none => none
  | .isi ts, [v] => match tyOf μ v with
    | some t => some (.bl (ts.any fun u => isTy t u))
    | none => none
  | .isx cs, [v] => match v with
    | .exn x => some (.bl (cs.any fun c => T.sub x.cls c))
    | _ => none
  | _, _ => none
/-- a built-in that hands back a new list: its items -/
def bltL (b : Blt) (vs : List Val) (μ : Heap) : Option (List Val) := match b, vs with
  | .list, [v] => items μ v
  | .sorted, [v] => match itemsD μ v with
    | some ds => if isL μ v && (intL ds).isSome then some ((sortD ltB ds).map .d) else if isL μ v && sortOk ds then some ((ds.mergeSort leB).map .d) else if isL μ v && (strL ds).isSome && decide (ds.length < 64) then some ((ds.mergeSort leB).map .d) else if (!isL μ v) && (strL ds).isSome && decide (ds.length < 64) then some ((ds.mergeSort leB).map .d) else none
    | none => match pairs μ v with
      | some kvs => if (strL (kvs.map (·.1))).isSome && decide (kvs.length < 64) then some (((kvs.map (·.1)).mergeSort leB).map .d) else none
      | none => none
  | .sortedR, [v] => match itemsD μ v with
    | some ds => if cmpAll ds then some ((sortD (fun a b => ltB b a) ds).map .d) else none
    | none => none
  | .sortedS, [v] => match itemsD μ v with
    | some ds => if ds.all isKey && cmpAll ds then some ((sortD ltB (dedup ds)).map .d) else none
    | none => none
  | .listRev, [v] => match items μ v with
    | some vs => some vs.reverse
    | none => none
  | .listZip, [v, w] => match itemsD μ v, itemsD μ w with
    | some a, some b => some ((a.zip b).map fun p => .d (.tup [p.1, p.2]))
    | _, _ => none
  | .listRng1, [.d (.int n)] => if decide (n < 16777216) then some ((List.range n.toNat).map fun (k : Nat) => .d (.int k)) else none
  | .listRng2, [.d (.int a), .d (.int n)] => if decide (n - a < 16777216) then some ((List.range (n - a).toNat).map fun (k : Nat) => .d (.int (a + k))) else none
  | _, _ => none
/-- what may stand in a cell -/
def simple : Val → Bool
  | .d _ | .ref _ => true
  | _ => false
/-- a new list: data that doesn't change, or a cell of its own -/
def newL (w : Bool) (vs : List Val) (μ : Heap) : Res Val := need (small vs.length) (match w with
  | true => need (vs.all simple) (.ok (.ref μ.length) (μ ++ [.lst vs]))
  | false => match mapO (snap μ 0) vs with
    | some ds => .ok (.d (.lst ds)) μ
    | none => .bad)
def newD (w : Bool) (kvs : List (D × Val)) (μ : Heap) : Res Val := need (small kvs.length && kvs.all fun p => isKey0 p.1) (match w with
  | true => need ((kvs.map (·.2)).all simple) (.ok (.ref μ.length) (μ ++ [.dct kvs]))
  | false => match mapO (snap μ 0) (kvs.map (·.2)) with
    | some ds => .ok (.d (.dct ((kvs.map (·.1)).zip ds))) μ
    | none => .bad)
/-- dict(d), a copy -/
def bltK (b : Blt) (vs : List Val) (μ : Heap) : Option (List (D × Val)) := match b, vs with
  | .dict, [v] => pairs μ v
  | _, _ => none
def binV (op : Bop) (x y : Val) (μ : Heap) : Res Val := match x, y with
  | .d (.int _), .d (.int _) => binop op x y μ
  | .d (.str _), .d (.str _) => binop op x y μ
  | .d (.tup _), .d (.tup _) => binop op x y μ
  | .d (.tup _), .d (.int _) => binop op x y μ
  | x, y => match lstop op x y μ with
    | some vs => need (isL μ x) (newL false vs μ)
    | none => .bad
/-- a tuple of data -/
def tupV (vs : List Val) (μ : Heap) : Res Val := need (small vs.length) (match mapO (snap μ 0) vs with
  | some ds => .ok (.d (.tup ds)) μ
  | none => .bad)
def idxV (x i : Val) (μ : Heap) : Res Val := match x with
  | .d (.str s) => match i with
    | .d (.int k) => need (small s.length) (match atI s.cps.toList k with
      | some c => .ok (.d (.str ⟨#[c]⟩)) μ
      | none => .bad)
    | _ => .bad
  | x => match i, items μ x with
      | .d (.int k), some vs => opt (atI vs k) μ
      | .d k, none => match pairs μ x with
        | some kvs => need (isKey0 k) (opt (lookD k kvs) μ)
        | none => .bad
      | _, _ => .bad
def attV (x : Val) (f : Str) (μ : Heap) : Res Val := match x with
  | .d (.obj _ fs) => opt ((fs.lookup f).map .d) μ
  | .ref i => match μ[i]? with
    | some (.obj _ fs) => opt (fs.lookup f) μ
    | some (.frz (.obj _ fs)) => opt ((fs.lookup f).map .d) μ
    | _ => .bad
  | _ => .bad
def setF (f : Str) (v : Val) : List (Str × Val) → List (Str × Val)
  | [] => [(f, v)]
  | (g, w) :: r => if g = f then (g, v) :: r else (g, w) :: setF f v r
/-- o.f = v -/
def setAtt (x : Val) (f : Str) (v : Val) (μ : Heap) : Res Unit := match x with
  | .ref i => match μ[i]? with
    | some (.obj c fs) => need (decide (fs.length < 900) && simple v) (.ok () (μ.set i (.obj c (setF f v fs))))
    | _ => .bad
  | _ => .bad
/-- keys of a dict, text or int alone -/
def keys0 (kvs : List (D × Val)) : Bool := kvs.all fun p => isKey0 p.1
/-- o[i] = v -/
def setSub (x i v : Val) (μ : Heap) : Res Unit := match x with
  | .ref a => match μ[a]? with
    | some (.lst vs) => match i with
      | .d (.int k) => match ixN vs.length k with
        | some j => need (simple v) (.ok () (μ.set a (.lst (vs.set j v))))
        | none => .bad
      | _ => .bad
    | some (.dct kvs) => match i with
      | .d k => need (isKey0 k && small (kvs.length + 1) && simple v) (.ok () (μ.set a (.dct (putD k v kvs))))
      | _ => .bad
    | _ => .bad
  | _ => .bad
/-- o[lo:hi] = v, 0 ≤ lo ≤ hi ≤ the length -/
def setSl (x : Val) (lo hi : Option Int) (v : Val) (μ : Heap) : Res Unit := match x with
  | .ref a => match μ[a]?, items μ v with
    | some (.lst vs), some ws => need (isL μ v && small (vs.length + ws.length) && decide (sIx vs.length 0 lo ≤ sIx vs.length vs.length hi))
      (.ok () (μ.set a (.lst (vs.take (sIx vs.length 0 lo) ++ (ws ++ vs.drop (sIx vs.length vs.length hi))))))
    | _, _ => .bad
  | _ => .bad
def sameRef (a : Nat) : Val → Bool
  | .ref j => decide (j = a)
  | _ => false
/-- a method of a built-in type that hands back what is not a new list -/
def bmeV (m : Bme) (o : Val) (vs : List Val) (μ : Heap) : Res Val := match m, o, vs with
  | .append, .ref a, [v] => match μ[a]? with
    | some (.lst xs) => need (small (xs.length + 1) && simple v) (.ok (.d .non) (μ.set a (.lst (xs ++ [v]))))
    | _ => .bad
  | .extend, .ref a, [v] => match μ[a]?, items μ v with
    | some (.lst xs), some ys => need (small (xs.length + ys.length)) (.ok (.d .non) (μ.set a (.lst (xs ++ ys))))
    | _, _ => .bad
  | .pop0, .ref a, [] => match μ[a]? with
    | some (.lst xs) => match xs.getLast? with
      | some v => .ok v (μ.set a (.lst xs.dropLast))
      | none => .bad
    | _ => .bad
  | .get1, o, [.d k] => match pairs μ o with
    | some kvs => need (isKey0 k) (.ok ((lookD k kvs).getD (.d .non)) μ)
    | none => .bad
  | .get2, o, [.d k, v] => match pairs μ o with
    | some kvs => need (isKey0 k) (.ok ((lookD k kvs).getD v) μ)
    | none => .bad
  | .setdefault, .ref a, [.d k, v] => match μ[a]? with
    | some (.dct kvs) => need (isKey0 k && small (kvs.length + 1) && simple v) (match lookD k kvs with
      | some w => .ok w μ
      | none => .ok v (μ.set a (.dct (putD k v kvs))))
    | _ => .bad
  | .update, .ref a, [v] => match μ[a]?, pairs μ v with
    | some (.dct kvs), some us => need (small (kvs.length + us.length) && (!sameRef a v && (us.map (·.2)).all simple)) (.ok (.d .non) (μ.set a (.dct (us.foldl (fun acc p => putD p.1 p.2 acc) kvs))))
    | _, _ => .bad
  | .remove, .ref a, [.d x] => match μ[a]? with
    | some (.lst xs) => match mapO (snap μ 0) xs with
      | some ds => need (shp x && plains ds && ds.any fun d => eqv d x) (.ok (.d .non) (μ.set a (.lst ((ds.eraseP fun d => eqv d x).map .d))))
      | none => .bad
    | _ => .bad
  | .insert, .ref a, [.d (.int k), v] => match μ[a]? with
    | some (.lst xs) => need (small (xs.length + 1) && decide (0 ≤ k ∧ k < 2 ^ 62) && simple v) (.ok (.d .non) (μ.set a (.lst (xs.take k.toNat ++ v :: xs.drop k.toNat))))
    | _ => .bad
  | _, _, _ => .bad
/-- a dict of one's own -/
def isDctO (μ : Heap) : Val → Bool
  | .ref i => match μ[i]? with
    | some (.dct _) => true
    | _ => false
  | _ => false
/-- the type whose method is meant -/
def bmeTy (m : Bme) (μ : Heap) (v : Val) : Bool := match m with
  | .append | .extend | .pop0 | .popAt | .insert | .remove | .index | .reverse => isL μ v
  | .get1 | .get2 | .items | .keys | .values => isDct μ v
  | .setdefault | .update => isDctO μ v
  | .join | .split | .partition | .replace | .replace3 | .startswith | .rfind | .upper => match v with
    | .d (.str _) => true
    | _ => false
end Mp
end
section
set_option linter.all false
set_option autoImplicit false
namespace Mp
open PySem (Str)
abbrev Run := Nat → List Val → Heap → Res Val
/-- a call that sees data alone: what is passed as it stands now, what comes back is data -/
def pureCall (R : Run) (f : Nat) (vs : List Val) (μ : Heap) : Res Val := match mapO (snap μ 8) vs with
  | some ds => match R f (ds.map .d) [] with
    | .ok (.d r) _ => need (vs.all isD || flat r) (.ok (.d r) μ)
    | .ex (.pl c) _ => .ex (.pl c) μ
    | .ex (.fld c g d) _ => need (vs.all isD || flat d) (.ex (.fld c g d) μ)
    | _ => .bad
  | none => .bad
/-- a call of a value -/
def valCall (R : Run) (v : Val) (vs : List Val) (μ : Heap) : Res Val := match v with
  | .d (.fn f) => R f vs μ
  | .clo f caps => R f (vs ++ caps) μ
  | _ => .bad
/-- the def that a method's name means -/
def metF (T : Tbl) (m : Str) (o : Val) (μ : Heap) : Option Nat := match o with
  | .ref i => match μ[i]? with
    | some (.obj c fs) => if (fs.lookup m).isNone = true then T.meth c m else none
    | _ => none
  | _ => none
def mkCall (T : Tbl) (R1 : Run) (c : Nat) (vs : List Val) (μ : Heap) : Res Val := match T.init c with
  | some f => need (vs.all simple) <| match R1 f (.ref μ.length :: vs) (μ ++ [.obj c []]) with
    | .ok (.d .non) μ' => .ok (.ref μ.length) μ'
    | .ex x μ' => .ex x μ'
    | _ => .bad
  | none => .bad
/-- what a loop, a comprehension goes over: items; what must stay as it is -/
abbrev Walk := List Val × List (Nat × Cell)
def guardOk : List (Nat × Cell) → Heap → Prop
  | [], _ => True
  | (i, c) :: g, μ => μ[i]? = some c ∧ guardOk g μ
def seqWalk (v : Val) (μ : Heap) : Res Walk := match v with
  | .ref i => match μ[i]? with
    | some (.lst vs) => .ok (vs, [(i, .lst vs)]) μ
    | some (.frz (.lst ds)) => .ok (ds.map .d, []) μ
    | _ => .bad
  | v => match items μ v with
    | some vs => .ok (vs, []) μ
    | none => .bad
/-- .. a text's signs, too -/
def seqWalkS (v : Val) (μ : Heap) : Res Walk := match v with
  | .d (.str s) => .ok (s.cps.toList.map fun c => .d (.str ⟨#[c]⟩), []) μ
  | v => seqWalk v μ
def dctGuard (v : Val) (μ : Heap) : List (Nat × Cell) := match v with
  | .ref i => match μ[i]? with
    | some (.dct kvs) => [(i, .dct kvs)]
    | _ => []
  | _ => []
def rngVals (lo : Int) (n : Nat) : List Val := (List.range n).map fun (k : Nat) => .d (.int (lo + k))
def rngVals3 (lo c : Int) (n : Nat) : List Val := (List.range n).map fun (k : Nat) => .d (.int (lo + k * c))
/-- how many turns range(i, j, c) has -/
def rngN (i j c : Int) : Nat := if 0 < c then ((j - i + c - 1) / c).toNat else ((i - j + (-c) - 1) / (-c)).toNat
open Classical in
/-- the turns of a comprehension: what they make -/
noncomputable def collect {β : Type} (g : List (Nat × Cell)) (step : Val → Heap → Res (List β)) : List Val → Heap → Res (List β)
  | [], μ => if guardOk g μ then .ok [] μ else .bad
  | v :: vs, μ => if guardOk g μ then (step v μ).bnd fun a μ1 => (collect g step vs μ1).bnd fun b μ2 => .ok (a ++ b) μ2 else .bad
def pairUp : List Val → Option (List (D × Val))
  | [] => some []
  | .d k :: v :: r => match pairUp r with
    | some ps => some ((k, v) :: ps)
    | none => none
  | _ => none
mutual
def tgSlots : Tg → List Nat
  | .nm i => [i]
  | .tp ts => tgsSlots ts
  | _ => []
termination_by structural x => x
def tgsSlots : Tgs → List Nat
  | .nil => []
  | .cons t ts => tgSlots t ++ tgsSlots ts
termination_by structural x => x
end
def tgsLen : Tgs → Nat
  | .nil => 0
  | .cons _ ts => tgsLen ts + 1
def killS (is : List Nat) (δ : Slots) : Slots := is.foldl (fun δ i => δ.set i none) δ
section
variable (T : Tbl) (R R1 : Run)
mutual
noncomputable def ev : E → Slots → Heap → Res Val
  | .non, _, μ => .ok (.d .non) μ
  | .bl b, _, μ => .ok (.d (.bl b)) μ
  | .int i, _, μ => .ok (.d (.int i)) μ
  | .str s, _, μ => .ok (.d (.str s)) μ
  | .var i, δ, μ => opt (δ.at i) μ
  | .frz e, δ, μ => (ev e δ μ).bnd fun v μ => match freeze 8 v μ with
    | some (d, μ') => .ok (.d d) μ'
    | none => .bad
  | .frzD e, δ, μ => (ev e δ μ).bnd fun v μ => match v with
    | .ref i => match μ[i]? with
      | some (.dct kvs) => match mapO (snap μ 0) (kvs.map (·.2)) with
        | some ds => .ok (.d (.dct ((kvs.map (·.1)).zip ds))) (μ.set i (.frz (.dct ((kvs.map (·.1)).zip ds))))
        | none => .bad
      | _ => .bad
    | _ => .bad
  | .glb g, _, μ => opt ((T.gl g).map .d) μ
  | .fnv f, _, μ => .ok (.d (.fn f)) μ
  | .bin op a b, δ, μ => (ev a δ μ).bnd fun x μ => (ev b δ μ).bnd fun y μ => binV op x y μ
  | .binL w op a b, δ, μ => (ev a δ μ).bnd fun x μ => (ev b δ μ).bnd fun y μ => match lstop op x y μ with
    | some vs => need (isL μ x) (newL w vs μ)
    | none => .bad
  | .neg a, δ, μ => (ev a δ μ).bnd fun x μ => match x with
    | .d (.int i) => .ok (.d (.int (-i))) μ
    | _ => .bad
  | .not a, δ, μ => (ev a δ μ).bnd fun x μ => (opt (truth μ x) μ).bnd fun b μ => .ok (.d (.bl (!b))) μ
  | .and a b, δ, μ => (ev a δ μ).bnd fun x μ => tri (truth μ x) (ev b δ μ) (.ok x μ)
  | .or a b, δ, μ => (ev a δ μ).bnd fun x μ => tri (truth μ x) (.ok x μ) (ev b δ μ)
  | .cmp op a b, δ, μ => (ev a δ μ).bnd fun x μ => (ev b δ μ).bnd fun y μ => (opt (cmpop op x y μ) μ).bnd fun r μ => .ok (.d (.bl r)) μ
  | .chn o1 o2 a b c, δ, μ => (ev a δ μ).bnd fun x μ => (ev b δ μ).bnd fun y μ => tri (cmpop o1 x y μ) ((ev c δ μ).bnd fun z μ => (opt (cmpop o2 y z μ) μ).bnd fun r μ => .ok (.d (.bl r)) μ) (.ok (.d (.bl false)) μ)
  | .ife c a b, δ, μ => (evt c δ μ).bnd fun r μ => if r = true then ev a δ μ else ev b δ μ
  | .idx a i, δ, μ => (ev a δ μ).bnd fun x μ => (ev i δ μ).bnd fun y μ => idxV x y μ
  | .slc w a lo hi, δ, μ => (ev a δ μ).bnd fun x μ => (evo lo δ μ).bnd fun l μ => (evo hi δ μ).bnd fun h μ => match x with
    | .d (.tup ds) => .ok (.d (.tup (cutG ds l h))) μ
    | .d (.str s) => need (small s.length) (.ok (.d (.str ⟨(cutG s.cps.toList l h).toArray⟩)) μ)
    | x => match items μ x with
      | some vs => newL w (cutG vs l h) μ
      | none => .bad
  | .bck w a, δ, μ => (ev a δ μ).bnd fun x μ => match items μ x with
    | some vs => need (isL μ x) (newL w vs.reverse μ)
    | none => .bad
  | .att a f, δ, μ => (ev a δ μ).bnd fun x μ => attV x f μ
  | .tup es, δ, μ => (evs es δ μ).bnd tupV
  | .lst w es, δ, μ => (evs es δ μ).bnd (newL w)
  | .dsp w kvs, δ, μ => (evs kvs δ μ).nox.bnd fun a μ => match pairUp a with
    | some ps => need (ps.all fun p => isKey0 p.1) (newD w (ps.foldl (fun acc p => putD p.1 p.2 acc) []) μ)
    | none => .bad
  | .cal f es, δ, μ => (evs es δ μ).bnd (pureCall R f)
  | .cai f es, δ, μ => (evs es δ μ).bnd fun vs μ => need (vs.all simple) (R f vs μ)
  | .cac f es, δ, μ => (evs es δ μ).bnd (R f)
  | .cav i es, δ, μ => (evs es δ μ).bnd fun vs μ => match δ.at i with
    | some v => valCall R v vs μ
    | none => .bad
  | .sup f es, δ, μ => (evs es δ μ).bnd fun vs μ => match δ.at 0 with
    | some o => need (simple o && vs.all simple) (R f (o :: vs) μ)
    | none => .bad
  | .met m o es, δ, μ => (ev o δ μ).bnd fun x μ => match metF T m x μ with
    | some f => (evs es δ μ).bnd fun vs μ => need (vs.all simple) (R f (x :: vs) μ)
    | none => .bad
  | .mk c es, δ, μ => (evs es δ μ).bnd (mkCall T R1 c)
  | .blt b w es, δ, μ => (evs es δ μ).bnd fun vs μ => match bltD T b vs μ with
    | some d => .ok (.d d) μ
    | none => match bltL b vs μ with
      | some ws => newL w ws μ
      | none => match bltK b vs μ with
        | some kvs => newD w kvs μ
        | none => .bad
  | .srtK f w e, δ, μ => (ev e δ μ).bnd fun x μ => match itemsD μ x with
    | some ds => match mapO (fun d => match R f [.d d] [] with
        | .ok (.d k) _ => some (k, d)
        | _ => none) ds with
      | some ps => need (cmpAll (ps.map (·.1))) (newL w ((sortD (fun a b => match a, b with
        | .tup [k, _], .tup [j, _] => ltB k j
        | _, _ => false) (ps.map fun p => .tup [p.1, p.2])).map fun p => match p with
        | .tup [_, d] => .d d
        | _ => .d .non) μ)
      | none => .bad
    | none => .bad
  | .bme m w o es, δ, μ => (ev o δ μ).bnd fun x μ => need (bmeTy m μ x) ((evs es δ μ).bnd fun vs μ => bmeV m x vs μ)
  | .lc w t it c e, δ, μ => (evi it δ μ).bnd fun wk μ => (collect wk.2 (fun v μ => (asg t v (killS (tgSlots t) δ) μ).bnd fun δ' μ => (evc c δ' μ).bnd fun r μ => if r = true then (ev e δ' μ).bnd fun x μ => .ok [x] μ else .ok [] μ) wk.1 μ).nox.bnd (newL w)
  | .lcE w t it c e, δ, μ => (evi it δ μ).bnd fun wk μ => need (small wk.1.length) ((collect wk.2 (fun v μ => (asg t v (killS (tgSlots t) δ) μ).bnd fun δ' μ => (evc c δ' μ).bnd fun r μ => if r = true then (ev e δ' μ).bnd fun x μ => .ok [x] μ else .ok [] μ) wk.1 μ).bnd (newL w))
  | .lcc w t it t2 it2 c e, δ, μ => (evi it δ μ).bnd fun wk μ => (collect wk.2 (fun v μ => (asg t v (killS (tgSlots t ++ tgSlots t2) δ) μ).bnd fun δ' μ => (evi it2 δ' μ).bnd fun wk2 μ =>
      collect wk2.2 (fun v μ => (asg t2 v δ' μ).bnd fun δ2 μ => (evc c δ2 μ).bnd fun r μ => if r = true then (ev e δ2 μ).bnd fun x μ => .ok [x] μ else .ok [] μ) wk2.1 μ) wk.1 μ).nox.bnd (newL w)
  | .dc w t it c k v, δ, μ => (evi it δ μ).bnd fun wk μ => need (small wk.1.length) ((collect wk.2 (fun u μ => (asg t u (killS (tgSlots t) δ) μ).bnd fun δ' μ => (evc c δ' μ).bnd fun r μ => if r = true then (ev k δ' μ).bnd fun x μ => (ev v δ' μ).bnd fun y μ => (match x with
        | .d d => need (isKey0 d) (.ok [(d, y)] μ)
        | _ => .bad) else .ok [] μ) wk.1 μ).nox.bnd fun kvs μ => newD w (kvs.foldl (fun acc p => putD p.1 p.2 acc) []) μ)
  | .lam f caps, δ, μ => match mapO δ.at caps with
    | some vs => .ok (.clo f vs) μ
    | none => .bad
  | .fst es, δ, μ => (evs es δ μ).bnd fun vs μ => match mapO (fun v => match v with
      | .d d => strOf d
      | _ => none) vs with
    | some ss => need (small ((ss.map Str.length).sum)) (.ok (.d (.str (ss.foldl (· ++ ·) Str.empty))) μ)
    | none => .bad
  | .xat i f, δ, μ => match δ.at i with
    | some (.exn (.fld _ g d)) => if g = f then .ok (.d d) μ else .bad
    | _ => .bad
termination_by structural x => x
/-- as a test -/
noncomputable def evt : Tt → Slots → Heap → Res Bool
  | .and a b, δ, μ => (evt a δ μ).bnd fun r μ => if r = true then evt b δ μ else .ok false μ
  | .or a b, δ, μ => (evt a δ μ).bnd fun r μ => if r = true then .ok true μ else evt b δ μ
  | .not a, δ, μ => (evt a δ μ).bnd fun r μ => .ok (!r) μ
  | .ife c a b, δ, μ => (evt c δ μ).bnd fun r μ => if r = true then evt a δ μ else evt b δ μ
  | .val e, δ, μ => (ev e δ μ).bnd fun x μ => opt (truth μ x) μ
termination_by structural x => x
noncomputable def evs : Es → Slots → Heap → Res (List Val)
  | .nil, _, μ => .ok [] μ
  | .cons e es, δ, μ => (ev e δ μ).bnd fun v μ => (evs es δ μ).bnd fun vs μ => .ok (v :: vs) μ
  | .star e es, δ, μ => (ev e δ μ).bnd fun v μ => match items μ v with
    | some us => (evs es δ μ).bnd fun vs μ => .ok (us ++ vs) μ
    | none => match pairs μ v with
      | some kvs => (evs es δ μ).bnd fun vs μ => .ok ((kvs.map fun p => .d p.1) ++ vs) μ
      | none => .bad
termination_by structural x => x
noncomputable def evo : EO → Slots → Heap → Res (Option Int)
  | .no, _, μ => .ok none μ
  | .so e, δ, μ => (ev e δ μ).bnd fun x μ => match x with
    | .d (.int i) => .ok (some i) μ
    | _ => .bad
termination_by structural x => x
/-- a comprehension's condition -/
noncomputable def evc : TO → Slots → Heap → Res Bool
  | .no, _, μ => .ok true μ
  | .so e, δ, μ => evt e δ μ
termination_by structural x => x
noncomputable def evi : It → Slots → Heap → Res Walk
  | .val e, δ, μ => (ev e δ μ).bnd seqWalkS
  | .rng1 a, δ, μ => (ev a δ μ).bnd fun x μ => match x with
    | .d (.int n) => .ok (rngVals 0 n.toNat, []) μ
    | _ => .bad
  | .rng2 a b, δ, μ => (ev a δ μ).bnd fun x μ => (ev b δ μ).bnd fun y μ => match x, y with
    | .d (.int i), .d (.int j) => .ok (rngVals i (j - i).toNat, []) μ
    | _, _ => .bad
  | .rng3 a b c, δ, μ => (ev a δ μ).bnd fun x μ => (ev b δ μ).bnd fun y μ => (ev c δ μ).bnd fun z μ => match x, y, z with
    | .d (.int i), .d (.int j), .d (.int k) => need (decide (k ≠ 0 ∧ -1000000 < k ∧ k < 1000000 ∧ -(2 ^ 61) < i ∧ i < 2 ^ 61 ∧ -(2 ^ 61) < j ∧ j < 2 ^ 61)) (.ok (rngVals3 i k (rngN i j k), []) μ)
    | _, _, _ => .bad
  | .enm e, δ, μ => (ev e δ μ).bnd fun x μ => need (isL μ x) ((seqWalk x μ).bnd fun wk μ => match mapO (snap μ 0) wk.1 with
    | some ds => .ok (ds.zipIdx.map fun p => .d (.tup [.int p.2, p.1]), wk.2) μ
    | none => .bad)
  | .enmFrom e k, δ, μ => (ev e δ μ).bnd fun x μ => (seqWalk x μ).bnd fun wk μ => match mapO (snap μ 0) wk.1 with
    | some ds => .ok (ds.zipIdx.map fun p => .d (.tup [.int (k + p.2), p.1]), wk.2) μ
    | none => .bad
  | .zip a b, δ, μ => (ev a δ μ).bnd fun x μ => (ev b δ μ).bnd fun y μ => need (isL μ x == isL μ y) ((seqWalk x μ).bnd fun w1 μ => (seqWalk y μ).bnd fun w2 μ => match mapO (snap μ 0) w1.1, mapO (snap μ 0) w2.1 with
    | some a, some b => .ok ((a.zip b).map fun p => .d (.tup [p.1, p.2]), w1.2 ++ w2.2) μ
    | _, _ => .bad)
  | .rev e, δ, μ => (ev e δ μ).bnd fun x μ => (seqWalk x μ).bnd fun wk μ => .ok (wk.1.reverse, wk.2) μ
  | .keys e, δ, μ => (ev e δ μ).bnd fun x μ => match fpairs μ x with
    | some kvs => .ok (kvs.map fun p => .d p.1, []) μ
    | none => .bad
  | .vals e, δ, μ => (ev e δ μ).bnd fun x μ => match fpairs μ x with
    | some kvs => .ok (kvs.map fun p => .d p.2, []) μ
    | none => .bad
  | .itms e, δ, μ => (ev e δ μ).bnd fun x μ => match fpairs μ x with
    | some kvs => .ok (kvs.map fun p => .d (.tup [p.1, p.2]), []) μ
    | none => .bad
termination_by structural x => x
/-- a target gets a value -/
noncomputable def asg : Tg → Val → Slots → Heap → Res Slots
  | .nm i, v, δ, μ => need (decide (i < δ.length)) (.ok (δ.set i (some v)) μ)
  | .tp ts, v, δ, μ => match v with
    | .d (.tup ds) => need (decide (ds.length = tgsLen ts)) (asgs ts (ds.map .d) δ μ).nox
    | _ => .bad
  | .sub o i, v, δ, μ => (ev o δ μ).bnd fun x μ => (ev i δ μ).bnd fun y μ => (setSub x y v μ).bnd fun _ μ => .ok δ μ
  | .slc o lo hi, v, δ, μ => (ev o δ μ).bnd fun x μ => (evo lo δ μ).bnd fun l μ => (evo hi δ μ).bnd fun h μ => (setSl x l h v μ).bnd fun _ μ => .ok δ μ
  | .att o f, v, δ, μ => (ev o δ μ).bnd fun x μ => (setAtt x f v μ).bnd fun _ μ => .ok δ μ
termination_by structural x => x
noncomputable def asgs : Tgs → List Val → Slots → Heap → Res Slots
  | .nil, [], δ, μ => .ok δ μ
  | .cons t ts, v :: vs, δ, μ => (asg t v δ μ).bnd fun δ μ => asgs ts vs δ μ
  | _, _, _, _ => .bad
termination_by structural x => x
end
end
end Mp
end
section
set_option linter.all false
set_option autoImplicit false
namespace Mp
open PySem (Str)
inductive Flow where
  | nx | rt (v : Val) | bk | ct
/-- what a statement leads to -/
inductive RS where
  | ok (δ : Slots) (f : Flow) (μ : Heap) | ex (x : Exn) (δ : Slots) (μ : Heap) | bad
/-- an expression's outcome, where the slots are δ -/
def Res.then_ {α : Type} (r : Res α) (δ : Slots) (f : α → Heap → RS) : RS := match r with
  | .ok a μ => f a μ
  | .ex x μ => .ex x δ μ
  | .bad => .bad
section
variable {α : Type}
@[simp] theorem then_ok (a : α) (μ : Heap) (δ : Slots) (f : α → Heap → RS) : (Res.ok a μ).then_ δ f = f a μ := rfl
@[simp] theorem then_ex (x : Exn) (μ : Heap) (δ : Slots) (f : α → Heap → RS) : (Res.ex x μ : Res α).then_ δ f = .ex x δ μ := rfl
@[simp] theorem then_bad (δ : Slots) (f : α → Heap → RS) : (Res.bad : Res α).then_ δ f = .bad := rfl
end
/-- one statement behind another -/
def RS.seq : RS → (Slots → Heap → RS) → RS
  | .ok δ .nx μ, f => f δ μ
  | r, _ => r
@[simp] theorem seq_nx (δ : Slots) (μ : Heap) (f : Slots → Heap → RS) : (RS.ok δ .nx μ).seq f = f δ μ := rfl
@[simp] theorem seq_rt (δ : Slots) (v : Val) (μ : Heap) (f : Slots → Heap → RS) : (RS.ok δ (.rt v) μ).seq f = .ok δ (.rt v) μ := rfl
@[simp] theorem seq_bk (δ : Slots) (μ : Heap) (f : Slots → Heap → RS) : (RS.ok δ .bk μ).seq f = .ok δ .bk μ := rfl
@[simp] theorem seq_ct (δ : Slots) (μ : Heap) (f : Slots → Heap → RS) : (RS.ok δ .ct μ).seq f = .ok δ .ct μ := rfl
@[simp] theorem seq_ex (x : Exn) (δ : Slots) (μ : Heap) (f : Slots → Heap → RS) : (RS.ex x δ μ).seq f = .ex x δ μ := rfl
@[simp] theorem seq_bad (f : Slots → Heap → RS) : RS.bad.seq f = .bad := rfl
mutual
/-- no reference from n on -/
def below (n : Nat) : Val → Bool
  | .d _ => true
  | .ref i => decide (i < n)
  | .clo _ vs => belows n vs
  | .exn _ => true
def belows (n : Nat) : List Val → Bool
  | [] => true
  | v :: vs => below n v && belows n vs
end
def belowC (n : Nat) : Cell → Bool
  | .lst vs => belows n vs
  | .dct kvs => belows n (kvs.map (·.2))
  | .obj _ fs => belows n (fs.map (·.2))
  | .frz _ => true
/-- the cells from n on are let go -/
def gcTo (on : Bool) (n : Nat) (δ : Slots) (μ : Heap) : Option Heap := match on with
  | false => some μ
  | true => if belows n (δ.filterMap id) && (μ.take n).all (belowC n) then some (μ.take n) else none
/-- one turn of a loop, then the others -/
def RS.turn (r : RS) (gc : Bool) (n : Nat) (k : Slots → Heap → RS) : RS := match r with
  | .ok δ .nx μ => match gcTo gc n δ μ with
    | some μ2 => k δ μ2
    | none => .bad
  | .ok δ .ct μ => match gcTo gc n δ μ with
    | some μ2 => k δ μ2
    | none => .bad
  | .ok δ .bk μ => .ok δ .nx μ
  | r => r
open Classical in
noncomputable def forL (gc : Bool) (n : Nat) (g : List (Nat × Cell)) (step : Val → Slots → Heap → RS) : List Val → Slots → Heap → RS
  | [], δ, μ => if guardOk g μ then .ok δ .nx μ else .bad
  | v :: vs, δ, μ => if guardOk g μ then (step v δ μ).turn gc n (fun δ μ => forL gc n g step vs δ μ) else .bad
/-- so many turns of a while; none: not at its end -/
def whlN (gc : Bool) (n : Nat) (c : Slots → Heap → Res Bool) (b : Slots → Heap → RS) : Nat → Slots → Heap → Option RS
  | 0, _, _ => none
  | k + 1, δ, μ => match c δ μ with
    | .ok true μ1 => match b δ μ1 with
      | .ok δ' .nx μ' => match gcTo gc n δ' μ' with
        | some μ2 => whlN gc n c b k δ' μ2
        | none => some .bad
      | .ok δ' .ct μ' => match gcTo gc n δ' μ' with
        | some μ2 => whlN gc n c b k δ' μ2
        | none => some .bad
      | .ok δ' .bk μ' => some (.ok δ' .nx μ')
      | r => some r
    | .ok false μ1 => some (.ok δ .nx μ1)
    | .ex x μ1 => some (.ex x δ μ1)
    | .bad => some .bad
theorem whlN_mono {gc : Bool} {n : Nat} {c : Slots → Heap → Res Bool} {b : Slots → Heap → RS} : ∀ {k j : Nat} {δ : Slots} {μ : Heap} {r : RS}, whlN gc n c b k δ μ = some r → k ≤ j → whlN gc n c b j δ μ = some r
  | 0, _, _, _, _, h, _ => by cases h
  | k + 1, 0, _, _, _, _, hj => absurd hj (Nat.not_succ_le_zero k)
  | k + 1, j + 1, δ, μ, r, h, hj => by
    unfold whlN at h ⊢
    have hj := Nat.le_of_succ_le_succ hj
    split at h
    · split at h
      · split at h
        · exact whlN_mono h hj
        · exact h
      · split at h
        · exact whlN_mono h hj
        · exact h
      · exact h
      · exact h
    · exact h
    · exact h
    · exact h
open Classical in
noncomputable def whl (gc : Bool) (n : Nat) (c : Slots → Heap → Res Bool) (b : Slots → Heap → RS) (δ : Slots) (μ : Heap) : RS :=
  if h : ∃ k r, whlN gc n c b k δ μ = some r then h.choose_spec.choose else .bad
theorem whl_of {gc : Bool} {n : Nat} {c : Slots → Heap → Res Bool} {b : Slots → Heap → RS} {k : Nat} {δ : Slots} {μ : Heap} {r : RS} (h : whlN gc n c b k δ μ = some r) : whl gc n c b δ μ = r := by
  have e : ∃ k r, whlN gc n c b k δ μ = some r := ⟨k, r, h⟩
  unfold whl
  rw [dif_pos e]
  have q := e.choose_spec.choose_spec
  have h1 := whlN_mono h (Nat.le_max_left k e.choose)
  have h2 := whlN_mono q (Nat.le_max_right k e.choose)
  rw [h1] at h2
  exact (Option.some.inj h2).symm
theorem of_whl {gc : Bool} {n : Nat} {c : Slots → Heap → Res Bool} {b : Slots → Heap → RS} {δ : Slots} {μ : Heap} {r : RS} (h : whl gc n c b δ μ = r) (hb : r ≠ .bad) : ∃ k, whlN gc n c b k δ μ = some r := by
  unfold whl at h
  split at h
  · rename_i e
    exact ⟨e.choose, by rw [← h]; exact e.choose_spec.choose_spec⟩
  · exact absurd h.symm hb
/-- one turn -/
theorem whl_eq (gc : Bool) (n : Nat) (c : Slots → Heap → Res Bool) (b : Slots → Heap → RS) (δ : Slots) (μ : Heap) : whl gc n c b δ μ = (c δ μ).then_ δ fun r μ => if r = true then (b δ μ).turn gc n (fun δ μ => whl gc n c b δ μ) else .ok δ .nx μ := by
  have fin : ∀ {δ' μ2}, (∀ r, whlN gc n c b 1 δ μ = some r → False) → (∀ k, whlN gc n c b (k + 1) δ μ = whlN gc n c b k δ' μ2) → whl gc n c b δ μ = whl gc n c b δ' μ2 := by
    intro δ' μ2 _ hk
    by_cases e : ∃ k r, whlN gc n c b k δ' μ2 = some r
    · obtain ⟨k, r, e⟩ := e
      rw [whl_of e, whl_of (k := k + 1) (r := r) (by rw [hk]; exact e)]
    · have e2 : ¬ ∃ k r, whlN gc n c b k δ μ = some r := by
        rintro ⟨k, r, q⟩
        cases k with
        | zero => cases q
        | succ k => rw [hk] at q; exact e ⟨k, r, q⟩
      unfold whl
      rw [dif_neg e, dif_neg e2]
  cases hc : c δ μ with
  | bad => exact whl_of (k := 1) (by unfold whlN; rw [hc]; rfl)
  | ex x μ1 => exact whl_of (k := 1) (by unfold whlN; rw [hc]; rfl)
  | ok t μ1 =>
    cases t with
    | false => exact whl_of (k := 1) (by unfold whlN; rw [hc]; rfl)
    | true =>
      show _ = (b δ μ1).turn gc n (fun δ μ => whl gc n c b δ μ)
      cases hb : b δ μ1 with
      | bad => exact whl_of (k := 1) (by unfold whlN; rw [hc]; simp only [hb]; rfl)
      | ex x δ' μ' => exact whl_of (k := 1) (by unfold whlN; rw [hc]; simp only [hb]; rfl)
      | ok δ' f μ' =>
        cases f with
        | rt v => exact whl_of (k := 1) (by unfold whlN; rw [hc]; simp only [hb]; rfl)
        | bk => exact whl_of (k := 1) (by unfold whlN; rw [hc]; simp only [hb]; rfl)
        | nx =>
          show _ = (match gcTo gc n δ' μ' with
            | some μ2 => whl gc n c b δ' μ2
            | none => .bad)
          cases hg : gcTo gc n δ' μ' with
          | none => exact whl_of (k := 1) (by unfold whlN; rw [hc]; simp only [hb, hg])
          | some μ2 =>
            refine fin (fun r q => ?_) fun k => by rw [whlN, hc]; simp only [hb, hg]
            unfold whlN at q; rw [hc] at q; simp only [hb, hg] at q; cases q
        | ct =>
          show _ = (match gcTo gc n δ' μ' with
            | some μ2 => whl gc n c b δ' μ2
            | none => .bad)
          cases hg : gcTo gc n δ' μ' with
          | none => exact whl_of (k := 1) (by unfold whlN; rw [hc]; simp only [hb, hg])
          | some μ2 =>
            refine fin (fun r q => ?_) fun k => by rw [whlN, hc]; simp only [hb, hg]
            unfold whlN at q; rw [hc] at q; simp only [hb, hg] at q; cases q
/-- an exception of the class c, made of these arguments -/
def exnOf (T : Tbl) (c : Nat) (vs : List Val) : Option Exn := match T.exk c, vs with
  | .pl, [.d (.str _)] => some (.pl c)
  | .fld f, [.d (.str y)] => if y.length ≤ 1000000 then some (.fld c f (.str y)) else none
  | .fld f, [.d (.int i)] => if i.natAbs.log2 < 1920 then some (.fld c f (.int i)) else none
  | _, _ => none
/-- x += y, x -= y: ints alone -/
def augI (op : Bop) (x y : Val) (μ : Heap) : Res Val := match op, x, y with
  | .add, .d (.int i), .d (.int j) => .ok (.d (.int (i + j))) μ
  | .sub, .d (.int i), .d (.int j) => .ok (.d (.int (i - j))) μ
  | _, _, _ => .bad
/-- no caught exception in a slot -/
def clrX : Slots → Slots := List.map fun o => match o with
  | some (.exn _) => none
  | o => o
def noX : Val → Bool
  | .exn _ => false
  | _ => true
/-- behind a suite that held an exception -/
def RS.clr (i : Nat) : RS → RS
  | .ok δ (.rt v) μ => if noX v = true then .ok (clrX (δ.set i none)) (.rt v) μ else .bad
  | .ok δ f μ => .ok (clrX (δ.set i none)) f μ
  | _ => .bad
/-- a suite from which no exception comes -/
def RS.nos : RS → RS
  | .ok δ (.rt v) μ => if noX v = true then .ok (clrX δ) (.rt v) μ else .bad
  | .ok δ f μ => .ok (clrX δ) f μ
  | _ => .bad
section
variable (T : Tbl) (R R1 : Run)
mutual
noncomputable def exS : S → Slots → Heap → RS
  | .asg t e, δ, μ => (ev T R R1 e δ μ).then_ δ fun v μ => (asg T R R1 t v δ μ).then_ δ fun δ' μ => .ok δ' .nx μ
  | .asg2 t u e, δ, μ => (ev T R R1 e δ μ).then_ δ fun v μ => (asg T R R1 t v δ μ).then_ δ fun δ' μ => (asg T R R1 u v δ' μ).then_ δ' fun δ2 μ => .ok δ2 .nx μ
  | .aug t op e, δ, μ => match t with
    | .nm i => match δ.at i with
      | some x => (ev T R R1 e δ μ).then_ δ fun y μ => (augI op x y μ).then_ δ fun v μ => .ok (δ.set i (some v)) .nx μ
      | none => .bad
    | .att o f => (ev T R R1 o δ μ).then_ δ fun p μ => (attV p f μ).then_ δ fun x μ => (ev T R R1 e δ μ).then_ δ fun y μ => (binV op x y μ).then_ δ fun v μ => (setAtt p f v μ).then_ δ fun _ μ => .ok δ .nx μ
    | .sub o i => (ev T R R1 o δ μ).then_ δ fun p μ => (ev T R R1 i δ μ).then_ δ fun k μ => (idxV p k μ).then_ δ fun x μ => (ev T R R1 e δ μ).then_ δ fun y μ => (binV op x y μ).then_ δ fun v μ => (setSub p k v μ).then_ δ fun _ μ => .ok δ .nx μ
    | _ => .bad
  | .augL i e, δ, μ => match δ.at i with
    | some x => (ev T R R1 e δ μ).then_ δ fun y μ => (bmeV .extend x [y] μ).then_ δ fun _ μ => .ok δ .nx μ
    | none => .bad
  | .expr e, δ, μ => (ev T R R1 e δ μ).then_ δ fun _ μ => .ok δ .nx μ
  | .ret e, δ, μ => (ev T R R1 e δ μ).then_ δ fun v μ => .ok δ (.rt v) μ
  | .retN, δ, μ => .ok δ (.rt (.d .non)) μ
  | .ife c a b, δ, μ => (evt T R R1 c δ μ).then_ δ fun r μ => if r = true then exSs a δ μ else exSs b δ μ
  | .for_ gc t it b, δ, μ => (evi T R R1 it δ μ).then_ δ fun wk μ => forL gc μ.length wk.2 (fun v δ μ => (asg T R R1 t v δ μ).then_ δ fun δ' μ => exSs b δ' μ) wk.1 δ μ
  | .whl gc c b, δ, μ => whl gc μ.length (fun δ μ => evt T R R1 c δ μ) (fun δ μ => exSs b δ μ) δ μ
  | .raise c es, δ, μ => (evs T R R1 es δ μ).then_ δ fun vs μ => match exnOf T c vs with
    | some x => .ex x δ μ
    | none => .bad
  | .raiseH c es, δ, μ => (evs T R R1 es δ μ).then_ δ fun vs μ => match exnOf T c vs with
    | some x => .ex x δ μ
    | none => .bad
  | .try_ b hs, δ, μ => match exSs b δ μ with
    | .ex x δ' μ' => exHs hs x δ' μ'
    | r => r
  | .pass, δ, μ => .ok δ .nx μ
  | .brk, δ, μ => .ok δ .bk μ
  | .cont, δ, μ => .ok δ .ct μ
  | .ndef i f caps, δ, μ => match mapO δ.at caps with
    | some vs => .ok (δ.set i (some (.clo f vs))) .nx μ
    | none => .bad
termination_by structural x => x
noncomputable def exSs : Ss → Slots → Heap → RS
  | .nil, δ, μ => .ok δ .nx μ
  | .cons s ss, δ, μ => (exS s δ μ).seq fun δ μ => exSs ss δ μ
  | .kill is ss, δ, μ => exSs ss (killS is δ) μ
termination_by structural x => x
noncomputable def exHs : Hs → Exn → Slots → Heap → RS
  | .nil, x, δ, μ => .ex x δ μ
  | .cons cs as_ b hs, x, δ, μ => if cs.any fun c => T.sub x.cls c then (match as_ with
      | some i => (exSs b (δ.set i (some (.exn x))) μ).clr i
      | none => (exSs b δ μ).nos) else exHs hs x δ μ
termination_by structural x => x
end
end
/-- what a body's end means -/
def RS.fin : RS → Res Val
  | .ok _ .nx μ => .ok (.d .non) μ
  | .ok _ (.rt v) μ => .ok v μ
  | .ex x _ μ => .ex x μ
  | _ => .bad
/-- a def's call by its text -/
noncomputable def call1 (T : Tbl) (R R1 : Run) : Run := fun f args μ => match T.fn f with
    | some fn => if args.length = fn.npar then (exSs T R R1 fn.body (args.map some ++ List.replicate (fn.nslot - fn.npar) none) μ).fin else .bad
    | none => .bad
noncomputable def runP (T : Tbl) : Nat → Run × Run
  | 0 => (fun _ _ _ => .bad, fun _ _ _ => .bad)
  | n + 1 => (call1 T (runP T n).1 (runP T n).2, (runP T n).1)
/-- a def's call, at most n calls within one another -/
noncomputable def run (T : Tbl) (n : Nat) : Run := (runP T n).1
/-- the same, one less -/
noncomputable def run1 (T : Tbl) (n : Nat) : Run := (runP T n).2
theorem run1_succ (T : Tbl) (n : Nat) : run1 T (n + 1) = run T n := rfl
theorem run_succ (T : Tbl) (n : Nat) : run T (n + 1) = call1 T (run T n) (run1 T n) := rfl
end Mp
end
section
set_option linter.all false
set_option autoImplicit false
namespace Mp
open PySem (Str)
/-! ### one step of each construct -/
section
variable (T : Tbl) (R R1 : Run)
/-- a for's turn -/
noncomputable def stepF (t : Tg) (b : Ss) : Val → Slots → Heap → RS := fun v δ μ => (asg T R R1 t v δ μ).then_ δ fun δ' μ => exSs T R R1 b δ' μ
noncomputable def condF (c : Tt) : Slots → Heap → Res Bool := fun δ μ => evt T R R1 c δ μ
noncomputable def bodyF (b : Ss) : Slots → Heap → RS := fun δ μ => exSs T R R1 b δ μ
/-- a comprehension's turn -/
noncomputable def lcF (t : Tg) (c : TO) (e : E) (δ : Slots) : Val → Heap → Res (List Val) := fun v μ => (asg T R R1 t v δ μ).bnd fun δ' μ => (evc T R R1 c δ' μ).bnd fun r μ => if r = true then (ev T R R1 e δ' μ).bnd fun x μ => .ok [x] μ else .ok [] μ
noncomputable def lccF (t : Tg) (t2 : Tg) (it2 : It) (c : TO) (e : E) (δ : Slots) : Val → Heap → Res (List Val) := fun v μ => (asg T R R1 t v δ μ).bnd fun δ' μ => (evi T R R1 it2 δ' μ).bnd fun wk2 μ => collect wk2.2 (lcF T R R1 t2 c e δ') wk2.1 μ
noncomputable def dcF (t : Tg) (c : TO) (k v : E) (δ : Slots) : Val → Heap → Res (List (D × Val)) := fun u μ => (asg T R R1 t u δ μ).bnd fun δ' μ => (evc T R R1 c δ' μ).bnd fun r μ => if r = true then (ev T R R1 k δ' μ).bnd fun x μ => (ev T R R1 v δ' μ).bnd fun y μ => (match x with
        | .d d => need (isKey0 d) (.ok [(d, y)] μ)
        | _ => .bad) else .ok [] μ
/-- how a try's body ends; then its handlers -/
noncomputable def tryR (r : RS) (hs : Hs) : RS := match r with
  | .ex x δ' μ' => exHs T R R1 hs x δ' μ'
  | r => r
theorem exS_for {gc t it b δ μ} : exS T R R1 (.for_ gc t it b) δ μ = (evi T R R1 it δ μ).then_ δ fun wk μ => forL gc μ.length wk.2 (stepF T R R1 t b) wk.1 δ μ := rfl
theorem exS_whl {gc c b δ μ} : exS T R R1 (.whl gc c b) δ μ = whl gc μ.length (condF T R R1 c) (bodyF T R R1 b) δ μ := rfl
theorem exS_try {b hs δ μ} : exS T R R1 (.try_ b hs) δ μ = tryR T R R1 (exSs T R R1 b δ μ) hs := rfl
theorem ev_lc {w t it c e δ μ} : ev T R R1 (.lc w t it c e) δ μ = (evi T R R1 it δ μ).bnd fun wk μ => (collect wk.2 (lcF T R R1 t c e (killS (tgSlots t) δ)) wk.1 μ).nox.bnd (newL w) := rfl
theorem ev_lcE {w t it c e δ μ} : ev T R R1 (.lcE w t it c e) δ μ = (evi T R R1 it δ μ).bnd fun wk μ => need (small wk.1.length) ((collect wk.2 (lcF T R R1 t c e (killS (tgSlots t) δ)) wk.1 μ).bnd (newL w)) := rfl
theorem ev_lcc {w t it t2 it2 c e δ μ} : ev T R R1 (.lcc w t it t2 it2 c e) δ μ = (evi T R R1 it δ μ).bnd fun wk μ => (collect wk.2 (lccF T R R1 t t2 it2 c e (killS (tgSlots t ++ tgSlots t2) δ)) wk.1 μ).nox.bnd (newL w) := rfl
theorem ev_dc {w t it c k v δ μ} : ev T R R1 (.dc w t it c k v) δ μ = (evi T R R1 it δ μ).bnd fun wk μ => need (small wk.1.length) ((collect wk.2 (dcF T R R1 t c k v (killS (tgSlots t) δ)) wk.1 μ).nox.bnd fun kvs μ => newD w (kvs.foldl (fun acc p => putD p.1 p.2 acc) []) μ) := rfl
theorem ev_non {δ μ} : ev T R R1 (.non) δ μ = .ok (.d .non) μ := rfl
theorem ev_bl {b δ μ} : ev T R R1 (.bl b) δ μ = .ok (.d (.bl b)) μ := rfl
theorem ev_int {i δ μ} : ev T R R1 (.int i) δ μ = .ok (.d (.int i)) μ := rfl
theorem ev_str {s δ μ} : ev T R R1 (.str s) δ μ = .ok (.d (.str s)) μ := rfl
theorem ev_var {i δ μ} : ev T R R1 (.var i) δ μ = opt (δ.at i) μ := rfl
theorem ev_frz {e δ μ} : ev T R R1 (.frz e) δ μ = (ev T R R1 e δ μ).bnd fun v μ => match freeze 8 v μ with
    | some (d, μ') => .ok (.d d) μ'
    | none => .bad := rfl
theorem ev_frzD {e δ μ} : ev T R R1 (.frzD e) δ μ = (ev T R R1 e δ μ).bnd fun v μ => match v with
    | .ref i => match μ[i]? with
      | some (.dct kvs) => match mapO (snap μ 0) (kvs.map (·.2)) with
        | some ds => .ok (.d (.dct ((kvs.map (·.1)).zip ds))) (μ.set i (.frz (.dct ((kvs.map (·.1)).zip ds))))
        | none => .bad
      | _ => .bad
    | _ => .bad := rfl
theorem ev_glb {g δ μ} : ev T R R1 (.glb g) δ μ = opt ((T.gl g).map .d) μ := rfl
theorem ev_fnv {f δ μ} : ev T R R1 (.fnv f) δ μ = .ok (.d (.fn f)) μ := rfl
theorem ev_bin {op a b δ μ} : ev T R R1 (.bin op a b) δ μ = (ev T R R1 a δ μ).bnd fun x μ => (ev T R R1 b δ μ).bnd fun y μ => binV op x y μ := rfl
theorem ev_binL {w op a b δ μ} : ev T R R1 (.binL w op a b) δ μ = (ev T R R1 a δ μ).bnd fun x μ => (ev T R R1 b δ μ).bnd fun y μ => match lstop op x y μ with
    | some vs => need (isL μ x) (newL w vs μ)
    | none => .bad := rfl
theorem ev_neg {a δ μ} : ev T R R1 (.neg a) δ μ = (ev T R R1 a δ μ).bnd fun x μ => match x with
    | .d (.int i) => .ok (.d (.int (-i))) μ
    | _ => .bad := rfl
theorem ev_not {a δ μ} : ev T R R1 (.not a) δ μ = (ev T R R1 a δ μ).bnd fun x μ => (opt (truth μ x) μ).bnd fun b μ => .ok (.d (.bl (!b))) μ := rfl
theorem ev_and {a b δ μ} : ev T R R1 (.and a b) δ μ = (ev T R R1 a δ μ).bnd fun x μ => tri (truth μ x) (ev T R R1 b δ μ) (.ok x μ) := rfl
theorem ev_or {a b δ μ} : ev T R R1 (.or a b) δ μ = (ev T R R1 a δ μ).bnd fun x μ => tri (truth μ x) (.ok x μ) (ev T R R1 b δ μ) := rfl
theorem ev_cmp {op a b δ μ} : ev T R R1 (.cmp op a b) δ μ = (ev T R R1 a δ μ).bnd fun x μ => (ev T R R1 b δ μ).bnd fun y μ => (opt (cmpop op x y μ) μ).bnd fun r μ => .ok (.d (.bl r)) μ := rfl
theorem ev_chn {o1 o2 a b c δ μ} : ev T R R1 (.chn o1 o2 a b c) δ μ = (ev T R R1 a δ μ).bnd fun x μ => (ev T R R1 b δ μ).bnd fun y μ => tri (cmpop o1 x y μ) ((ev T R R1 c δ μ).bnd fun z μ => (opt (cmpop o2 y z μ) μ).bnd fun r μ => .ok (.d (.bl r)) μ) (.ok (.d (.bl false)) μ) := rfl
theorem ev_ife {c a b δ μ} : ev T R R1 (.ife c a b) δ μ = (evt T R R1 c δ μ).bnd fun r μ => if r = true then ev T R R1 a δ μ else ev T R R1 b δ μ := rfl
theorem ev_idx {a i δ μ} : ev T R R1 (.idx a i) δ μ = (ev T R R1 a δ μ).bnd fun x μ => (ev T R R1 i δ μ).bnd fun y μ => idxV x y μ := rfl
theorem ev_slc {w a lo hi δ μ} : ev T R R1 (.slc w a lo hi) δ μ = (ev T R R1 a δ μ).bnd fun x μ => (evo T R R1 lo δ μ).bnd fun l μ => (evo T R R1 hi δ μ).bnd fun h μ => match x with
    | .d (.tup ds) => .ok (.d (.tup (cutG ds l h))) μ
    | .d (.str s) => need (small s.length) (.ok (.d (.str ⟨(cutG s.cps.toList l h).toArray⟩)) μ)
    | x => match items μ x with
      | some vs => newL w (cutG vs l h) μ
      | none => .bad := rfl
theorem ev_bck {w a δ μ} : ev T R R1 (.bck w a) δ μ = (ev T R R1 a δ μ).bnd fun x μ => match items μ x with
    | some vs => need (isL μ x) (newL w vs.reverse μ)
    | none => .bad := rfl
theorem ev_att {a f δ μ} : ev T R R1 (.att a f) δ μ = (ev T R R1 a δ μ).bnd fun x μ => attV x f μ := rfl
theorem ev_tup {es δ μ} : ev T R R1 (.tup es) δ μ = (evs T R R1 es δ μ).bnd tupV := rfl
theorem ev_lst {w es δ μ} : ev T R R1 (.lst w es) δ μ = (evs T R R1 es δ μ).bnd (newL w) := rfl
theorem ev_dsp {w kvs δ μ} : ev T R R1 (.dsp w kvs) δ μ = (evs T R R1 kvs δ μ).nox.bnd fun a μ => match pairUp a with
    | some ps => need (ps.all fun p => isKey0 p.1) (newD w (ps.foldl (fun acc p => putD p.1 p.2 acc) []) μ)
    | none => .bad := rfl
theorem ev_cal {f es δ μ} : ev T R R1 (.cal f es) δ μ = (evs T R R1 es δ μ).bnd (pureCall R f) := rfl
theorem ev_cai {f es δ μ} : ev T R R1 (.cai f es) δ μ = (evs T R R1 es δ μ).bnd fun vs μ => need (vs.all simple) (R f vs μ) := rfl
theorem ev_cac {f es δ μ} : ev T R R1 (.cac f es) δ μ = (evs T R R1 es δ μ).bnd (R f) := rfl
theorem ev_cav {i es δ μ} : ev T R R1 (.cav i es) δ μ = (evs T R R1 es δ μ).bnd fun vs μ => match δ.at i with
    | some v => valCall R v vs μ
    | none => .bad := rfl
theorem ev_sup {f es δ μ} : ev T R R1 (.sup f es) δ μ = (evs T R R1 es δ μ).bnd fun vs μ => match δ.at 0 with
    | some o => need (simple o && vs.all simple) (R f (o :: vs) μ)
    | none => .bad := rfl
theorem ev_met {m o es δ μ} : ev T R R1 (.met m o es) δ μ = (ev T R R1 o δ μ).bnd fun x μ => match metF T m x μ with
    | some f => (evs T R R1 es δ μ).bnd fun vs μ => need (vs.all simple) (R f (x :: vs) μ)
    | none => .bad := rfl
theorem ev_mk {c es δ μ} : ev T R R1 (.mk c es) δ μ = (evs T R R1 es δ μ).bnd (mkCall T R1 c) := rfl
theorem ev_blt {b w es δ μ} : ev T R R1 (.blt b w es) δ μ = (evs T R R1 es δ μ).bnd fun vs μ => match bltD T b vs μ with
    | some d => .ok (.d d) μ
    | none => match bltL b vs μ with
      | some ws => newL w ws μ
      | none => match bltK b vs μ with
        | some kvs => newD w kvs μ
        | none => .bad := rfl
theorem ev_bme {m w o es δ μ} : ev T R R1 (.bme m w o es) δ μ = (ev T R R1 o δ μ).bnd fun x μ => need (bmeTy m μ x) ((evs T R R1 es δ μ).bnd fun vs μ => bmeV m x vs μ) := rfl
theorem ev_lam {f caps δ μ} : ev T R R1 (.lam f caps) δ μ = match mapO δ.at caps with
    | some vs => .ok (.clo f vs) μ
    | none => .bad := rfl
theorem ev_fst {es δ μ} : ev T R R1 (.fst es) δ μ = (evs T R R1 es δ μ).bnd fun vs μ => match mapO (fun v => match v with
      | .d d => strOf d
      | _ => none) vs with
    | some ss => need (small ((ss.map Str.length).sum)) (.ok (.d (.str (ss.foldl (· ++ ·) Str.empty))) μ)
    | none => .bad := rfl
theorem ev_xat {i f δ μ} : ev T R R1 (.xat i f) δ μ = match δ.at i with
    | some (.exn (.fld _ g d)) => if g = f then .ok (.d d) μ else .bad
    | _ => .bad := rfl
theorem evt_and {a b δ μ} : evt T R R1 (.and a b) δ μ = (evt T R R1 a δ μ).bnd fun r μ => if r = true then evt T R R1 b δ μ else .ok false μ := rfl
theorem evt_or {a b δ μ} : evt T R R1 (.or a b) δ μ = (evt T R R1 a δ μ).bnd fun r μ => if r = true then .ok true μ else evt T R R1 b δ μ := rfl
theorem evt_not {a δ μ} : evt T R R1 (.not a) δ μ = (evt T R R1 a δ μ).bnd fun r μ => .ok (!r) μ := rfl
theorem evt_ife {c a b δ μ} : evt T R R1 (.ife c a b) δ μ = (evt T R R1 c δ μ).bnd fun r μ => if r = true then evt T R R1 a δ μ else evt T R R1 b δ μ := rfl
theorem evt_val {e δ μ} : evt T R R1 (.val e) δ μ = (ev T R R1 e δ μ).bnd fun x μ => opt (truth μ x) μ := rfl
theorem evs_nil {δ μ} : evs T R R1 (.nil) δ μ = .ok [] μ := rfl
theorem evs_cons {e es δ μ} : evs T R R1 (.cons e es) δ μ = (ev T R R1 e δ μ).bnd fun v μ => (evs T R R1 es δ μ).bnd fun vs μ => .ok (v :: vs) μ := rfl
theorem evs_star {e es δ μ} : evs T R R1 (.star e es) δ μ = (ev T R R1 e δ μ).bnd fun v μ => match items μ v with
    | some us => (evs T R R1 es δ μ).bnd fun vs μ => .ok (us ++ vs) μ
    | none => match pairs μ v with
      | some kvs => (evs T R R1 es δ μ).bnd fun vs μ => .ok ((kvs.map fun p => .d p.1) ++ vs) μ
      | none => .bad := rfl
theorem evo_no {δ μ} : evo T R R1 (.no) δ μ = .ok none μ := rfl
theorem evo_so {e δ μ} : evo T R R1 (.so e) δ μ = (ev T R R1 e δ μ).bnd fun x μ => match x with
    | .d (.int i) => .ok (some i) μ
    | _ => .bad := rfl
theorem evc_no {δ μ} : evc T R R1 (.no) δ μ = .ok true μ := rfl
theorem evc_so {e δ μ} : evc T R R1 (.so e) δ μ = evt T R R1 e δ μ := rfl
theorem evi_val {e δ μ} : evi T R R1 (.val e) δ μ = (ev T R R1 e δ μ).bnd seqWalkS := rfl
theorem evi_rng1 {a δ μ} : evi T R R1 (.rng1 a) δ μ = (ev T R R1 a δ μ).bnd fun x μ => match x with
    | .d (.int n) => .ok (rngVals 0 n.toNat, []) μ
    | _ => .bad := rfl
theorem evi_rng2 {a b δ μ} : evi T R R1 (.rng2 a b) δ μ = (ev T R R1 a δ μ).bnd fun x μ => (ev T R R1 b δ μ).bnd fun y μ => match x, y with
    | .d (.int i), .d (.int j) => .ok (rngVals i (j - i).toNat, []) μ
    | _, _ => .bad := rfl
theorem evi_rng3 {a b c δ μ} : evi T R R1 (.rng3 a b c) δ μ = (ev T R R1 a δ μ).bnd fun x μ => (ev T R R1 b δ μ).bnd fun y μ => (ev T R R1 c δ μ).bnd fun z μ => match x, y, z with
    | .d (.int i), .d (.int j), .d (.int k) => need (decide (k ≠ 0 ∧ -1000000 < k ∧ k < 1000000 ∧ -(2 ^ 61) < i ∧ i < 2 ^ 61 ∧ -(2 ^ 61) < j ∧ j < 2 ^ 61)) (.ok (rngVals3 i k (rngN i j k), []) μ)
    | _, _, _ => .bad := rfl
theorem evi_enm {e δ μ} : evi T R R1 (.enm e) δ μ = (ev T R R1 e δ μ).bnd fun x μ => need (isL μ x) ((seqWalk x μ).bnd fun wk μ => match mapO (snap μ 0) wk.1 with
    | some ds => .ok (ds.zipIdx.map fun p => .d (.tup [.int p.2, p.1]), wk.2) μ
    | none => .bad) := rfl
theorem evi_enmFrom {e k δ μ} : evi T R R1 (.enmFrom e k) δ μ = (ev T R R1 e δ μ).bnd fun x μ => (seqWalk x μ).bnd fun wk μ => match mapO (snap μ 0) wk.1 with
    | some ds => .ok (ds.zipIdx.map fun p => .d (.tup [.int (k + p.2), p.1]), wk.2) μ
    | none => .bad := rfl
theorem evi_zip {a b δ μ} : evi T R R1 (.zip a b) δ μ = (ev T R R1 a δ μ).bnd fun x μ => (ev T R R1 b δ μ).bnd fun y μ => need (isL μ x == isL μ y) ((seqWalk x μ).bnd fun w1 μ => (seqWalk y μ).bnd fun w2 μ => match mapO (snap μ 0) w1.1, mapO (snap μ 0) w2.1 with
    | some a, some b => .ok ((a.zip b).map fun p => .d (.tup [p.1, p.2]), w1.2 ++ w2.2) μ
    | _, _ => .bad) := rfl
theorem evi_rev {e δ μ} : evi T R R1 (.rev e) δ μ = (ev T R R1 e δ μ).bnd fun x μ => (seqWalk x μ).bnd fun wk μ => .ok (wk.1.reverse, wk.2) μ := rfl
theorem evi_keys {e δ μ} : evi T R R1 (.keys e) δ μ = (ev T R R1 e δ μ).bnd fun x μ => match fpairs μ x with
    | some kvs => .ok (kvs.map fun p => .d p.1, []) μ
    | none => .bad := rfl
theorem evi_vals {e δ μ} : evi T R R1 (.vals e) δ μ = (ev T R R1 e δ μ).bnd fun x μ => match fpairs μ x with
    | some kvs => .ok (kvs.map fun p => .d p.2, []) μ
    | none => .bad := rfl
theorem evi_itms {e δ μ} : evi T R R1 (.itms e) δ μ = (ev T R R1 e δ μ).bnd fun x μ => match fpairs μ x with
    | some kvs => .ok (kvs.map fun p => .d (.tup [p.1, p.2]), []) μ
    | none => .bad := rfl
theorem asg_nm {i v δ μ} : asg T R R1 (.nm i) v δ μ = need (decide (i < δ.length)) (.ok (δ.set i (some v)) μ) := rfl
theorem asg_tp {ts v δ μ} : asg T R R1 (.tp ts) v δ μ = match v with
    | .d (.tup ds) => need (decide (ds.length = tgsLen ts)) (asgs T R R1 ts (ds.map .d) δ μ).nox
    | _ => .bad := rfl
theorem asg_sub {o i v δ μ} : asg T R R1 (.sub o i) v δ μ = (ev T R R1 o δ μ).bnd fun x μ => (ev T R R1 i δ μ).bnd fun y μ => (setSub x y v μ).bnd fun _ μ => .ok δ μ := rfl
theorem asg_slc {o lo hi v δ μ} : asg T R R1 (.slc o lo hi) v δ μ = (ev T R R1 o δ μ).bnd fun x μ => (evo T R R1 lo δ μ).bnd fun l μ => (evo T R R1 hi δ μ).bnd fun h μ => (setSl x l h v μ).bnd fun _ μ => .ok δ μ := rfl
theorem asg_att {o f v δ μ} : asg T R R1 (.att o f) v δ μ = (ev T R R1 o δ μ).bnd fun x μ => (setAtt x f v μ).bnd fun _ μ => .ok δ μ := rfl
theorem asgs_nil {δ μ} : asgs T R R1 (.nil) [] δ μ = .ok δ μ := rfl
theorem asgs_cons {t ts δ μ v vs} : asgs T R R1 (.cons t ts) (v :: vs) δ μ = (asg T R R1 t v δ μ).bnd fun δ μ => asgs T R R1 ts vs δ μ := rfl
theorem exS_asg {t e δ μ} : exS T R R1 (.asg t e) δ μ = (ev T R R1 e δ μ).then_ δ fun v μ => (asg T R R1 t v δ μ).then_ δ fun δ' μ => .ok δ' .nx μ := rfl
theorem exS_asg2 {t u e δ μ} : exS T R R1 (.asg2 t u e) δ μ = (ev T R R1 e δ μ).then_ δ fun v μ => (asg T R R1 t v δ μ).then_ δ fun δ' μ => (asg T R R1 u v δ' μ).then_ δ' fun δ2 μ => .ok δ2 .nx μ := rfl
theorem exS_aug {t op e δ μ} : exS T R R1 (.aug t op e) δ μ = match t with
    | .nm i => match δ.at i with
      | some x => (ev T R R1 e δ μ).then_ δ fun y μ => (augI op x y μ).then_ δ fun v μ => .ok (δ.set i (some v)) .nx μ
      | none => .bad
    | .att o f => (ev T R R1 o δ μ).then_ δ fun p μ => (attV p f μ).then_ δ fun x μ => (ev T R R1 e δ μ).then_ δ fun y μ => (binV op x y μ).then_ δ fun v μ => (setAtt p f v μ).then_ δ fun _ μ => .ok δ .nx μ
    | .sub o i => (ev T R R1 o δ μ).then_ δ fun p μ => (ev T R R1 i δ μ).then_ δ fun k μ => (idxV p k μ).then_ δ fun x μ => (ev T R R1 e δ μ).then_ δ fun y μ => (binV op x y μ).then_ δ fun v μ => (setSub p k v μ).then_ δ fun _ μ => .ok δ .nx μ
    | _ => .bad := rfl
theorem exS_augL {i e δ μ} : exS T R R1 (.augL i e) δ μ = match δ.at i with
    | some x => (ev T R R1 e δ μ).then_ δ fun y μ => (bmeV .extend x [y] μ).then_ δ fun _ μ => .ok δ .nx μ
    | none => .bad := rfl
theorem exS_expr {e δ μ} : exS T R R1 (.expr e) δ μ = (ev T R R1 e δ μ).then_ δ fun _ μ => .ok δ .nx μ := rfl
theorem exS_ret {e δ μ} : exS T R R1 (.ret e) δ μ = (ev T R R1 e δ μ).then_ δ fun v μ => .ok δ (.rt v) μ := rfl
theorem exS_retN {δ μ} : exS T R R1 (.retN) δ μ = .ok δ (.rt (.d .non)) μ := rfl
theorem exS_ife {c a b δ μ} : exS T R R1 (.ife c a b) δ μ = (evt T R R1 c δ μ).then_ δ fun r μ => if r = true then exSs T R R1 a δ μ else exSs T R R1 b δ μ := rfl
theorem exS_raise {c es δ μ} : exS T R R1 (.raise c es) δ μ = (evs T R R1 es δ μ).then_ δ fun vs μ => match exnOf T c vs with
    | some x => .ex x δ μ
    | none => .bad := rfl
theorem exS_raiseH {c es δ μ} : exS T R R1 (.raiseH c es) δ μ = (evs T R R1 es δ μ).then_ δ fun vs μ => match exnOf T c vs with
    | some x => .ex x δ μ
    | none => .bad := rfl
theorem exS_pass {δ μ} : exS T R R1 (.pass) δ μ = .ok δ .nx μ := rfl
theorem exS_brk {δ μ} : exS T R R1 (.brk) δ μ = .ok δ .bk μ := rfl
theorem exS_cont {δ μ} : exS T R R1 (.cont) δ μ = .ok δ .ct μ := rfl
theorem exS_ndef {i f caps δ μ} : exS T R R1 (.ndef i f caps) δ μ = match mapO δ.at caps with
    | some vs => .ok (δ.set i (some (.clo f vs))) .nx μ
    | none => .bad := rfl
theorem exSs_nil {δ μ} : exSs T R R1 (.nil) δ μ = .ok δ .nx μ := rfl
theorem exSs_cons {s ss δ μ} : exSs T R R1 (.cons s ss) δ μ = (exS T R R1 s δ μ).seq fun δ μ => exSs T R R1 ss δ μ := rfl
theorem exSs_kill {is ss δ μ} : exSs T R R1 (.kill is ss) δ μ = exSs T R R1 ss (killS is δ) μ := rfl
theorem exHs_nil {x δ μ} : exHs T R R1 (.nil) x δ μ = .ex x δ μ := rfl
theorem exHs_cons {cs as_ b hs x δ μ} : exHs T R R1 (.cons cs as_ b hs) x δ μ = if cs.any fun c => T.sub x.cls c then (match as_ with
      | some i => (exSs T R R1 b (δ.set i (some (.exn x))) μ).clr i
      | none => (exSs T R R1 b δ μ).nos) else exHs T R R1 hs x δ μ := rfl
end
end Mp
end
section
set_option linter.all false
set_option autoImplicit false
namespace Mp
open PySem (Str)
theorem run_of {T : Tbl} {f : Nat} {fn : Fn} (h : T.fn f = some fn) (n : Nat) (args : List Val) (μ : Heap) (hl : args.length = fn.npar) : run T (n + 1) f args μ = (exSs T (run T n) (run1 T n) fn.body (args.map some ++ List.replicate (fn.nslot - fn.npar) none) μ).fin := by
  rw [run_succ]
  unfold call1
  rw [h]
  exact if_pos hl
section
variable {α β : Type}
theorem ite_then (p : Prop) [Decidable p] (a b : Res α) (δ : Slots) (f : α → Heap → RS) : (if p then a else b).then_ δ f = if p then a.then_ δ f else b.then_ δ f := by split <;> rfl
theorem ite_seq (p : Prop) [Decidable p] (a b : RS) (f : Slots → Heap → RS) : (if p then a else b).seq f = if p then a.seq f else b.seq f := by split <;> rfl
theorem turn_nx (δ : Slots) (μ : Heap) (n : Nat) (k : Slots → Heap → RS) : (RS.ok δ .nx μ).turn false n k = k δ μ := rfl
theorem turn_ct (δ : Slots) (μ : Heap) (n : Nat) (k : Slots → Heap → RS) : (RS.ok δ .ct μ).turn false n k = k δ μ := rfl
theorem turn_nx' (δ : Slots) (μ μ' : Heap) (n : Nat) (k : Slots → Heap → RS) (h : gcTo true n δ μ = some μ') : (RS.ok δ .nx μ).turn true n k = k δ μ' := by unfold RS.turn; simp only [h]
theorem turn_ct' (δ : Slots) (μ μ' : Heap) (n : Nat) (k : Slots → Heap → RS) (h : gcTo true n δ μ = some μ') : (RS.ok δ .ct μ).turn true n k = k δ μ' := by unfold RS.turn; simp only [h]
theorem turn_bk (δ : Slots) (μ : Heap) (gc : Bool) (n : Nat) (k : Slots → Heap → RS) : (RS.ok δ .bk μ).turn gc n k = .ok δ .nx μ := rfl
theorem turn_rt (δ : Slots) (v : Val) (μ : Heap) (gc : Bool) (n : Nat) (k : Slots → Heap → RS) : (RS.ok δ (.rt v) μ).turn gc n k = .ok δ (.rt v) μ := rfl
theorem turn_ex (x : Exn) (δ : Slots) (μ : Heap) (gc : Bool) (n : Nat) (k : Slots → Heap → RS) : (RS.ex x δ μ).turn gc n k = .ex x δ μ := rfl
theorem ite_turn (p : Prop) [Decidable p] (a b : RS) (gc : Bool) (n : Nat) (k : Slots → Heap → RS) : (if p then a else b).turn gc n k = if p then a.turn gc n k else b.turn gc n k := by split <;> rfl
theorem ite_fin (p : Prop) [Decidable p] (a b : RS) : (if p then a else b).fin = if p then a.fin else b.fin := by split <;> rfl
theorem fin_nx (δ : Slots) (μ : Heap) : (RS.ok δ .nx μ).fin = .ok (.d .non) μ := rfl
theorem fin_rt (δ : Slots) (v : Val) (μ : Heap) : (RS.ok δ (.rt v) μ).fin = .ok v μ := rfl
theorem fin_ex (x : Exn) (δ : Slots) (μ : Heap) : (RS.ex x δ μ).fin = .ex x μ := rfl
theorem ite_d (p : Prop) [Decidable p] (a b : D) : (if p then Val.d a else .d b) = .d (if p then a else b) := by split <;> rfl
theorem ite_int (p : Prop) [Decidable p] (a b : Int) : (if p then D.int a else .int b) = .int (if p then a else b) := by split <;> rfl
theorem ite_bl (p : Prop) [Decidable p] (a b : Bool) : (if p then D.bl a else .bl b) = .bl (if p then a else b) := by split <;> rfl
end
theorem at_eq (δ : Slots) (i : Nat) (v : Option Val) (h : δ[i]? = some v) : δ.at i = v := by unfold Slots.at; rw [h]
theorem at_zero (a : Option Val) (δ : Slots) : Slots.at (a :: δ) 0 = a := rfl
theorem at_succ (a : Option Val) (δ : Slots) (n : Nat) : Slots.at (a :: δ) (n + 1) = Slots.at δ n := rfl
theorem aug_add (i j : Int) (μ : Heap) : augI .add (.d (.int i)) (.d (.int j)) μ = .ok (.d (.int (i + j))) μ := rfl
theorem aug_sub (i j : Int) (μ : Heap) : augI .sub (.d (.int i)) (.d (.int j)) μ = .ok (.d (.int (i - j))) μ := rfl
theorem exn_pl {T : Tbl} {c : Nat} (h : T.exk c = .pl) (s : Str) : exnOf T c [.d (.str s)] = some (.pl c) := by unfold exnOf; rw [h]
theorem exn_fldS {T : Tbl} {c : Nat} {f : Str} (h : T.exk c = .fld f) (y : Str) (hy : y.length ≤ 1000000) : exnOf T c [.d (.str y)] = some (.fld c f (.str y)) := by
  unfold exnOf; rw [h]; exact if_pos hy
theorem exn_fldI {T : Tbl} {c : Nat} {f : Str} (h : T.exk c = .fld f) (i : Int) (hi : i.natAbs.log2 < 1920) : exnOf T c [.d (.int i)] = some (.fld c f (.int i)) := by
  unfold exnOf; rw [h]; exact if_pos hi
/-! truth -/
theorem truth_non (μ : Heap) : truth μ (.d .non) = some false := rfl
theorem truth_bl (μ : Heap) (b : Bool) : truth μ (.d (.bl b)) = some b := rfl
theorem truth_int (μ : Heap) (i : Int) : truth μ (.d (.int i)) = some (i != 0) := rfl
theorem truth_lst (μ : Heap) (ds : List D) : truth μ (.d (.lst ds)) = some (!ds.isEmpty) := rfl
theorem truth_tup (μ : Heap) (ds : List D) : truth μ (.d (.tup ds)) = some (!ds.isEmpty) := rfl
/-! comparisons -/
section
variable (μ : Heap) (i j : Int) (a b : Bool) (x : D)
theorem cmp_lt : cmpop .lt (.d (.int i)) (.d (.int j)) μ = some (decide (i < j)) := rfl
theorem cmp_le : cmpop .le (.d (.int i)) (.d (.int j)) μ = some (decide (i ≤ j)) := rfl
theorem cmp_gt : cmpop .gt (.d (.int i)) (.d (.int j)) μ = some (decide (j < i)) := rfl
theorem cmp_ge : cmpop .ge (.d (.int i)) (.d (.int j)) μ = some (decide (j ≤ i)) := rfl
theorem cmp_is0 : cmpop .is (.d .non) (.d .non) μ = some true := rfl
theorem cmp_isI : cmpop .is (.d (.int i)) (.d .non) μ = some false := rfl
theorem cmp_isT (ds : List D) : cmpop .is (.d (.tup ds)) (.d .non) μ = some false := rfl
theorem cmp_isB : cmpop .is (.d (.bl a)) (.d (.bl b)) μ = some (decide (a = b)) := rfl
theorem cmp_isn0 : cmpop .isn (.d .non) (.d .non) μ = some false := rfl
theorem cmp_isnI : cmpop .isn (.d (.int i)) (.d .non) μ = some true := rfl
theorem cmp_isnT (ds : List D) : cmpop .isn (.d (.tup ds)) (.d .non) μ = some true := rfl
theorem cmp_eqI : cmpop .eq (.d (.int i)) (.d (.int j)) μ = some (decide (i = j)) := by
  show some (i == j) = _
  rw [Bool.beq_eq_decide_eq]
theorem cmp_neI : cmpop .ne (.d (.int i)) (.d (.int j)) μ = some (!decide (i = j)) := by
  show some (!(i == j)) = _
  rw [Bool.beq_eq_decide_eq]
theorem cmp_eqB : cmpop .eq (.d (.bl a)) (.d (.bl b)) μ = some (a == b) := rfl
theorem cmp_neB : cmpop .ne (.d (.bl a)) (.d (.bl b)) μ = some (!(a == b)) := rfl
end
/-! arithmetic -/
section
variable (μ : Heap) (i j : Int)
theorem bin_add : binV .add (.d (.int i)) (.d (.int j)) μ = .ok (.d (.int (i + j))) μ := rfl
theorem bin_sub : binV .sub (.d (.int i)) (.d (.int j)) μ = .ok (.d (.int (i - j))) μ := rfl
theorem bin_mul (h : (-(2 ^ 64) < i ∧ i < 2 ^ 64) ∨ (-(2 ^ 64) < j ∧ j < 2 ^ 64)) : binV .mul (.d (.int i)) (.d (.int j)) μ = .ok (.d (.int (i * j))) μ := by
  show need (mulOk i j) _ = _
  refine need_of ?_ _
  unfold mulOk
  simp only [Bool.or_eq_true, decide_eq_true_eq]
  exact h
theorem bin_repT {ds : List D} {k : Int} (h : repOk k ds = true) : binV .mul (.d (.tup ds)) (.d (.int k)) μ = .ok (.d (.tup (List.replicate k.toNat ds).flatten)) μ := need_of h _
theorem bin_fdiv (h : 0 < j ∧ j < 1073741824) : binV .fdiv (.d (.int i)) (.d (.int j)) μ = .ok (.d (.int (i / j))) μ := need_of (decide_eq_true h) _
theorem bin_mod (h : 0 < j) : binV .mod (.d (.int i)) (.d (.int j)) μ = .ok (.d (.int (i % j))) μ := need_of (decide_eq_true h) _
theorem bin_pow (h : 0 ≤ j ∧ j ≤ 1000000 ∧ i.natAbs < 2 ^ 64) : binV .pow (.d (.int i)) (.d (.int j)) μ = .ok (.d (.int (i ^ j.toNat))) μ := need_of (decide_eq_true h) _
end
/-! ### lists of data -/
section
variable {α β γ : Type}
theorem mapO_some (f : α → Option β) (g : α → β) (h : ∀ a, f a = some (g a)) : ∀ l : List α, mapO f l = some (l.map g)
  | [] => rfl
  | a :: l => by
    unfold mapO
    rw [h a, mapO_some f g h l]
    rfl
theorem mapO_map (f : β → Option γ) (g : α → β) (k : α → γ) (h : ∀ a, f (g a) = some (k a)) : ∀ l : List α, mapO f (l.map g) = some (l.map k)
  | [] => rfl
  | a :: l => by
    simp only [List.map_cons, mapO, h a, mapO_map f g k h l]
theorem snap_d (μ : Heap) (n : Nat) (x : D) : snap μ n (.d x) = some x := by cases n <;> rfl
theorem snaps_d (μ : Heap) (n : Nat) (xs : List D) : mapO (snap μ n) (xs.map .d) = some xs := by
  rw [mapO_map (snap μ n) Val.d id fun a => snap_d μ n a, List.map_id]
theorem snaps_f (μ : Heap) (n : Nat) (f : α → D) (xs : List α) : mapO (snap μ n) (xs.map fun a => .d (f a)) = some (xs.map f) := mapO_map (snap μ n) (fun a => Val.d (f a)) f (fun a => snap_d μ n (f a)) xs
theorem snap_lst {μ : Heap} {i : Nat} {xs : List D} (h : μ[i]? = some (.lst (xs.map .d))) (n : Nat) : snap μ (n + 1) (.ref i) = some (.lst xs) := by
  simp only [snap, h, snaps_d]
theorem freezes_d (f : Val → Heap → Option (D × Heap)) (h : ∀ x μ, f (.d x) μ = some (x, μ)) : ∀ (xs : List D) (μ : Heap), freeze.freezes f (xs.map .d) μ = some (xs, μ)
  | [], _ => rfl
  | x :: xs, μ => by
    simp only [List.map_cons, freeze.freezes, h x μ, freezes_d f h xs μ]
theorem freeze_d (n : Nat) (x : D) (μ : Heap) : freeze n (.d x) μ = some (x, μ) := by cases n <;> rfl
theorem freeze_lst {μ : Heap} {i : Nat} {xs : List D} (h : μ[i]? = some (.lst (xs.map .d))) (n : Nat) : freeze (n + 1) (.ref i) μ = some (.lst xs, μ.set i (.frz (.lst xs))) := by
  simp only [freeze, h, freezes_d _ (fun x μ => freeze_d n x μ)]
theorem ints_map (xs : List Int) : intL (xs.map .int) = some xs := by
  unfold intL
  rw [mapO_map _ D.int id fun a => rfl, List.map_id]
theorem bools_map (xs : List Bool) : boolL (xs.map .bl) = some xs := by
  unfold boolL
  rw [mapO_map _ D.bl id fun a => rfl, List.map_id]
theorem snoc_d (xs : List D) (x : D) : xs.map Val.d ++ [.d x] = (xs ++ [x]).map .d := by rw [List.map_append]; rfl
theorem app_d (xs ys : List D) : xs.map Val.d ++ ys.map .d = (xs ++ ys).map .d := (List.map_append).symm
theorem snoc_i (xs : List Int) (x : Int) : xs.map D.int ++ [.int x] = (xs ++ [x]).map .int := by rw [List.map_append]; rfl
theorem need_small (n : Nat) (h : n < 16777216) (r : Res α) : need (small n) r = r := need_of (decide_eq_true h) r
theorem belows_d (n : Nat) (xs : List D) : belows n (xs.map .d) = true := by
  induction xs with
  | nil => rfl
  | cons a r ih => exact ih
/-! indexing -/
theorem atI_nat {xs : List α} {i : Nat} {a : α} (h : xs[i]? = some a) : atI xs (i : Int) = some a := by
  have hl := (List.getElem?_eq_some_iff.mp h).1
  unfold atI ixN
  rw [if_pos (Int.natCast_nonneg i), if_pos (Int.ofNat_lt.mpr hl)]
  exact h
theorem atI_of {xs : List α} {i : Int} {a : α} (h0 : 0 ≤ i) (h : xs[i.toNat]? = some a) : atI xs i = some a := by
  have := atI_nat h
  rwa [Int.toNat_of_nonneg h0] at this
theorem atI_map (f : α → β) (xs : List α) (i : Int) : atI (xs.map f) i = (atI xs i).map f := by
  unfold atI
  rw [List.length_map]
  split
  · rw [List.getElem?_map]
  · rfl
theorem opt_map (o : Option α) (f : α → β) (μ : Heap) (k : β → Heap → Res γ) : (opt (o.map f) μ).bnd k = (opt o μ).bnd fun a μ => k (f a) μ := by cases o <;> rfl
theorem idx_lst (ds : List D) (i : Int) (μ : Heap) : idxV (.d (.lst ds)) (.d (.int i)) μ = opt ((atI ds i).map .d) μ := by
  show opt (atI (ds.map Val.d) i) μ = _
  rw [atI_map]
theorem idx_tup (ds : List D) (i : Int) (μ : Heap) : idxV (.d (.tup ds)) (.d (.int i)) μ = opt ((atI ds i).map .d) μ := by
  show opt (atI (ds.map Val.d) i) μ = _
  rw [atI_map]
theorem idx_ref {μ : Heap} {a : Nat} {vs : List Val} (h : μ[a]? = some (.lst vs)) (i : Int) : idxV (.ref a) (.d (.int i)) μ = opt (atI vs i) μ := by
  have e2 : items μ (.ref a) = some vs := by simp only [items, h]
  unfold idxV
  simp only [e2]
theorem lookD_map {α β : Type} (g : α → β) (k : D) : ∀ kvs : List (D × α), lookD k (kvs.map fun p => (p.1, g p.2)) = (lookD k kvs).map g
  | [] => rfl
  | (j, v) :: r => by
    show (if eqv j k then some (g v) else lookD k (r.map fun p => (p.1, g p.2))) = (if eqv j k then some v else lookD k r).map g
    by_cases h : eqv j k = true
    · rw [if_pos h, if_pos h]; rfl
    · rw [if_neg h, if_neg h, lookD_map g k r]
theorem idx_dct (kvs : List (D × D)) (k : D) (μ : Heap) : idxV (.d (.dct kvs)) (.d k) μ = need (isKey0 k) (opt ((lookD k kvs).map .d) μ) := by
  unfold idxV
  have e1 : items μ (.d (.dct kvs)) = none := rfl
  have e2 : pairs μ (.d (.dct kvs)) = some (kvs.map fun p => (p.1, .d p.2)) := rfl
  cases k <;> simp only [e1, e2, lookD_map]
theorem lookD_nil {α : Type} (k : D) : lookD k ([] : List (D × α)) = none := rfl
theorem lookD_cons {α : Type} (k j : D) (v : α) (r : List (D × α)) : lookD k ((j, v) :: r) = if eqv j k then some v else lookD k r := rfl
theorem fpairs_d (kvs : List (D × D)) (μ : Heap) : fpairs μ (.d (.dct kvs)) = some kvs := rfl
theorem items_dct (kvs : List (D × D)) (μ : Heap) : items μ (.d (.dct kvs)) = none := rfl
end
/-! ### loops -/
section
variable {α : Type} {step : Val → Slots → Heap → RS} {g : List (Nat × Cell)} {n : Nat} {gc : Bool}
theorem forL_nil {μ : Heap} (h : guardOk g μ) (δ : Slots) : forL gc n g step [] δ μ = .ok δ .nx μ := by
  unfold forL; rw [if_pos h]
theorem forL_cons {μ : Heap} (h : guardOk g μ) (v : Val) (vs : List Val) (δ : Slots) : forL gc n g step (v :: vs) δ μ = (step v δ μ).turn gc n fun δ μ => forL gc n g step vs δ μ := by
  rw [forL, if_pos h]
theorem forL_nil0 (δ : Slots) (μ : Heap) : forL gc n [] step [] δ μ = .ok δ .nx μ := forL_nil (g := []) trivial δ
theorem forL_cons0 (v : Val) (vs : List Val) (δ : Slots) (μ : Heap) : forL gc n [] step (v :: vs) δ μ = (step v δ μ).turn gc n fun δ μ => forL gc n [] step vs δ μ := forL_cons (g := []) trivial v vs δ
/-- a loop whose states are told -/
theorem forL_run (f : α → Val) (δ : Nat → Slots) (μ : Nat → Heap) : ∀ (xs : List α) (i : Nat), (∀ j, i ≤ j → j ≤ i + xs.length → guardOk g (μ j)) →
    (∀ j x, xs[j]? = some x → step (f x) (δ (i + j)) (μ (i + j)) = .ok (δ (i + j + 1)) .nx (μ (i + j + 1))) → forL false n g step (xs.map f) (δ i) (μ i) = .ok (δ (i + xs.length)) .nx (μ (i + xs.length))
  | [], i, hg, _ => forL_nil (hg i (Nat.le_refl i) (Nat.le_add_right _ _)) _
  | x :: xs, i, hg, h => by
    have e := h 0 x rfl
    rw [Nat.add_zero] at e
    rw [List.map_cons, forL_cons (hg i (Nat.le_refl i) (Nat.le_add_right _ _)), e]
    show forL false n g step (xs.map f) (δ (i + 1)) (μ (i + 1)) = _
    rw [forL_run f δ μ xs (i + 1) (fun j h1 h2 => hg j (by omega) (by rw [List.length_cons]; omega)) fun j y hy => by
      have := h (j + 1) y hy
      rw [show i + 1 + j = i + (j + 1) by omega]
      exact this]
    rw [List.length_cons, show i + 1 + xs.length = i + (xs.length + 1) by omega]
theorem forL_run0 {xs : List α} (f : α → Val) (δ : Nat → Slots) (μ : Nat → Heap) (hg : ∀ j, j ≤ xs.length → guardOk g (μ j)) (h : ∀ j x, xs[j]? = some x → step (f x) (δ j) (μ j) = .ok (δ (j + 1)) .nx (μ (j + 1))) {δ0 : Slots} {μ0 : Heap} (e1 : δ0 = δ 0) (e2 : μ0 = μ 0) :
    forL false n g step (xs.map f) δ0 μ0 = .ok (δ xs.length) .nx (μ xs.length) := by
  subst e1 e2
  have := forL_run (step := step) (n := n) f δ μ xs 0 (fun j _ hj => hg j (by omega)) (fun j x hx => by rw [Nat.zero_add]; exact h j x hx)
  rwa [Nat.zero_add] at this
/-- .. over a range -/
theorem forL_rng {lo : Int} {m : Nat} (δ : Nat → Slots) (μ : Nat → Heap) (h : ∀ j, j < m → step (.d (.int (lo + j))) (δ j) (μ j) = .ok (δ (j + 1)) .nx (μ (j + 1))) {δ0 : Slots} {μ0 : Heap} (e1 : δ0 = δ 0) (e2 : μ0 = μ 0) :
    forL false n [] step (rngVals lo m) δ0 μ0 = .ok (δ m) .nx (μ m) := by
  have := forL_run0 (g := []) (step := step) (n := n) (xs := List.range m) (fun k : Nat => Val.d (.int (lo + k))) δ μ (fun _ _ => trivial) (fun j x hx => by
    obtain ⟨hj, rfl⟩ := List.getElem?_eq_some_iff.mp hx
    rw [List.length_range] at hj
    rw [List.getElem_range]
    exact h j hj) e1 e2
  rwa [List.length_range] at this
end
/-! ### operations, by constructors -/
section
variable (T : Tbl) (R : Run) (μ : Heap) (a : Nat) (v w : Val) (vs : List Val) (i j k : Int) (s : Str) (ds : List D) (b c : Bool) (kvs : List (D × D)) (f : Str)
theorem mapO_nil {α β : Type} (f : α → Option β) : mapO f [] = some [] := rfl
theorem mapO_cons {α β : Type} (f : α → Option β) (a : α) (l : List α) : mapO f (a :: l) = match f a with
    | some b => match mapO f l with
      | some bs => some (b :: bs)
      | none => none
    | none => none := rfl
theorem items_lst : items μ (.d (.lst ds)) = some (ds.map .d) := rfl
theorem items_tup : items μ (.d (.tup ds)) = some (ds.map .d) := rfl
theorem items_ref : items μ (.ref a) = match μ[a]? with
    | some (.lst vs) => some vs
    | some (.frz (.lst ds)) => some (ds.map .d)
    | _ => none := rfl
theorem pairs_dct : pairs μ (.d (.dct kvs)) = some (kvs.map fun p => (p.1, .d p.2)) := rfl
theorem pairs_ref : pairs μ (.ref a) = match μ[a]? with
    | some (.dct kvs) => some kvs
    | some (.frz (.dct kvs)) => some (kvs.map fun p => (p.1, .d p.2))
    | _ => none := rfl
theorem isL_lst : isL μ (.d (.lst ds)) = true := rfl
theorem isL_tup : isL μ (.d (.tup ds)) = false := rfl
theorem isL_int : isL μ (.d (.int i)) = false := rfl
theorem isL_ref : isL μ (.ref a) = match μ[a]? with
    | some (.lst _) => true
    | some (.frz (.lst _)) => true
    | _ => false := rfl
theorem isDct_lst : isDct μ (.d (.lst ds)) = false := rfl
theorem isDct_tup : isDct μ (.d (.tup ds)) = false := rfl
theorem isDct_dct : isDct μ (.d (.dct kvs)) = true := rfl
theorem isDct_str : isDct μ (.d (.str s)) = false := rfl
theorem isDct_ref : isDct μ (.ref a) = match μ[a]? with
    | some (.dct _) => true
    | some (.frz (.dct _)) => true
    | _ => false := rfl
theorem isD_d (x : D) : isD (.d x) = true := rfl
theorem isD_ref : isD (.ref a) = false := rfl
theorem flat_int : flat (.int i) = true := rfl
theorem flat_bl : flat (.bl b) = true := rfl
theorem flat_non : flat .non = true := rfl
theorem flat_str : flat (.str s) = true := rfl
theorem itemsD_def : itemsD μ v = match items μ v with
  | some vs => mapO (snap μ 0) vs
  | none => none := rfl
theorem seqWalk_ref : seqWalk (.ref a) μ = match μ[a]? with
    | some (.lst vs) => .ok (vs, [(a, .lst vs)]) μ
    | some (.frz (.lst ds)) => .ok (ds.map .d, []) μ
    | _ => .bad := rfl
theorem swS_str (s : Str) (μ : Heap) : seqWalkS (.d (.str s)) μ = .ok (s.cps.toList.map fun c => .d (.str ⟨#[c]⟩), []) μ := rfl
theorem swS_ref (a : Nat) (μ : Heap) : seqWalkS (.ref a) μ = seqWalk (.ref a) μ := rfl
theorem swS_lst (ds : List D) (μ : Heap) : seqWalkS (.d (.lst ds)) μ = .ok (ds.map .d, []) μ := rfl
theorem swS_tup (ds : List D) (μ : Heap) : seqWalkS (.d (.tup ds)) μ = .ok (ds.map .d, []) μ := rfl
theorem seqWalk_lst : seqWalk (.d (.lst ds)) μ = .ok (ds.map .d, []) μ := rfl
theorem seqWalk_tup : seqWalk (.d (.tup ds)) μ = .ok (ds.map .d, []) μ := rfl
theorem truth_ref : truth μ (.ref a) = match μ[a]? with
    | some (.lst vs) => some (!vs.isEmpty)
    | some (.frz (.lst ds)) => some (!ds.isEmpty)
    | _ => none := rfl
theorem truth_str : truth μ (.d (.str s)) = if small s.length = true then some (decide (s.length ≠ 0)) else none := rfl
theorem newL_true : newL true vs μ = need (small vs.length) (need (vs.all simple) (.ok (.ref μ.length) (μ ++ [.lst vs]))) := rfl
theorem newL_false : newL false vs μ = need (small vs.length) (match mapO (snap μ 0) vs with
    | some ds => .ok (.d (.lst ds)) μ
    | none => .bad) := rfl
theorem newD_true (kvs : List (D × Val)) : newD true kvs μ = need (small kvs.length && kvs.all fun p => isKey0 p.1) (need ((kvs.map (·.2)).all simple) (.ok (.ref μ.length) (μ ++ [.dct kvs]))) := rfl
theorem newD_false (kvs : List (D × Val)) : newD false kvs μ = need (small kvs.length && kvs.all fun p => isKey0 p.1) (match mapO (snap μ 0) (kvs.map (·.2)) with
    | some ds => .ok (.d (.dct ((kvs.map (·.1)).zip ds))) μ
    | none => .bad) := rfl
theorem tupV_def : tupV vs μ = need (small vs.length) (match mapO (snap μ 0) vs with
  | some ds => .ok (.d (.tup ds)) μ
  | none => .bad) := rfl
theorem attV_ref : attV (.ref a) f μ = match μ[a]? with
    | some (.obj _ fs) => opt (fs.lookup f) μ
    | some (.frz (.obj _ fs)) => opt ((fs.lookup f).map .d) μ
    | _ => .bad := rfl
theorem attV_obj (n : Nat) (fs : List (Str × D)) : attV (.d (.obj n fs)) f μ = opt ((fs.lookup f).map .d) μ := rfl
theorem setAtt_ref : setAtt (.ref a) f v μ = match μ[a]? with
    | some (.obj c fs) => need (decide (fs.length < 900) && simple v) (.ok () (μ.set a (.obj c (setF f v fs))))
    | _ => .bad := rfl
theorem setSub_ref : setSub (.ref a) w v μ = match μ[a]? with
    | some (.lst vs) => match w with
      | .d (.int k) => match ixN vs.length k with
        | some j => need (simple v) (.ok () (μ.set a (.lst (vs.set j v))))
        | none => .bad
      | _ => .bad
    | some (.dct kvs) => match w with
      | .d k => need (isKey0 k && small (kvs.length + 1) && simple v) (.ok () (μ.set a (.dct (putD k v kvs))))
      | _ => .bad
    | _ => .bad := rfl
theorem isDctO_ref : isDctO μ (.ref a) = match μ[a]? with
  | some (.dct _) => true
  | _ => false := rfl
theorem sameRef_d (a : Nat) (x : D) : sameRef a (.d x) = false := rfl
theorem bmt_append : bmeTy .append μ v = isL μ v := rfl
theorem bmt_extend : bmeTy .extend μ v = isL μ v := rfl
theorem bmt_pop0 : bmeTy .pop0 μ v = isL μ v := rfl
theorem bmt_popAt : bmeTy .popAt μ v = isL μ v := rfl
theorem bmt_insert : bmeTy .insert μ v = isL μ v := rfl
theorem bmt_remove : bmeTy .remove μ v = isL μ v := rfl
theorem bmt_index : bmeTy .index μ v = isL μ v := rfl
theorem bmt_reverse : bmeTy .reverse μ v = isL μ v := rfl
theorem bmt_get1 : bmeTy .get1 μ v = isDct μ v := rfl
theorem bmt_get2 : bmeTy .get2 μ v = isDct μ v := rfl
theorem bmt_setdefault : bmeTy .setdefault μ v = isDctO μ v := rfl
theorem bmt_update : bmeTy .update μ v = isDctO μ v := rfl
theorem bme_append : bmeV .append (.ref a) [v] μ = match μ[a]? with
    | some (.lst xs) => need (small (xs.length + 1) && simple v) (.ok (.d .non) (μ.set a (.lst (xs ++ [v]))))
    | _ => .bad := rfl
theorem bme_extend : bmeV .extend (.ref a) [v] μ = match μ[a]?, items μ v with
    | some (.lst xs), some ys => need (small (xs.length + ys.length)) (.ok (.d .non) (μ.set a (.lst (xs ++ ys))))
    | _, _ => .bad := rfl
theorem bme_pop0 : bmeV .pop0 (.ref a) [] μ = match μ[a]? with
    | some (.lst xs) => match xs.getLast? with
      | some v => .ok v (μ.set a (.lst xs.dropLast))
      | none => .bad
    | _ => .bad := rfl
theorem bme_get1 (x : D) : bmeV .get1 v [.d x] μ = match pairs μ v with
    | some kvs => need (isKey0 x) (.ok ((lookD x kvs).getD (.d .non)) μ)
    | none => .bad := rfl
theorem bme_get2 (x : D) : bmeV .get2 v [.d x, w] μ = match pairs μ v with
    | some kvs => need (isKey0 x) (.ok ((lookD x kvs).getD w) μ)
    | none => .bad := rfl
theorem bme_setdefault (x : D) : bmeV .setdefault (.ref a) [.d x, w] μ = match μ[a]? with
    | some (.dct kvs) => need (isKey0 x && small (kvs.length + 1) && simple w) (match lookD x kvs with
      | some u => .ok u μ
      | none => .ok w (μ.set a (.dct (putD x w kvs))))
    | _ => .bad := rfl
theorem bme_update : bmeV .update (.ref a) [v] μ = match μ[a]?, pairs μ v with
    | some (.dct kvs), some us => need (small (kvs.length + us.length) && (!sameRef a v && (us.map (·.2)).all simple)) (.ok (.d .non) (μ.set a (.dct (us.foldl (fun acc p => putD p.1 p.2 acc) kvs))))
    | _, _ => .bad := rfl
theorem len_lst : bltD T .len [.d (.lst ds)] μ = some (.int ds.length) := by show some (D.int (ds.map Val.d).length) = _; rw [List.length_map]
theorem len_tup : bltD T .len [.d (.tup ds)] μ = some (.int ds.length) := by show some (D.int (ds.map Val.d).length) = _; rw [List.length_map]
theorem len_str (h : s.length < 16777216) : bltD T .len [.d (.str s)] μ = some (.int s.length) := if_pos (decide_eq_true h)
theorem len_ref : bltD T .len [.ref a] μ = match items μ (.ref a) with
    | some xs => some (.int xs.length)
    | none => none := rfl
theorem abs_int : bltD T .abs [.d (.int i)] μ = some (.int (if i < 0 then -i else i)) := rfl
theorem int_int : bltD T .int [.d (.int i)] μ = some (.int i) := rfl
theorem int_bl : bltD T .int [.d (.bl b)] μ = some (.int (if b then 1 else 0)) := rfl
theorem tuple_of : bltD T .tuple [v] μ = match itemsD μ v with
    | some ds => some (.tup ds)
    | none => none := rfl
theorem sum_of : bltD T .sum [v] μ = match itemsD μ v with
    | some ds => if isL μ v then (match intL ds with
      | some ns => some (.int ns.sum)
      | none => none) else none
    | none => none := rfl
theorem min1_of : bltD T .min1 [v] μ = match itemsD μ v with
    | some ds => if isL μ v then (match intL ds with
      | some ns => (minL ns).map .int
      | none => none) else none
    | none => none := rfl
theorem max1_of : bltD T .max1 [v] μ = match itemsD μ v with
    | some ds => if isL μ v then (match intL ds with
      | some ns => (maxL ns).map .int
      | none => none) else none
    | none => none := rfl
theorem maxd_of : bltD T .maxd [v, .d (.int k)] μ = match itemsD μ v with
    | some ds => if isL μ v then (match intL ds with
      | some ns => some (.int ((maxL ns).getD k))
      | none => none) else none
    | none => none := rfl
theorem min2_int : bltD T .min2 [.d (.int i), .d (.int j)] μ = some (.int (if j < i then j else i)) := rfl
theorem max2_int : bltD T .max2 [.d (.int i), .d (.int j)] μ = some (.int (if j > i then j else i)) := rfl
theorem all_of : bltD T .all [v] μ = match itemsD μ v with
    | some ds => if isL μ v then (match boolL ds with
      | some ns => some (.bl (ns.all id))
      | none => none) else none
    | none => none := rfl
theorem any_of : bltD T .any [v] μ = match itemsD μ v with
    | some ds => if isL μ v then (match boolL ds with
      | some ns => some (.bl (ns.any id))
      | none => none) else none
    | none => none := rfl
theorem isi_of (ts : List Ty) : bltD T (.isi ts) [v] μ = match tyOf μ v with
    | some t => some (.bl (ts.any fun u => isTy t u))
    | none => none := rfl
theorem isx_of (cs : List Nat) (k : Nat) : bltD T (.isx cs) [.exn (.pl k)] μ = some (.bl (cs.any fun c => T.sub k c)) := rfl
theorem isx_of' (cs : List Nat) (x : Exn) : bltD T (.isx cs) [.exn x] μ = some (.bl (cs.any fun c => T.sub x.cls c)) := rfl
theorem list_none : bltD T .list vs μ = none := by cases vs with
  | nil => rfl
  | cons a r => cases r <;> rfl
theorem list_of : bltL .list [v] μ = items μ v := rfl
theorem sorted_none : bltD T .sorted vs μ = none := by cases vs with
  | nil => rfl
  | cons a r => cases r <;> rfl
theorem sorted_of : bltL .sorted [v] μ = match itemsD μ v with
    | some ds => if isL μ v && (intL ds).isSome then some ((sortD ltB ds).map .d) else if isL μ v && sortOk ds then some ((ds.mergeSort leB).map .d) else if isL μ v && (strL ds).isSome && decide (ds.length < 64) then some ((ds.mergeSort leB).map .d) else if (!isL μ v) && (strL ds).isSome && decide (ds.length < 64) then some ((ds.mergeSort leB).map .d) else none
    | none => match pairs μ v with
      | some kvs => if (strL (kvs.map (·.1))).isSome && decide (kvs.length < 64) then some (((kvs.map (·.1)).mergeSort leB).map .d) else none
      | none => none := rfl
theorem tyOf_non : tyOf μ (.d .non) = some .non := rfl
theorem tyOf_bl : tyOf μ (.d (.bl b)) = some .bl := rfl
theorem tyOf_int : tyOf μ (.d (.int i)) = some .int := rfl
theorem tyOf_str : tyOf μ (.d (.str s)) = some .str := rfl
theorem tyOf_lst : tyOf μ (.d (.lst ds)) = some .lst := rfl
theorem tyOf_tup : tyOf μ (.d (.tup ds)) = some .tup := rfl
theorem tyOf_ref : tyOf μ (.ref a) = match μ[a]? with
    | some (.lst _) => some .lst
    | some (.frz (.lst _)) => some .lst
    | _ => none := rfl
theorem cls_pl (n : Nat) : (Exn.pl n).cls = n := rfl
theorem cls_fld (n : Nat) (f : Str) (d : D) : (Exn.fld n f d).cls = n := rfl
theorem isTy_bl_int : isTy .bl .int = true := rfl
theorem isTy_bl_bl : isTy .bl .bl = true := rfl
theorem isTy_int_int : isTy .int .int = true := rfl
theorem isTy_int_bl : isTy .int .bl = false := rfl
theorem isTy_non_int : isTy .non .int = false := rfl
theorem isTy_non_bl : isTy .non .bl = false := rfl
theorem isTy_tup_int : isTy .tup .int = false := rfl
theorem isTy_tup_tup : isTy .tup .tup = true := rfl
theorem isTy_lst_lst : isTy .lst .lst = true := rfl
theorem isTy_str_str : isTy .str .str = true := rfl
theorem pureCall_def (g : Nat) : pureCall R g vs μ = match mapO (snap μ 8) vs with
  | some ds => match R g (ds.map .d) [] with
    | .ok (.d r) _ => need (vs.all isD || flat r) (.ok (.d r) μ)
    | .ex (.pl c) _ => .ex (.pl c) μ
    | .ex (.fld c g d) _ => need (vs.all isD || flat d) (.ex (.fld c g d) μ)
    | _ => .bad
  | none => .bad := rfl
theorem metF_ref (m : Str) : metF T m (.ref a) μ = match μ[a]? with
    | some (.obj c fs) => if (fs.lookup m).isNone = true then T.meth c m else none
    | _ => none := rfl
theorem mkCall_def (c : Nat) : mkCall T R c vs μ = match T.init c with
  | some f => need (vs.all simple) <| match R f (.ref μ.length :: vs) (μ ++ [.obj c []]) with
    | .ok (.d .non) μ' => .ok (.ref μ.length) μ'
    | .ex x μ' => .ex x μ'
    | _ => .bad
  | none => .bad := rfl
theorem simple_d (x : D) : simple (.d x) = true := rfl
theorem simple_ref : simple (.ref a) = true := rfl
theorem simple_map (xs : List D) : (xs.map Val.d).all simple = true := by
  induction xs with
  | nil => rfl
  | cons a r ih => rw [List.map_cons, List.all_cons, ih]; rfl
theorem setF_nil : setF f v [] = [(f, v)] := rfl
theorem setF_cons (g : Str) (r : List (Str × Val)) : setF f v ((g, w) :: r) = if g = f then (g, v) :: r else (g, w) :: setF f v r := rfl
theorem add_ll (xs ys : List D) : binV .add (.d (.lst xs)) (.d (.lst ys)) μ = need (small (xs.length + ys.length)) (.ok (.d (.lst (xs ++ ys))) μ) := by
  show (match lstop .add (.d (.lst xs)) (.d (.lst ys)) μ with
    | some vs => need true (newL false vs μ)
    | none => .bad) = _
  unfold lstop
  simp only [items_lst, List.length_map, isL_lst, Bool.true_and]
  by_cases h : small (xs.length + ys.length) = true
  · simp only [h, if_true, need_true, newL_false, app_d, snaps_d, List.length_map, List.length_append]
  · simp [h, need]
theorem add_tt (xs ys : List D) : binV .add (.d (.tup xs)) (.d (.tup ys)) μ = need (small (xs.length + ys.length)) (.ok (.d (.tup (xs ++ ys))) μ) := rfl
theorem add_ss (x y : Str) : binV .add (.d (.str x)) (.d (.str y)) μ = need (small (x.length + y.length)) (.ok (.d (.str (x ++ y))) μ) := rfl
theorem add_rl (ys : List D) : binV .add (.ref a) (.d (.lst ys)) μ = match lstop .add (.ref a) (.d (.lst ys)) μ with
    | some vs => need (isL μ (.ref a)) (newL false vs μ)
    | none => .bad := rfl
theorem add_lr (ys : List D) : binV .add (.d (.lst ys)) (.ref a) μ = match lstop .add (.d (.lst ys)) (.ref a) μ with
    | some vs => need (isL μ (.d (.lst ys))) (newL false vs μ)
    | none => .bad := rfl
theorem lstop_add (x y : Val) : lstop .add x y μ = match items μ x, items μ y with
    | some a, some b => if isL μ y && small (a.length + b.length) then some (a ++ b) else none
    | _, _ => none := by unfold lstop; rfl
theorem lstop_mul (x : Val) : lstop .mul x (.d (.int k)) μ = match items μ x with
    | some a => if small (a.length * k.toNat) && decide (k < 2 ^ 62) && decide (-(2 ^ 62) < k) then some ((List.replicate k.toNat a).flatten) else none
    | none => none := rfl
theorem mul_li : binV .mul (.d (.lst ds)) (.d (.int k)) μ = match lstop .mul (.d (.lst ds)) (.d (.int k)) μ with
    | some vs => need true (newL false vs μ)
    | none => .bad := rfl
theorem clr_nil : clrX [] = [] := rfl
theorem clr_none (r : Slots) : clrX (none :: r) = none :: clrX r := rfl
theorem clr_d (x : D) (r : Slots) : clrX (some (.d x) :: r) = some (.d x) :: clrX r := rfl
theorem clr_ref (i : Nat) (r : Slots) : clrX (some (.ref i) :: r) = some (.ref i) :: clrX r := rfl
theorem clr_exn (x : Exn) (r : Slots) : clrX (some (.exn x) :: r) = none :: clrX r := rfl
theorem clr_clo (f : Nat) (vs : List Val) (r : Slots) : clrX (some (.clo f vs) :: r) = some (.clo f vs) :: clrX r := rfl
theorem rclr_rt (i : Nat) (δ : Slots) (d : D) (μ : Heap) : (RS.ok δ (.rt (.d d)) μ).clr i = .ok (clrX (δ.set i none)) (.rt (.d d)) μ := rfl
theorem rclr_nx (i : Nat) (δ : Slots) (μ : Heap) : (RS.ok δ .nx μ).clr i = .ok (clrX (δ.set i none)) .nx μ := rfl
theorem rclr_bk (i : Nat) (δ : Slots) (μ : Heap) : (RS.ok δ .bk μ).clr i = .ok (clrX (δ.set i none)) .bk μ := rfl
theorem rclr_ct (i : Nat) (δ : Slots) (μ : Heap) : (RS.ok δ .ct μ).clr i = .ok (clrX (δ.set i none)) .ct μ := rfl
theorem rclr_ex (i : Nat) (x : Exn) (δ : Slots) (μ : Heap) : (RS.ex x δ μ).clr i = .bad := rfl
theorem nos_ok (δ : Slots) (μ : Heap) : (RS.ok δ .nx μ).nos = .ok (clrX δ) .nx μ := rfl
theorem nos_rt (δ : Slots) (d : D) (μ : Heap) : (RS.ok δ (.rt (.d d)) μ).nos = .ok (clrX δ) (.rt (.d d)) μ := rfl
theorem nos_bk (δ : Slots) (μ : Heap) : (RS.ok δ .bk μ).nos = .ok (clrX δ) .bk μ := rfl
theorem nos_ct (δ : Slots) (μ : Heap) : (RS.ok δ .ct μ).nos = .ok (clrX δ) .ct μ := rfl
theorem ite_nos (p : Prop) [Decidable p] (a b : RS) : (if p then a else b).nos = if p then a.nos else b.nos := by split <;> rfl
theorem ite_clr (p : Prop) [Decidable p] (a b : RS) (i : Nat) : (if p then a else b).clr i = if p then a.clr i else b.clr i := by split <;> rfl
theorem gc_f (n : Nat) (δ : Slots) : gcTo false n δ μ = some μ := rfl
theorem gc_t (n : Nat) (δ : Slots) : gcTo true n δ μ = if belows n (δ.filterMap id) && (μ.take n).all (belowC n) then some (μ.take n) else none := rfl
end
/-! ### comprehensions -/
section
variable {α β : Type}
theorem collect_nil {step : Val → Heap → Res (List β)} (μ : Heap) : collect [] step [] μ = .ok [] μ := by unfold collect; rw [if_pos (show guardOk [] μ from trivial)]
theorem collect_cons {step : Val → Heap → Res (List β)} (v : Val) (vs : List Val) (μ : Heap) : collect [] step (v :: vs) μ = (step v μ).bnd fun a μ1 => (collect [] step vs μ1).bnd fun b μ2 => .ok (a ++ b) μ2 := by
  rw [collect, if_pos (show guardOk [] μ from trivial)]
/-- a comprehension that leaves the heap as it is -/
theorem collect_run {g : List (Nat × Cell)} {step : Val → Heap → Res (List β)} {μ : Heap} (f : α → Val) (k : α → List β) (hg : guardOk g μ) : ∀ (xs : List α), (∀ x ∈ xs, step (f x) μ = .ok (k x) μ) → collect g step (xs.map f) μ = .ok (xs.flatMap k) μ
  | [], _ => by unfold collect; rw [List.map_nil]; simp only [hg, if_true]; rfl
  | x :: xs, h => by
    rw [List.map_cons, collect, if_pos hg, h x List.mem_cons_self]
    simp only [bnd_ok]
    rw [collect_run f k hg xs fun y hy => h y (List.mem_cons_of_mem _ hy)]
    rfl
/-- one item a turn -/
theorem collect_map {g : List (Nat × Cell)} {step : Val → Heap → Res (List β)} {μ : Heap} (f : α → Val) (k : α → β) (hg : guardOk g μ) (xs : List α) (h : ∀ x ∈ xs, step (f x) μ = .ok [k x] μ) : collect g step (xs.map f) μ = .ok (xs.map k) μ := by
  rw [collect_run f (fun x => [k x]) hg xs h]
  congr 1
  induction xs with
  | nil => rfl
  | cons a r ih => rw [List.flatMap_cons, ih fun x hx => h x (List.mem_cons_of_mem _ hx)]; rfl
theorem collect_filter {g : List (Nat × Cell)} {step : Val → Heap → Res (List β)} {μ : Heap} (f : α → Val) (p : α → Bool) (k : α → β) (hg : guardOk g μ) (xs : List α) (h : ∀ x ∈ xs, step (f x) μ = .ok (if p x then [k x] else []) μ) : collect g step (xs.map f) μ = .ok ((xs.filter p).map k) μ := by
  rw [collect_run f (fun x => if p x then [k x] else []) hg xs h]
  congr 1
  induction xs with
  | nil => rfl
  | cons a r ih =>
    rw [List.flatMap_cons, ih fun x hx => h x (List.mem_cons_of_mem _ hx)]
    cases c : p a with
    | true => rw [List.filter_cons_of_pos c, if_pos rfl]; rfl
    | false => rw [List.filter_cons_of_neg (by rw [c]; decide), if_neg Bool.false_ne_true]; rfl
end
end Mp
end
section
set_option Elab.async false
set_option linter.all false
set_option maxRecDepth 100000
set_option maxHeartbeats 2000000
namespace Mp
open PySem L2 PySem.Spec PyProof.Rows
open Evl (Ex ex_l ex_t fresh_back)
/-! ### data in the heap -/
/-- where defs and classes of the text stand -/
structure Lk where
  K : PySem.W.Frag
  fnA : Nat → Addr
  clA : Nat → Addr
  isO : Nat → Bool
  isX : Nat → Bool
def kD : Key → D
  | .inl i => .int i
  | .inr s => .str s
mutual
inductive Dr (L : Lk) (G : Hp) : V → D → Prop
  | non : Dr L G .non .non
  | bl (b : Bool) : Dr L G (.bl b) (.bl b)
  | int (i : Int) : Dr L G (.int i) (.int i)
  | str (s : Str) : Dr L G (.str s) (.str s)
  | lst {a : Addr} {xs : List V} {ds : List D} : SqL L.K G a xs → Drs L G xs ds → Dr L G (.ref a) (.lst ds)
  | tup {a : Addr} {xs : List V} {ds : List D} : SqT L.K G a xs → Drs L G xs ds → Dr L G (.ref a) (.tup ds)
  | dct {a : Addr} {o : Obj} {ks : List Key} {vs : List V} {ds : List D} : G a = some (.frz o (.dK (ks.zip vs))) → ks.length = vs.length → Drs L G vs ds → Dr L G (.ref a) (.dct ((ks.map kD).zip ds))
  | obj {a dx : Addr} {c : Nat} {ns : List Str} {vs : List V} {ds : List D} : L.isO c = true → G a = some (.ins (L.clA c) dx (ns.zip vs)) → G dx = some (.own a) → ns.length = vs.length → Drs L G vs ds → Dr L G (.ref a) (.obj c (ns.zip ds))
  | fn (f : Nat) : Dr L G (.ref (L.fnA f)) (.fn f)
inductive Drs (L : Lk) (G : Hp) : List V → List D → Prop
  | nil : Drs L G [] []
  | cons {v : V} {vs : List V} {d : D} {ds : List D} : Dr L G v d → Drs L G vs ds → Drs L G (v :: vs) (d :: ds)
end
theorem ex_rd {G G' : Hp} {a : Addr} {u : HO} (e : Ex G G') (h : Rd G a u) : Rd G' a u := h.imp (fun z => e _ _ z) fun ⟨o, z⟩ => ⟨o, e _ _ z⟩
mutual
theorem dr_ex {L : Lk} {G G' : Hp} (e : Ex G G') : ∀ {v : V} {d : D}, Dr L G v d → Dr L G' v d
  | _, _, .non => .non
  | _, _, .bl b => .bl b
  | _, _, .int i => .int i
  | _, _, .str x => .str x
  | _, _, .lst h t => .lst (ex_l e h) (drs_ex e t)
  | _, _, .tup h t => .tup (ex_t e h) (drs_ex e t)
  | _, _, .dct h l t => .dct (e _ _ h) l (drs_ex e t)
  | _, _, .obj o h h2 l t => .obj o (e _ _ h) (e _ _ h2) l (drs_ex e t)
  | _, _, .fn f => .fn f
theorem drs_ex {L : Lk} {G G' : Hp} (e : Ex G G') : ∀ {vs : List V} {ds : List D}, Drs L G vs ds → Drs L G' vs ds
  | _, _, .nil => .nil
  | _, _, .cons h t => .cons (dr_ex e h) (drs_ex e t)
end
section
variable {L : Lk} {G : Hp}
theorem drs_len : ∀ {vs : List V} {ds : List D}, Drs L G vs ds → vs.length = ds.length
  | _, _, .nil => rfl
  | _, _, .cons _ t => by rw [List.length_cons, List.length_cons, drs_len t]
theorem drs_get : ∀ {vs : List V} {ds : List D} {i : Nat} {d : D}, Drs L G vs ds → ds[i]? = some d → ∃ v, vs[i]? = some v ∧ Dr L G v d
  | _, _, _, _, .nil, h => by simp at h
  | _, _, 0, d, .cons (v := v) hv _, h => by
    have e : _ = d := Option.some.inj h
    subst e
    exact ⟨v, rfl, hv⟩
  | _, _, i + 1, d, .cons _ t, h => drs_get (i := i) t h
theorem drs_get' : ∀ {vs : List V} {ds : List D} {i : Nat} {v : V}, Drs L G vs ds → vs[i]? = some v → ∃ d, ds[i]? = some d ∧ Dr L G v d
  | _, _, _, _, .nil, h => by simp at h
  | _, _, 0, v, .cons (d := d) hv _, h => by
    have e : _ = v := Option.some.inj h
    subst e
    exact ⟨d, rfl, hv⟩
  | _, _, i + 1, v, .cons _ t, h => drs_get' (i := i) t h
theorem drs_app : ∀ {vs ws : List V} {ds es : List D}, Drs L G vs ds → Drs L G ws es → Drs L G (vs ++ ws) (ds ++ es)
  | _, _, _, _, .nil, h => h
  | _, _, _, _, .cons a t, h => .cons a (drs_app t h)
theorem drs_take : ∀ {vs : List V} {ds : List D} (n : Nat), Drs L G vs ds → Drs L G (vs.take n) (ds.take n)
  | _, _, 0, _ => .nil
  | _, _, _ + 1, .nil => .nil
  | _, _, n + 1, .cons a t => .cons a (drs_take n t)
theorem drs_drop : ∀ {vs : List V} {ds : List D} (n : Nat), Drs L G vs ds → Drs L G (vs.drop n) (ds.drop n)
  | _, _, 0, h => h
  | _, _, _ + 1, .nil => .nil
  | _, _, n + 1, .cons _ t => drs_drop n t
theorem dr_int {v : V} {i : Int} (h : Dr L G v (.int i)) : v = .int i := by cases h; rfl
theorem dr_bl {v : V} {i : Bool} (h : Dr L G v (.bl i)) : v = .bl i := by cases h; rfl
theorem dr_str {v : V} {i : Str} (h : Dr L G v (.str i)) : v = .str i := by cases h; rfl
theorem dr_non {v : V} (h : Dr L G v .non) : v = .non := by cases h; rfl
theorem dr_fn {v : V} {f : Nat} (h : Dr L G v (.fn f)) : v = .ref (L.fnA f) := by cases h; rfl
theorem dr_lst {v : V} {ds : List D} (h : Dr L G v (.lst ds)) : ∃ a xs, v = .ref a ∧ SqL L.K G a xs ∧ Drs L G xs ds := by
  cases h with
  | lst a b => exact ⟨_, _, rfl, a, b⟩
theorem dr_tup {v : V} {ds : List D} (h : Dr L G v (.tup ds)) : ∃ a xs, v = .ref a ∧ SqT L.K G a xs ∧ Drs L G xs ds := by
  cases h with
  | tup a b => exact ⟨_, _, rfl, a, b⟩
theorem dr_flat {G' : Hp} {v : V} {d : D} (h : Dr L G v d) (f : flat d = true) : Dr L G' v d := by
  cases h with
  | non => exact .non
  | bl b => exact .bl b
  | int i => exact .int i
  | str x => exact .str x
  | _ => cases f
end
/-! ### values and cells -/
/-- what else a value may be where one stands: a function with what it captured, an exception -/
structure Ext where
  clo : V → Nat → List Val → Prop
  exv : V → Exn → Prop
  dd : Option Addr
def Ext.no : Ext := ⟨fun _ _ _ => False, fun _ _ => False, none⟩
/-- the dict of an exception with a field -/
def XdR (L : Lk) (G : Hp) (o : Option Addr) : Exn → Prop
  | .pl _ => True
  | .fld _ f d => ∃ a v, o = some a ∧ G a = some (.xd [(f, v)]) ∧ Dr L G v d
abbrev Iot := List (Addr × Addr)
def VR (L : Lk) (X : Ext) (G : Hp) (ι : Iot) (w : V) : Val → Prop
  | .d x => Dr L G w x
  | .ref i => ∃ p, ι[i]? = some p ∧ w = .ref p.1
  | .clo f caps => X.clo w f caps
  | .exn x => X.exv w x ∧ XdR L G X.dd x
inductive VRs (L : Lk) (X : Ext) (G : Hp) (ι : Iot) : List V → List Val → Prop
  | nil : VRs L X G ι [] []
  | cons {w : V} {ws : List V} {v : Val} {vs : List Val} : VR L X G ι w v → VRs L X G ι ws vs → VRs L X G ι (w :: ws) (v :: vs)
/-- what is addressed still is -/
def Pre (ι ι' : Iot) : Prop := ∀ (i : Nat) (p : Addr × Addr), ι[i]? = some p → ι'[i]? = some p
theorem Pre.refl (ι : Iot) : Pre ι ι := fun _ _ h => h
theorem Pre.trans {ι ι1 ι2 : Iot} (a : Pre ι ι1) (b : Pre ι1 ι2) : Pre ι ι2 := fun i p h => b i p (a i p h)
section
variable {L : Lk} {X : Ext} {G G' : Hp} {ι ι' : Iot}
theorem VR.mono {w : V} {v : Val} (e : Ex G G') (p : Pre ι ι') (h : VR L X G ι w v) : VR L X G' ι' w v := by
  cases v with
  | d x => exact dr_ex e h
  | ref i => obtain ⟨q, h1, h2⟩ := h; exact ⟨q, p i q h1, h2⟩
  | clo f c => exact h
  | exn x =>
    refine ⟨h.1, ?_⟩
    have q := h.2
    cases x with
    | pl k => exact True.intro
    | fld k f d =>
      obtain ⟨a, v, e1, e2, e3⟩ := q
      exact ⟨a, v, e1, e _ _ e2, dr_ex e e3⟩
theorem VRs.mono (e : Ex G G') (p : Pre ι ι') : ∀ {ws : List V} {vs : List Val}, VRs L X G ι ws vs → VRs L X G' ι' ws vs
  | _, _, .nil => .nil
  | _, _, .cons h t => .cons (h.mono e p) (VRs.mono e p t)
theorem VR.ext {X' : Ext} {w : V} {v : Val} (h : VR L X G ι w v) (s : simple v = true) : VR L X' G ι w v := by
  cases v with
  | d x => exact h
  | ref i => exact h
  | clo f c => cases s
  | exn x => cases s
theorem VRs.ext {X' : Ext} : ∀ {ws : List V} {vs : List Val}, VRs L X G ι ws vs → vs.all simple = true → VRs L X' G ι ws vs
  | _, _, .nil, _ => .nil
  | _, _, .cons h t, s => by
    rw [List.all_cons, Bool.and_eq_true] at s
    exact .cons (h.ext s.1) (VRs.ext t s.2)
theorem vrs_len : ∀ {ws : List V} {vs : List Val}, VRs L X G ι ws vs → ws.length = vs.length
  | _, _, .nil => rfl
  | _, _, .cons _ t => by rw [List.length_cons, List.length_cons, vrs_len t]
theorem vrs_get : ∀ {ws : List V} {vs : List Val} {i : Nat} {v : Val}, VRs L X G ι ws vs → vs[i]? = some v → ∃ w, ws[i]? = some w ∧ VR L X G ι w v
  | _, _, _, _, .nil, h => by simp at h
  | _, _, 0, d, .cons (w := v) hv _, h => by
    have e : _ = d := Option.some.inj h
    subst e
    exact ⟨v, rfl, hv⟩
  | _, _, i + 1, d, .cons _ t, h => vrs_get (i := i) t h
theorem vrs_get' : ∀ {ws : List V} {vs : List Val} {i : Nat} {w : V}, VRs L X G ι ws vs → ws[i]? = some w → ∃ v, vs[i]? = some v ∧ VR L X G ι w v
  | _, _, _, _, .nil, h => by simp at h
  | _, _, 0, d, .cons (v := v) hv _, h => by
    have e : _ = d := Option.some.inj h
    subst e
    exact ⟨v, rfl, hv⟩
  | _, _, i + 1, d, .cons _ t, h => vrs_get' (i := i) t h
theorem vrs_app : ∀ {ws us : List V} {vs xs : List Val}, VRs L X G ι ws vs → VRs L X G ι us xs → VRs L X G ι (ws ++ us) (vs ++ xs)
  | _, _, _, _, .nil, h => h
  | _, _, _, _, .cons a t, h => .cons a (vrs_app t h)
theorem vrs_take : ∀ {ws : List V} {vs : List Val} (n : Nat), VRs L X G ι ws vs → VRs L X G ι (ws.take n) (vs.take n)
  | _, _, 0, _ => .nil
  | _, _, _ + 1, .nil => .nil
  | _, _, n + 1, .cons a t => .cons a (vrs_take n t)
theorem vrs_drop : ∀ {ws : List V} {vs : List Val} (n : Nat), VRs L X G ι ws vs → VRs L X G ι (ws.drop n) (vs.drop n)
  | _, _, 0, h => h
  | _, _, _ + 1, .nil => .nil
  | _, _, n + 1, .cons _ t => vrs_drop n t
theorem vrs_set : ∀ {ws : List V} {vs : List Val} (i : Nat) {w : V} {v : Val}, VRs L X G ι ws vs → VR L X G ι w v → VRs L X G ι (ws.set i w) (vs.set i v)
  | _, _, _, _, _, .nil, _ => .nil
  | _, _, 0, _, _, .cons _ t, h => .cons h t
  | _, _, i + 1, _, _, .cons a t, h => .cons a (vrs_set i t h)
theorem vrs_d : ∀ {ws : List V} {ds : List D}, VRs L X G ι ws (ds.map .d) → Drs L G ws ds
  | [], [], _ => .nil
  | _ :: _, _ :: _, .cons h t => .cons h (vrs_d t)
theorem drs_v : ∀ {ws : List V} {ds : List D}, Drs L G ws ds → VRs L X G ι ws (ds.map .d)
  | _, _, .nil => .nil
  | _, _, .cons h t => .cons h (drs_v t)
theorem vrs_rev : ∀ {ws : List V} {vs : List Val}, VRs L X G ι ws vs → VRs L X G ι ws.reverse vs.reverse
  | _, _, .nil => .nil
  | _, _, .cons h t => by
    rw [List.reverse_cons, List.reverse_cons]
    exact vrs_app (vrs_rev t) (.cons h .nil)
end
/-- the addresses that a cell has for itself -/
def foot (p : Addr × Addr) : Cell → List Addr
  | .lst _ => [p.1]
  | .dct _ => [p.1]
  | .obj _ _ => [p.1, p.2]
  | .frz _ => []
def CR (L : Lk) (G H : Hp) (ι : Iot) (p : Addr × Addr) : Cell → Prop
  | .lst vs => ∃ xs, H p.1 = some (.lst xs) ∧ VRs L .no G ι xs vs
  | .dct kvs => ∃ (ks : List D) (ws : List V) (vs : List Val), kvs = ks.zip vs ∧ ks.length = vs.length ∧ VRs L .no G ι ws vs ∧
      ∃ ks' : List Key, ks = ks'.map kD ∧ H p.1 = some (.dK (ks'.zip ws))
  | .obj c fs => ∃ (ns : List Str) (ws : List V) (vs : List Val), fs = ns.zip vs ∧ ns.length = vs.length ∧ VRs L .no G ι ws vs ∧ H p.1 = some (.ins (L.clA c) p.2 (ns.zip ws)) ∧ H p.2 = some (.own p.1) ∧ L.isO c = true
  | .frz d => Dr L G (.ref p.1) d
def Foot (ι : Iot) (μ : Heap) (a : Addr) : Prop := ∃ (i : Nat) (p : Addr × Addr) (c : Cell), ι[i]? = some p ∧ μ[i]? = some c ∧ a ∈ foot p c
/-- the small heap stands in the heap; G: what doesn't change any more -/
structure HR (L : Lk) (G H : Hp) (ι : Iot) (μ : Heap) : Prop where
  gh : Ex G H
  len : ι.length = μ.length
  cell : ∀ (i : Nat) (p : Addr × Addr) (c : Cell), ι[i]? = some p → μ[i]? = some c → CR L G H ι p c
  own : ∀ a, Foot ι μ a → G a = none ∧ H a ≠ none
  dj : ∀ (i j : Nat) (p q : Addr × Addr) (c d : Cell) (a : Addr), ι[i]? = some p → μ[i]? = some c → ι[j]? = some q → μ[j]? = some d → a ∈ foot p c → a ∈ foot q d → i = j
/-- a step -/
structure Stp (n : Nat) (G H : Hp) (ι : Iot) (μ : Heap) (G' H' : Hp) (ι' : Iot) (μ' : Heap) : Prop where
  g : Ex G G'
  pre : ∀ i, i < n → ι'[i]? = ι[i]?
  le : n ≤ ι'.length
  keep : ∀ a o, H a = some o → ¬ Foot ι μ a → H' a = some o
  old : ∀ a, H a ≠ none → ¬ Foot ι μ a → G' a = G a
  live : ∀ a, Foot ι' μ' a → Foot ι μ a ∨ H a = none
section
variable {L : Lk} {G H G1 H1 G2 H2 : Hp} {ι ι1 ι2 : Iot} {μ μ1 μ2 : Heap} {n m : Nat}
theorem Stp.refl (h : n ≤ ι.length) : Stp n G H ι μ G H ι μ := ⟨.refl G, fun _ _ => rfl, h, fun _ _ h _ => h, fun _ _ _ => rfl, fun _ h => .inl h⟩
theorem Stp.trans (a : Stp n G H ι μ G1 H1 ι1 μ1) (b : Stp n G1 H1 ι1 μ1 G2 H2 ι2 μ2) : Stp n G H ι μ G2 H2 ι2 μ2 := by
  have nf : ∀ x o, H x = some o → ¬ Foot ι μ x → ¬ Foot ι1 μ1 x := fun x o h f z => (a.live x z).elim f fun q => by rw [h] at q; cases q
  refine ⟨a.g.trans b.g, fun i hi => (b.pre i hi).trans (a.pre i hi), b.le, fun x o h f => b.keep x o (a.keep x o h f) (nf x o h f), fun x h f => ?_, fun x z => ?_⟩
  · cases q : H x with
    | none => exact absurd q h
    | some o => exact (b.old x (by rw [a.keep x o q f]; intro z; cases z) (nf x o q f)).trans (a.old x h f)
  · rcases b.live x z with z | z
    · exact a.live x z
    · cases q : H x with
      | none => exact .inr rfl
      | some o =>
        by_cases f : Foot ι μ x
        · exact .inl f
        · rw [a.keep x o q f] at z; cases z
theorem Stp.weak (a : Stp n G H ι μ G1 H1 ι1 μ1) (h : m ≤ n) : Stp m G H ι μ G1 H1 ι1 μ1 :=
  ⟨a.g, fun i hi => a.pre i (Nat.lt_of_lt_of_le hi h), Nat.le_trans h a.le, a.keep, a.old, a.live⟩
theorem Stp.pre' (a : Stp ι.length G H ι μ G1 H1 ι1 μ1) : Pre ι ι1 := fun i p h => by
  rw [a.pre i (List.getElem?_eq_some_iff.mp h).1]; exact h
/-- one step, seen from an earlier length -/
theorem Stp.then_ (a : Stp n G H ι μ G1 H1 ι1 μ1) (b : Stp ι1.length G1 H1 ι1 μ1 G2 H2 ι2 μ2) : Stp n G H ι μ G2 H2 ι2 μ2 := a.trans (b.weak a.le)
end
/-- new since then -/
def Frs (H : Hp) (ι : Iot) (μ : Heap) (a : Addr) : Prop := H a = none ∨ Foot ι μ a
theorem Stp.frs {G H G1 H1 : Hp} {ι ι1 : Iot} {μ μ1 : Heap} {n : Nat} {a : Addr} (s : Stp n G H ι μ G1 H1 ι1 μ1) (h : Frs H1 ι1 μ1 a) : Frs H ι μ a := by
  rcases h with h | h
  · cases q : H a with
    | none => exact .inl q
    | some o =>
      by_cases f : Foot ι μ a
      · exact .inr f
      · rw [s.keep a o q f] at h; cases h
  · exact (s.live a h).elim .inr .inl
end Mp
end
section
set_option Elab.async false
set_option linter.all false
set_option maxRecDepth 100000
set_option maxHeartbeats 2000000
namespace Mp
open PySem L2 PySem.Spec PyProof.Rows
open Evl (Ex ex_l ex_t fresh_back)
theorem get_set {α : Type} {l : List α} {i j : Nat} {x y : α} (h : (l.set i x)[j]? = some y) : (i = j ∧ i < l.length ∧ x = y) ∨ (i ≠ j ∧ l[j]? = some y) := by
  by_cases c : i = j
  · subst c
    by_cases hl : i < l.length
    · rw [List.getElem?_set_self hl] at h
      exact .inl ⟨rfl, hl, Option.some.inj h⟩
    · rw [List.getElem?_eq_none (by rw [List.length_set]; omega)] at h; cases h
  · rw [List.getElem?_set_ne c] at h
    exact .inr ⟨c, h⟩
/-! ### reading -/
section
variable {L : Lk} {X : Ext} {G H : Hp} {ι : Iot} {μ : Heap} {w : V} {v : Val}
theorem VR.no (h : VR L .no G ι w v) : VR L X G ι w v := by
  cases v with
  | d x => exact h
  | ref i => exact h
  | clo f c => exact h.elim
  | exn x => exact h.1.elim
theorem VRs.no : ∀ {ws : List V} {vs : List Val}, VRs L .no G ι ws vs → VRs L X G ι ws vs
  | _, _, .nil => .nil
  | _, _, .cons h t => .cons h.no (VRs.no t)
theorem VR.toNo (h : VR L X G ι w v) (s : simple v = true) : VR L .no G ι w v := h.ext s
theorem HR.at (h : HR L G H ι μ) {i : Nat} {c : Cell} (q : μ[i]? = some c) : ∃ p, ι[i]? = some p ∧ CR L G H ι p c := by
  have hl := (List.getElem?_eq_some_iff.mp q).1
  have e : ι[i]? = some (ι[i]'(by rw [h.len]; exact hl)) := List.getElem?_eq_getElem _
  exact ⟨_, e, h.cell i _ c e q⟩
theorem HR.ref (h : HR L G H ι μ) {i : Nat} {c : Cell} (r : VR L X G ι w (.ref i)) (q : μ[i]? = some c) : ∃ p, ι[i]? = some p ∧ w = .ref p.1 ∧ CR L G H ι p c := by
  obtain ⟨p, h1, h2⟩ := r
  exact ⟨p, h1, h2, h.cell i p c h1 q⟩
/-- a list that is read -/
def SqA (K : PySem.W.Frag) (H : Hp) (b : Bool) (a : Addr) (xs : List V) : Prop := if b then SqL K H a xs else SqT K H a xs
theorem SqA.or {K : PySem.W.Frag} {b : Bool} {a : Addr} {xs : List V} (h : SqA K H b a xs) : SqL K H a xs ∨ SqT K H a xs := by
  unfold SqA at h
  cases b with
  | true => exact .inl h
  | false => exact .inr h
theorem HR.items (h : HR L G H ι μ) (r : VR L X G ι w v) {us : List Val} (q : items μ v = some us) : ∃ a xs, w = .ref a ∧ SqA L.K H (isL μ v) a xs ∧ VRs L X G ι xs us := by
  cases v with
  | d x =>
    cases x with
    | lst ds =>
      cases q
      obtain ⟨a, xs, rfl, s, t⟩ := dr_lst r
      exact ⟨a, xs, rfl, ex_l h.gh s, drs_v t⟩
    | tup ds =>
      cases q
      obtain ⟨a, xs, rfl, s, t⟩ := dr_tup r
      exact ⟨a, xs, rfl, ex_t h.gh s, drs_v t⟩
    | _ => cases q
  | ref i =>
    rw [items_ref] at q
    rw [isL_ref]
    cases e : μ[i]? with
    | none => rw [e] at q; cases q
    | some c =>
      rw [e] at q
      obtain ⟨p, h1, rfl, cr⟩ := h.ref r e
      cases c with
      | lst vs =>
        cases q
        obtain ⟨xs, a1, a2⟩ := cr
        exact ⟨p.1, xs, rfl, SqL.of a1, a2.no⟩
      | frz d =>
        cases d with
        | lst ds =>
          cases q
          obtain ⟨a, xs, e2, s, t⟩ := dr_lst cr
          exact ⟨a, xs, e2, ex_l h.gh s, drs_v t⟩
        | _ => cases q
      | _ => cases q
  | clo f c => cases q
  | exn x => cases q
theorem mapO_cons_some {α β : Type} {f : α → Option β} {a : α} {as : List α} {bs : List β} (h : mapO f (a :: as) = some bs) : ∃ b r, f a = some b ∧ mapO f as = some r ∧ bs = b :: r := by
  unfold mapO at h
  split at h
  · rename_i b hb
    split at h
    · rename_i r hr
      exact ⟨b, r, hb, hr, (Option.some.inj h).symm⟩
    · cases h
  · cases h
theorem mapO_len {α β : Type} {f : α → Option β} : ∀ {as : List α} {bs : List β}, mapO f as = some bs → bs.length = as.length
  | [], bs, h => by cases h; rfl
  | a :: as, bs, h => by
    obtain ⟨b, r, _, h2, rfl⟩ := mapO_cons_some h
    rw [List.length_cons, List.length_cons, mapO_len h2]
theorem vrs_map {G' : Hp} {f : Val → Option D} (hf : ∀ {w v d}, VR L X G ι w v → f v = some d → Dr L G' w d) : ∀ {ws : List V} {vs : List Val} {ds : List D}, VRs L X G ι ws vs → mapO f vs = some ds → Drs L G' ws ds
  | _, _, ds, .nil, h => by cases h; exact .nil
  | _, _, ds, .cons a t, h => by
    obtain ⟨b, r, h1, h2, rfl⟩ := mapO_cons_some h
    exact .cons (hf a h1) (vrs_map hf t h2)
theorem map_zip_snd {α β : Type} : ∀ {ks : List α} {vs : List β}, ks.length = vs.length → (ks.zip vs).map (·.2) = vs
  | [], [], _ => rfl
  | _ :: _, _ :: _, h => by
    rw [List.zip_cons_cons, List.map_cons, map_zip_snd (Nat.succ.inj h)]
theorem map_zip_fst {α β : Type} : ∀ {ks : List α} {vs : List β}, ks.length = vs.length → (ks.zip vs).map (·.1) = ks
  | [], [], _ => rfl
  | _ :: _, _ :: _, h => by
    rw [List.zip_cons_cons, List.map_cons, map_zip_fst (Nat.succ.inj h)]
/-- what a value is now -/
theorem HR.snap (h : HR L G H ι μ) : ∀ {n : Nat} {w : V} {v : Val} {d : D}, VR L X G ι w v → snap μ n v = some d → Dr L H w d
  | 0, w, v, d, r, q => by
    unfold Mp.snap at q
    cases v with
    | d x => cases q; exact dr_ex h.gh r
    | _ => cases q
  | n + 1, w, v, d, r, q => by
    unfold Mp.snap at q
    cases v with
    | d x => cases q; exact dr_ex h.gh r
    | clo f c => cases q
    | exn x => cases q
    | ref i =>
      simp only at q
      cases e : μ[i]? with
      | none => rw [e] at q; cases q
      | some c =>
        rw [e] at q
        obtain ⟨p, h1, rfl, cr⟩ := h.ref r e
        cases c with
        | lst vs =>
          simp only at q
          split at q
          · rename_i ds hd
            cases q
            obtain ⟨xs, a1, a2⟩ := cr
            exact .lst (SqL.of a1) (vrs_map (fun r q => HR.snap h r q) (a2.no (X := X)) hd)
          · cases q
        | dct kvs => cases q
        | obj c fs => cases q
        | frz x => cases q; exact dr_ex h.gh cr
theorem HR.snaps (h : HR L G H ι μ) {n : Nat} {ws : List V} {vs : List Val} {ds : List D} (r : VRs L X G ι ws vs) (q : mapO (Mp.snap μ n) vs = some ds) : Drs L H ws ds := vrs_map (fun r q => h.snap r q) r q
/-- data as it stands, unchangeable -/
theorem snap0 : ∀ {v : Val} {d : D}, Mp.snap μ 0 v = some d → v = .d d
  | .d x, d, q => by cases q; rfl
theorem snaps0 : ∀ {vs : List Val} {ds : List D}, mapO (Mp.snap μ 0) vs = some ds → vs = ds.map .d
  | [], ds, q => by cases q; rfl
  | v :: vs, ds, q => by
    obtain ⟨b, r, h1, h2, rfl⟩ := mapO_cons_some q
    rw [snap0 h1, snaps0 h2]; rfl
theorem vrs_snap0 {ws : List V} {vs : List Val} {ds : List D} (r : VRs L X G ι ws vs) (q : mapO (Mp.snap μ 0) vs = some ds) : Drs L G ws ds := by
  rw [snaps0 q] at r; exact vrs_d r
theorem HR.itemsD (h : HR L G H ι μ) (r : VR L X G ι w v) {ds : List D} (q : itemsD μ v = some ds) : ∃ a xs, w = .ref a ∧ SqA L.K H (isL μ v) a xs ∧ Drs L G xs ds := by
  unfold Mp.itemsD at q
  split at q
  · rename_i us hu
    obtain ⟨a, xs, e, s, t⟩ := h.items r hu
    exact ⟨a, xs, e, s, vrs_snap0 t q⟩
  · cases q
theorem small_le {n : Nat} (h : small n = true) : n ≤ sizeLine := by
  have h := of_decide_eq_true h
  show n ≤ 16777216
  omega
theorem small_lt {n : Nat} (h : small (n + 1) = true) : n < sizeLine := by
  have h := of_decide_eq_true h
  show n < 16777216
  omega
theorem HR.truth (h : HR L G H ι μ) (r : VR L X G ι w v) {b : Bool} (q : Mp.truth μ v = some b) : TruV L.K w H b := by
  have go : ∀ {us : List Val}, Mp.items μ v = some us → isL μ v = true → b = !us.isEmpty → TruV L.K w H b := fun {us} q1 q2 q3 => by
    obtain ⟨a, xs, rfl, s, t⟩ := h.items r q1
    rw [q2] at s
    exact .inl ⟨xs, s, by rw [q3]; cases t <;> rfl⟩
  cases v with
  | d x =>
    cases x with
    | non => cases q; rw [dr_non r]; rfl
    | bl c => cases q; rw [dr_bl r]; rfl
    | int i => cases q; rw [dr_int r]; rfl
    | str s =>
      rw [truth_str] at q
      split at q
      · rename_i hs
        cases q
        rw [dr_str r]
        refine ⟨small_le hs, ?_⟩
        show decide (s.length ≠ 0) = ((s.length : Int) != 0)
        cases hz : s.length <;> simp
        omega
      · cases q
    | lst ds => cases q; exact go (us := ds.map .d) rfl rfl (by cases ds <;> rfl)
    | tup ds =>
      cases q
      obtain ⟨a, xs, rfl, s, t⟩ := dr_tup r
      exact .inr (.inl ⟨xs, ex_t h.gh s, by cases t <;> rfl⟩)
    | _ => cases q
  | ref i =>
    rw [truth_ref] at q
    cases e : μ[i]? with
    | none => rw [e] at q; cases q
    | some c =>
      rw [e] at q
      cases c with
      | lst vs => cases q; exact go (us := vs) (by rw [items_ref, e]) (by rw [isL_ref, e]) rfl
      | frz d =>
        cases d with
        | lst ds => cases q; exact go (us := ds.map .d) (by rw [items_ref, e]) (by rw [isL_ref, e]) (by cases ds <;> rfl)
        | _ => cases q
      | _ => cases q
  | clo f c => cases q
  | exn x => cases q
end
/-! ### data as PyData -/
mutual
def toPy : D → PyData
  | .non => .none
  | .bl b => .bool b
  | .int i => .int i
  | .str s => .str s
  | .lst ds => .list (toPys ds)
  | .tup ds => .tuple (toPys ds)
  | _ => .none
def toPys : List D → List PyData
  | [] => []
  | d :: ds => toPy d :: toPys ds
end
mutual
theorem dr_dp {L : Lk} {G : Hp} : ∀ (d : D) {w : V}, Dr L G w d → plain d = true → Dp L.K G w (toPy d)
  | .non, w, h, _ => by rw [dr_non h]; exact .non
  | .bl b, w, h, _ => by rw [dr_bl h]; exact .bl b
  | .int i, w, h, _ => by rw [dr_int h]; exact .int i
  | .str x, w, h, _ => by rw [dr_str h]; exact .str x
  | .lst ds, w, h, p => by
    obtain ⟨a, xs, rfl, s, t⟩ := dr_lst h
    exact .lst s (drs_dp ds t p)
  | .tup ds, w, h, p => by
    obtain ⟨a, xs, rfl, s, t⟩ := dr_tup h
    exact .tup s (drs_dp ds t p)
theorem drs_dp {L : Lk} {G : Hp} : ∀ (d : List D) {w : List V}, Drs L G w d → plains d = true → DpAll L.K G w (toPys d)
  | [], _, .nil, _ => .nil
  | d :: ds, _, .cons h t, p => by
    have p : (plain d && plains ds) = true := p
    rw [Bool.and_eq_true] at p
    exact .cons (dr_dp d h p.1) (drs_dp ds t p.2)
end
mutual
theorem depth_py : ∀ (d : D), plain d = true → (toPy d).depth = depth d
  | .non, _ => by simp [toPy, PyData.depth, depth]
  | .bl b, _ => by simp [toPy, PyData.depth, depth]
  | .int i, _ => by simp [toPy, PyData.depth, depth]
  | .str s, _ => by simp [toPy, PyData.depth, depth]
  | .lst ds, p => by rw [toPy, PyData.depth, depth, depth_pys ds p]
  | .tup ds, p => by rw [toPy, PyData.depth, depth, depth_pys ds p]
theorem depth_pys : ∀ (d : List D), plains d = true → PyData.depthAll (toPys d) = depths d
  | [], _ => by simp [toPys, PyData.depthAll, depths]
  | d :: ds, p => by
    have p : (plain _ && plains _) = true := p
    rw [Bool.and_eq_true] at p
    rw [toPys, PyData.depthAll, depths, depth_py d p.1, depth_pys ds p.2]
end
mutual
theorem eqv_py : ∀ (a b : D), plain a = true → plain b = true → PyData.eqv (toPy a) (toPy b) = eqv a b
  | .lst xs, .lst ys, p, q => by rw [toPy, toPy, PyData.eqv, eqv]; exact eqvs_py xs ys p q
  | .tup xs, .tup ys, p, q => by rw [toPy, toPy, PyData.eqv, eqv]; exact eqvs_py xs ys p q
  | .non, b, _, q => by cases b <;> first | (cases q; done) | simp [toPy, PyData.eqv, eqv]
  | .bl _, b, _, q => by cases b <;> first | (cases q; done) | simp [toPy, PyData.eqv, eqv]
  | .int _, b, _, q => by cases b <;> first | (cases q; done) | simp [toPy, PyData.eqv, eqv]
  | .str _, b, _, q => by cases b <;> first | (cases q; done) | simp [toPy, PyData.eqv, eqv]
  | .lst _, .non, _, _ => by simp [toPy, PyData.eqv, eqv]
  | .lst _, .bl _, _, _ => by simp [toPy, PyData.eqv, eqv]
  | .lst _, .int _, _, _ => by simp [toPy, PyData.eqv, eqv]
  | .lst _, .str _, _, _ => by simp [toPy, PyData.eqv, eqv]
  | .lst _, .tup _, _, _ => by simp [toPy, PyData.eqv, eqv]
  | .tup _, .non, _, _ => by simp [toPy, PyData.eqv, eqv]
  | .tup _, .bl _, _, _ => by simp [toPy, PyData.eqv, eqv]
  | .tup _, .int _, _, _ => by simp [toPy, PyData.eqv, eqv]
  | .tup _, .str _, _, _ => by simp [toPy, PyData.eqv, eqv]
  | .tup _, .lst _, _, _ => by simp [toPy, PyData.eqv, eqv]
theorem eqvs_py : ∀ (a b : List D), plains a = true → plains b = true → PyData.eqvAll (toPys a) (toPys b) = eqvs a b
  | [], [], _, _ => by simp [toPys, PyData.eqvAll, eqvs]
  | [], _ :: _, _, _ => by simp [toPys, PyData.eqvAll, eqvs]
  | _ :: _, [], _, _ => by simp [toPys, PyData.eqvAll, eqvs]
  | x :: xs, y :: ys, p, q => by
    have p : (plain _ && plains _) = true := p
    have q : (plain _ && plains _) = true := q
    rw [Bool.and_eq_true] at p q
    rw [toPys, toPys, PyData.eqvAll, eqvs, eqv_py x y p.1 q.1, eqvs_py xs ys p.2 q.2]
end
end Mp
end
section
set_option Elab.async false
set_option linter.all false
set_option maxRecDepth 100000
set_option maxHeartbeats 2000000
namespace Mp
open PySem L2 PySem.Spec PyProof.Rows
open Evl (Ex ex_l ex_t fresh_back)
/-! ### steps of the heap -/
section
variable {L : Lk} {X : Ext} {G H G' H' : Hp} {ι ι' : Iot} {μ : Heap} {w : V} {v : Val}
theorem CR.mono {p : Addr × Addr} {c : Cell} (e : Ex G G') (i : Pre ι ι') (k : ∀ a, a ∈ foot p c → H' a = H a) (h : CR L G H ι p c) : CR L G' H' ι' p c := by
  cases c with
  | lst vs =>
    obtain ⟨xs, a1, a2⟩ := h
    exact ⟨xs, by rw [k p.1 (List.mem_singleton.mpr rfl)]; exact a1, a2.mono e i⟩
  | dct kvs =>
    obtain ⟨ks, ws, vs, rfl, hl, a2, a3⟩ := h
    have e1 := k p.1 (List.mem_singleton.mpr rfl)
    exact ⟨ks, ws, vs, rfl, hl, a2.mono e i, let ⟨k1, k2, z⟩ := a3; ⟨k1, k2, by rw [e1]; exact z⟩⟩
  | obj cl fs =>
    obtain ⟨ns, ws, vs, rfl, hl, a2, a3, a4, a5⟩ := h
    have e1 := k p.1 List.mem_cons_self
    have e2 := k p.2 (List.mem_cons_of_mem _ (List.mem_singleton.mpr rfl))
    exact ⟨ns, ws, vs, rfl, hl, a2.mono e i, by rw [e1]; exact a3, by rw [e2]; exact a4, a5⟩
  | frz d => exact dr_ex e h
theorem HR.foot (h : HR L G H ι μ) {a : Addr} (f : Foot ι μ a) : G a = none ∧ H a ≠ none := h.own a f
theorem HR.nofoot (h : HR L G H ι μ) {a : Addr} (f : H a = none) : ¬ Foot ι μ a := fun z => (h.own a z).2 f
theorem HR.gfoot (h : HR L G H ι μ) {a : Addr} {o : HO} (f : G a = some o) : ¬ Foot ι μ a := fun z => by
  have := (h.own a z).1
  rw [f] at this; cases this
theorem some_of_ne {H : Hp} {a : Addr} (h : H a ≠ none) : ∃ u, H a = some u := by
  cases q : H a with
  | none => exact absurd q h
  | some u => exact ⟨u, rfl⟩
/-- what is kept leaves the relation -/
theorem HR.keep (h : HR L G H ι μ) (eg : Ex G G') (gh : Ex G' H') (k : ∀ a, Foot ι μ a → G' a = none ∧ H' a = H a) : HR L G' H' ι μ :=
  ⟨gh, h.len, fun i p c e1 e2 => (h.cell i p c e1 e2).mono eg (.refl _) fun a ha => (k a ⟨i, p, c, e1, e2, ha⟩).2, fun a f => ⟨(k a f).1, by rw [(k a f).2]; exact (h.own a f).2⟩, h.dj⟩
/-- a new object that never changes -/
theorem HR.grow (h : HR L G H ι μ) {p : Addr} (o : HO) (hp : H p = none) : HR L (upd G p o) (upd H p o) ι μ ∧ Stp ι.length G H ι μ (upd G p o) (upd H p o) ι μ := by
  have gp : G p = none := fresh_back h.gh hp
  have eg : Ex G (upd G p o) := Ex.new gp
  have nf : ∀ a, Foot ι μ a → a ≠ p := fun a f z => h.nofoot hp (z ▸ f)
  refine ⟨h.keep eg (fun a u q => ?_) (fun a f => by rw [upd_ne (nf a f), upd_ne (nf a f)]; exact ⟨(h.own a f).1, rfl⟩), eg, fun _ _ => rfl, Nat.le_refl _, fun a u q _ => ?_, fun a q _ => ?_, fun a f => .inl f⟩
  · by_cases c : a = p
    · subst c; rw [upd_same] at q ⊢; exact q
    · rw [upd_ne c] at q ⊢; exact h.gh a u q
  · rw [upd_ne (ne_of_none q hp)]; exact q
  · rw [upd_ne fun z => q (by rw [z]; exact hp)]
theorem get_app {α : Type} {l : List α} {x : α} {i : Nat} {y : α} (h : (l ++ [x])[i]? = some y) : l[i]? = some y ∨ (i = l.length ∧ y = x) := by
  by_cases c : i < l.length
  · rw [List.getElem?_append_left c] at h; exact .inl h
  · rw [List.getElem?_append_right (by omega)] at h
    have : i - l.length = 0 := by
      have := (List.getElem?_eq_some_iff.mp h).1
      rw [List.length_singleton] at this
      omega
    rw [this] at h
    exact .inr ⟨by omega, (Option.some.inj h).symm⟩
theorem Pre.app (ι : Iot) (p : Addr × Addr) : Pre ι (ι ++ [p]) := fun i q h => by
  rw [List.getElem?_append_left (List.getElem?_eq_some_iff.mp h).1]; exact h
/-- a new cell -/
theorem HR.new (h : HR L G H ι μ) {p : Addr × Addr} {c : Cell} (hf : ∀ a, a ∈ Mp.foot p c → H a = none ∧ H' a ≠ none) (hk : ∀ a, a ∉ Mp.foot p c → H' a = H a) (hc : CR L G H' (ι ++ [p]) p c) :
    HR L G H' (ι ++ [p]) (μ ++ [c]) ∧ Stp ι.length G H ι μ G H' (ι ++ [p]) (μ ++ [c]) := by
  have kk : ∀ a u, H a = some u → H' a = some u := fun a u q => by
    rw [hk a fun z => by rw [(hf a z).1] at q; cases q]; exact q
  have fs : ∀ a, Foot (ι ++ [p]) (μ ++ [c]) a → Foot ι μ a ∨ a ∈ Mp.foot p c := fun a ⟨i, q, d, e1, e2, m⟩ => by
    rcases get_app e1 with e1 | ⟨e1, rfl⟩
    · rcases get_app e2 with e2 | ⟨e2, rfl⟩
      · exact .inl ⟨i, q, d, e1, e2, m⟩
      · exact absurd (List.getElem?_eq_some_iff.mp e1).1 (by rw [h.len]; omega)
    · rcases get_app e2 with e2 | ⟨e2, rfl⟩
      · exact absurd (List.getElem?_eq_some_iff.mp e2).1 (by rw [← h.len]; omega)
      · exact .inr m
  refine ⟨⟨fun a u q => kk a u (h.gh a u q), by rw [List.length_append, List.length_append, h.len]; rfl, fun i q d e1 e2 => ?_, fun a f => ?_, fun i j q r d e a e1 e2 e3 e4 m1 m2 => ?_⟩, Ex.refl G, fun i hi => List.getElem?_append_left hi, by rw [List.length_append]; omega, fun a u q _ => kk a u q, fun _ _ _ => rfl, fun a f => ?_⟩
  · rcases get_app e1 with e1 | ⟨e1, rfl⟩
    · rcases get_app e2 with e2 | ⟨e2, rfl⟩
      · exact (h.cell i q d e1 e2).mono (Ex.refl G) (Pre.app _ _) fun a ha => hk a fun z => (h.own a ⟨i, q, d, e1, e2, ha⟩).2 (hf a z).1
      · exact absurd (List.getElem?_eq_some_iff.mp e1).1 (by rw [h.len]; omega)
    · rcases get_app e2 with e2 | ⟨e2, rfl⟩
      · exact absurd (List.getElem?_eq_some_iff.mp e2).1 (by rw [← h.len]; omega)
      · exact hc
  · rcases fs a f with f | f
    · exact ⟨(h.own a f).1, by rw [hk a fun z => (h.own a f).2 (hf a z).1]; exact (h.own a f).2⟩
    · exact ⟨fresh_back h.gh (hf a f).1, (hf a f).2⟩
  · have hx : ∀ {i : Nat} {q : Addr × Addr} {d : Cell}, (ι ++ [p])[i]? = some q → (μ ++ [c])[i]? = some d → a ∈ Mp.foot q d → (ι[i]? = some q ∧ μ[i]? = some d) ∨ (i = ι.length ∧ a ∈ Mp.foot p c) := fun {i q d} e1 e2 m => by
      rcases get_app e1 with e1 | ⟨z1, rfl⟩
      · rcases get_app e2 with e2 | ⟨e2, rfl⟩
        · exact .inl ⟨e1, e2⟩
        · exact absurd (List.getElem?_eq_some_iff.mp e1).1 (by rw [h.len]; omega)
      · rcases get_app e2 with e2 | ⟨z2, rfl⟩
        · exact absurd (List.getElem?_eq_some_iff.mp e2).1 (by rw [← h.len]; omega)
        · exact .inr ⟨z1, m⟩
    rcases hx e1 e2 m1 with ⟨a1, a2⟩ | ⟨a1, a2⟩
    · rcases hx e3 e4 m2 with ⟨b1, b2⟩ | ⟨b1, b2⟩
      · exact h.dj i j q r d e a a1 a2 b1 b2 m1 m2
      · exact absurd (hf a b2).1 (h.own a ⟨i, q, d, a1, a2, m1⟩).2
    · rcases hx e3 e4 m2 with ⟨b1, b2⟩ | ⟨b1, b2⟩
      · exact absurd (hf a a2).1 (h.own a ⟨j, r, e, b1, b2, m2⟩).2
      · rw [a1, b1]
  · rcases fs a f with f | f
    · exact .inl f
    · exact .inr (hf a f).1
/-- a cell changes where it stands -/
theorem HR.mut (h : HR L G H ι μ) {i : Nat} {p : Addr × Addr} {c c' : Cell} (e1 : ι[i]? = some p) (e2 : μ[i]? = some c) (hf : Mp.foot p c' = Mp.foot p c) (hk : ∀ a, a ∉ Mp.foot p c → H' a = H a) (hn : ∀ a, a ∈ Mp.foot p c → H' a ≠ none) (hc : CR L G H' ι p c') :
    HR L G H' ι (μ.set i c') ∧ Stp ι.length G H ι μ G H' ι (μ.set i c') := by
  have fi : ∀ a, a ∈ Mp.foot p c → Foot ι μ a := fun a m => ⟨i, p, c, e1, e2, m⟩
  have gx : ∀ {j : Nat} {q : Addr × Addr} {d : Cell} {a : Addr}, ι[j]? = some q → (μ.set i c')[j]? = some d → a ∈ Mp.foot q d → ∃ d', μ[j]? = some d' ∧ a ∈ Mp.foot q d' := fun {j q d a} q1 q2 m => by
    rcases get_set q2 with ⟨rfl, _, rfl⟩ | ⟨_, q2⟩
    · rw [e1] at q1; cases q1
      exact ⟨c, e2, by rw [← hf]; exact m⟩
    · exact ⟨d, q2, m⟩
  have fs : ∀ a, Foot ι (μ.set i c') a → Foot ι μ a := fun a ⟨j, q, d, q1, q2, m⟩ => by
    obtain ⟨d', z1, z2⟩ := gx q1 q2 m
    exact ⟨j, q, d', q1, z1, z2⟩
  refine ⟨⟨fun a u q => by rw [hk a fun z => h.gfoot q (fi a z)]; exact h.gh a u q, by rw [List.length_set]; exact h.len, fun j q d q1 q2 => ?_, fun a f => ?_, fun j k q r d e a q1 q2 q3 q4 m1 m2 => ?_⟩, Ex.refl G, fun _ _ => rfl, Nat.le_refl _, fun a u q nf => by rw [hk a fun z => nf (fi a z)]; exact q, fun _ _ _ => rfl, fun a f => .inl (fs a f)⟩
  · rcases get_set q2 with ⟨rfl, _, rfl⟩ | ⟨ne, q2⟩
    · rw [e1] at q1; cases q1; exact hc
    · exact (h.cell j q d q1 q2).mono (Ex.refl G) (Pre.refl _) fun a ha => hk a fun z => ne (h.dj i j p q c d a e1 e2 q1 q2 z ha)
  · have f' := fs a f
    refine ⟨(h.own a f').1, ?_⟩
    by_cases z : a ∈ Mp.foot p c
    · exact hn a z
    · rw [hk a z]; exact (h.own a f').2
  · obtain ⟨d1, z1, z2⟩ := gx q1 q2 m1
    obtain ⟨d2, z3, z4⟩ := gx q3 q4 m2
    exact h.dj j k q r d1 d2 a q1 z1 q3 z3 z2 z4
/-- a list's items change -/
theorem HR.mutL (h : HR L G H ι μ) {i : Nat} {p : Addr × Addr} {vs vs' : List Val} {xs' : List V} (e1 : ι[i]? = some p) (e2 : μ[i]? = some (.lst vs)) (hv : VRs L .no G ι xs' vs') :
    HR L G (upd H p.1 (.lst xs')) ι (μ.set i (.lst vs')) ∧ Stp ι.length G H ι μ G (upd H p.1 (.lst xs')) ι (μ.set i (.lst vs')) :=
  h.mut e1 e2 rfl (fun a ha => upd_ne fun z => ha (by rw [z]; exact List.mem_singleton.mpr rfl)) (fun a ha => by rw [List.mem_singleton.mp ha, upd_same]; intro z; cases z) ⟨xs', upd_same, hv⟩
/-- a new list of one's own -/
theorem HR.newL (h : HR L G H ι μ) {p : Addr} {vs : List Val} {xs : List V} (hp : H p = none) (hv : VRs L .no G ι xs vs) :
    HR L G (upd H p (.lst xs)) (ι ++ [(p, p)]) (μ ++ [.lst vs]) ∧ Stp ι.length G H ι μ G (upd H p (.lst xs)) (ι ++ [(p, p)]) (μ ++ [.lst vs]) :=
  h.new (fun a ha => by rw [List.mem_singleton.mp ha, upd_same]; exact ⟨hp, fun z => nomatch z⟩) (fun a ha => upd_ne fun z => ha (by rw [z]; exact List.mem_singleton.mpr rfl)) ⟨xs, upd_same, hv.mono (Ex.refl G) (Pre.app _ _)⟩
/-- a cell becomes data -/
theorem HR.frzC (h : HR L G H ι μ) {i : Nat} {p : Addr × Addr} {c : Cell} {d : D} (e1 : ι[i]? = some p) (e2 : μ[i]? = some c) (eg : Ex G G') (hf : ∀ a, a ∈ Mp.foot p c → G' a = H a) (hk : ∀ a, a ∉ Mp.foot p c → G' a = G a) (hd : Dr L G' (.ref p.1) d) :
    HR L G' H ι (μ.set i (.frz d)) ∧ Stp ι.length G H ι μ G' H ι (μ.set i (.frz d)) := by
  have fi : ∀ a, a ∈ Mp.foot p c → Foot ι μ a := fun a m => ⟨i, p, c, e1, e2, m⟩
  have gx : ∀ {j : Nat} {q : Addr × Addr} {d' : Cell} {a : Addr}, ι[j]? = some q → (μ.set i (.frz d))[j]? = some d' → a ∈ Mp.foot q d' → j ≠ i ∧ μ[j]? = some d' := fun {j q d' a} q1 q2 m => by
    rcases get_set q2 with ⟨rfl, _, rfl⟩ | ⟨ne, q2⟩
    · cases m
    · exact ⟨fun z => ne z.symm, q2⟩
  refine ⟨⟨fun a u q => ?_, by rw [List.length_set]; exact h.len, fun j q d' q1 q2 => ?_, fun a f => ?_, fun j k q r d' e a q1 q2 q3 q4 m1 m2 => ?_⟩, eg, fun _ _ => rfl, Nat.le_refl _, fun a u q nf => q, fun a q nf => hk a fun z => nf (fi a z), fun a f => ?_⟩
  · by_cases z : a ∈ Mp.foot p c
    · rw [hf a z] at q; exact q
    · rw [hk a z] at q; exact h.gh a u q
  · rcases get_set q2 with ⟨rfl, _, rfl⟩ | ⟨ne, q2⟩
    · rw [e1] at q1; cases q1; exact hd
    · exact (h.cell j q d' q1 q2).mono eg (Pre.refl _) fun _ _ => rfl
  · obtain ⟨j, q, d', q1, q2, m⟩ := f
    obtain ⟨ne, q2'⟩ := gx q1 q2 m
    refine ⟨?_, (h.own a ⟨j, q, d', q1, q2', m⟩).2⟩
    rw [hk a fun z => ne (h.dj j i q p d' c a q1 q2' e1 e2 m z)]
    exact (h.own a ⟨j, q, d', q1, q2', m⟩).1
  · exact h.dj j k q r d' e a q1 (gx q1 q2 m1).2 q3 (gx q3 q4 m2).2 m1 m2
  · obtain ⟨j, q, d', q1, q2, m⟩ := f
    exact .inl ⟨j, q, d', q1, (gx q1 q2 m).2, m⟩
end
end Mp
end
section
set_option Elab.async false
set_option linter.all false
set_option maxRecDepth 100000
set_option maxHeartbeats 2000000
namespace Mp
open PySem L2 PySem.Spec PyProof.Rows
open Evl (Ex ex_l ex_t fresh_back)
/-! ### where one stands -/
structure Ctx where
  P : Program
  w : World
  L : Lk
  mg : Str → Option Value
  base : PySem.Heap
  N : List Str
  sc : Scope
  k : Nat
  W : WX
  calm : Bool
  fn : Str → Bool
  su : Option (Addr × Value × Option Addr)
  X : Ext
  T : Tbl
  top : Bool
abbrev Ctx.K (c : Ctx) : PySem.W.Frag := c.L.K
/-- the calls within a body -/
noncomputable abbrev Ctx.R (c : Ctx) : Run := run c.T c.k
noncomputable abbrev Ctx.R1 (c : Ctx) : Run := run1 c.T c.k
structure Fits (c : Ctx) (X : Cx) : Prop where
  p : X.prog = c.P
  w : X.w = c.w
  K : X.K = c.L.K
  mg : X.mg = c.mg
  base : X.base = c.base
  N : X.N = c.N
  sc : X.env.scope = c.sc
  calm : X.calm = c.calm
  room : c.calm = true → Room (c.k + 2) X.A
  un : X.A.units + 100 < cLine
  take : Takes X c.W
  fn : ∀ x, c.fn x = true → X.fn x = true
  nd : c.N.Nodup
  su : ∀ a cls d, c.su = some (a, cls, d) → ∃ (X0 : Cx) (oe : Obj) (pn : List (Addr × Obj)), X = X0.suite a ((a, oe) :: pn) ∧ Zc cls d oe ∧ ∃ vs, oe.data = .fields vs
  tp : c.top = true → X.stack = X.env :: X.outer ∧ X.env.frame = some X.env.locals
structure FitsS (c : Ctx) (X : Cx) : Prop extends Fits c X where
  own : c.calm = true → PassesOwn (model X.prog X.w) X.A X.env X.xe
  stk : c.calm = true → X.stack = X.env :: X.outer ∧ X.env.frame = some X.env.locals
/-! ### the best reading of a piece of syntax -/
def tE (c : Ctx) (e : Expr) : TE := fun σ H Q => ∃ t, (∀ X, Fits c X → PE X e t) ∧ t σ H Q
def tT (c : Ctx) (e : Expr) : TT := fun σ H Q => ∃ t, (∀ X, Fits c X → PT X e t) ∧ t σ H Q
def tW (c : Ctx) (e : Expr) : TT := fun σ H Q => ∃ t, (∀ X, Fits c X → PW X e t) ∧ t σ H Q
def tA (c : Ctx) (es : List Expr) : TA := fun σ H Q => ∃ t, (∀ X, Fits c X → PA X es t) ∧ t σ H Q
def tI (c : Ctx) (tg e : Expr) : TI := fun σ H R => ∃ t, (∀ X, Fits c X → PI X tg e t) ∧ t σ H R
def tG (c : Ctx) (e : Expr) : TG := fun v σ H Q => ∃ t, (∀ X, Fits c X → PG X e t) ∧ t v σ H Q
def tGs (c : Ctx) (es : List Expr) : TGs := fun v σ H Q => ∃ t, (∀ X, Fits c X → PGs X es t) ∧ t v σ H Q
def tTs (c : Ctx) (es : List Expr) : TT := fun σ H Q => ∃ t, (∀ X, Fits c X → PTs X es t) ∧ t σ H Q
def tPa (c : Ctx) (e : Option Expr) : L2.TO := fun σ H Q => ∃ t, (∀ X, Fits c X → PO X e t) ∧ t σ H Q
def tS (c : Ctx) (st : Stmt) : TS := fun D σ H => ∃ t, (∀ X, FitsS c X → PS X st t) ∧ t D σ H
def tSs (c : Ctx) (sts : List Stmt) : TS := fun D σ H => ∃ t, (∀ X, FitsS c X → PSs X sts t) ∧ t D σ H
section
variable {c : Ctx} {X : Cx}
theorem pe_tE {e : Expr} (h : Fits c X) : PE X e (tE c e) := ⟨fun pins s σ H Q I ⟨t, a, q⟩ => (a X h).run pins s σ H Q I q⟩
theorem pt_tT {e : Expr} (h : Fits c X) : PT X e (tT c e) := ⟨fun pins s σ H Q I ⟨t, a, q⟩ => (a X h).run pins s σ H Q I q⟩
theorem pw_tW {e : Expr} (h : Fits c X) : PW X e (tW c e) := ⟨fun wh pins s σ H Q I ⟨t, a, q⟩ => (a X h).run wh pins s σ H Q I q⟩
theorem pa_tA {es : List Expr} (h : Fits c X) : PA X es (tA c es) := ⟨fun pos pins s σ H Q I ⟨t, a, q⟩ => (a X h).run pos pins s σ H Q I q⟩
theorem pi_tI {tg e : Expr} (h : Fits c X) : PI X tg e (tI c tg e) := ⟨fun pins s σ H Q I ⟨t, a, q⟩ => (a X h).run pins s σ H Q I q⟩
theorem pg_tG {e : Expr} (h : Fits c X) : PG X e (tG c e) := ⟨fun pins s σ H v u Q I r ⟨t, a, q⟩ => (a X h).run pins s σ H v u Q I r q⟩
theorem pgs_tGs {es : List Expr} (h : Fits c X) : PGs X es (tGs c es) := ⟨fun pins s σ H v u Q I r ⟨t, a, q⟩ => (a X h).run pins s σ H v u Q I r q⟩
theorem pts_tTs {es : List Expr} (h : Fits c X) : PTs X es (tTs c es) := ⟨fun pins s σ H Q I ⟨t, a, q⟩ => (a X h).run pins s σ H Q I q⟩
theorem po_tPa {e : Option Expr} (h : Fits c X) : PO X e (tPa c e) := ⟨fun pins s σ H Q I ⟨t, a, q⟩ => (a X h).run pins s σ H Q I q⟩
theorem ps_tS {st : Stmt} (h : FitsS c X) : PS X st (tS c st) := ⟨fun pins s σ H D I ⟨t, a, q⟩ => (a X h).run pins s σ H D I q⟩
theorem pss_tSs {sts : List Stmt} (h : FitsS c X) : PSs X sts (tSs c sts) := ⟨fun pins s σ H D I ⟨t, a, q⟩ => (a X h).run pins s σ H D I q⟩
end
/-! ### the small state stands in the frame -/
structure St (c : Ctx) (G H : Hp) (σ : L2.St) (ι : Iot) (δ : Slots) (μ : Heap) : Prop where
  hr : HR c.L G H ι μ
  len : σ.length = δ.length
  sl : ∀ (i : Nat) (v : Val), δ.at i = some v → ∃ w, σ[i]? = some (some w) ∧ VR c.L c.X G ι w v
/-- what an exception brings -/
def EOk (L : Lk) (E : XK) (Fr : Addr → Prop) (G H : Hp) : Exn → Prop
  | .pl c => L.isX c = true → E (.ref (L.clA c)) none H
  | .fld c f d => L.isX c = true → ∀ dd v, Fr dd → H dd = some (.xd [(f, v)]) → Dr L G v d → E (.ref (L.clA c)) (some dd) H
theorem EOk.mono {L : Lk} {E : XK} {Fr Fr' : Addr → Prop} {G H : Hp} {x : Exn} (h : EOk L E Fr G H x) (k : ∀ a, Fr' a → Fr a) : EOk L E Fr' G H x := by
  cases x with
  | pl c => exact h
  | fld c f d => exact fun hx dd v fr h1 h2 => h hx dd v (k dd fr) h1 h2
/-- what is asked behind r -/
def Post {α β : Type} (L : Lk) (E : XK) (Rv : Hp → Hp → Iot → Heap → β → α → Prop) (G H : Hp) (ι : Iot) (μ : Heap) (Q : β → Hp → Prop) : Res α → Prop
  | .ok a μ' => ∀ w G' H' ι', Stp ι.length G H ι μ G' H' ι' μ' → HR L G' H' ι' μ' → Rv G' H' ι' μ' w a → Q w H'
  | .ex x μ' => ∀ G' H' ι', Stp ι.length G H ι μ G' H' ι' μ' → HR L G' H' ι' μ' → EOk L E (Frs H ι μ) G' H' x
  | .bad => False
section
variable {c : Ctx} {L : Lk} {E : XK} {α β γ α2 β2 : Type} {Rv : Hp → Hp → Iot → Heap → β → α → Prop} {Rw : Hp → Hp → Iot → Heap → β2 → α2 → Prop} {G H G1 H1 G2 H2 : Hp} {ι ι1 ι2 : Iot} {μ μ1 μ2 : Heap} {Q Q' : β → Hp → Prop} {σ : L2.St} {δ : Slots}
theorem Stp.go (a : Stp ι.length G H ι μ G1 H1 ι1 μ1) (b : Stp ι1.length G1 H1 ι1 μ1 G2 H2 ι2 μ2) : Stp ι.length G H ι μ G2 H2 ι2 μ2 := a.then_ b
theorem Post.mono {r : Res α} (h : Post L E Rv G H ι μ Q r) (k : ∀ w H', Q w H' → Q' w H') : Post L E Rv G H ι μ Q' r := by
  cases r with
  | ok a μ' => exact fun w G' H' ι' st hr rv => k _ _ (h w G' H' ι' st hr rv)
  | ex x μ' => exact h
  | bad => exact h
theorem Post.step {r : Res α} (h : Post L E Rv G H ι μ Q r) (s : Stp ι.length G H ι μ G1 H1 ι1 μ1) : Post L E Rv G1 H1 ι1 μ1 Q r := by
  cases r with
  | ok a μ' => exact fun w G' H' ι' st hr rv => h w G' H' ι' (s.go st) hr rv
  | ex x μ' => exact fun G' H' ι' st hr => (h G' H' ι' (s.go st) hr).mono fun _ z => s.frs z
  | bad => exact h
/-- one step, then the others -/
theorem Post.bnd {r : Res α} {f : α → Heap → Res α2} {Q2 : β2 → Hp → Prop} (h : Post L E Rw G H ι μ Q2 (r.bnd f))
    (k : ∀ w a μ1 G1 H1 ι1, Stp ι.length G H ι μ G1 H1 ι1 μ1 → HR L G1 H1 ι1 μ1 → Rv G1 H1 ι1 μ1 w a → Post L E Rw G1 H1 ι1 μ1 Q2 (f a μ1) → Q w H1) : Post L E Rv G H ι μ Q r := by
  cases r with
  | ok a μ' => exact fun w G' H' ι' st hr rv => k w a μ' G' H' ι' st hr rv (Post.step h st)
  | ex x μ' => exact h
  | bad => exact h
theorem Post.ok {a : α} {w : β} (h : Post L E Rv G H ι μ Q (.ok a μ)) (hr : HR L G H ι μ) (rv : Rv G H ι μ w a) : Q w H := h w G H ι (.refl (Nat.le_refl _)) hr rv
theorem Post.okS {a : α} {w : β} (h : Post L E Rv G H ι μ Q (.ok a μ1)) (s : Stp ι.length G H ι μ G1 H1 ι1 μ1) (hr : HR L G1 H1 ι1 μ1) (rv : Rv G1 H1 ι1 μ1 w a) : Q w H1 := h w G1 H1 ι1 s hr rv
theorem Post.need {b : Bool} {r : Res α} (h : Post L E Rv G H ι μ Q (Mp.need b r)) : b = true ∧ Post L E Rv G H ι μ Q r := by
  unfold Mp.need at h
  split at h
  · rename_i e; exact ⟨e, h⟩
  · exact h.elim
theorem Post.opt {o : Option α} {f : α → Heap → Res α2} {Q2 : β2 → Hp → Prop} {ν : Heap} (h : Post L E Rw G H ι μ Q2 ((Mp.opt o ν).bnd f)) : ∃ a, o = some a ∧ Post L E Rw G H ι μ Q2 (f a ν) := by
  cases o with
  | none => exact h.elim
  | some a => exact ⟨a, rfl, h⟩
theorem Post.opt1 {o : Option α} {ν : Heap} (h : Post L E Rv G H ι μ Q (Mp.opt o ν)) : ∃ a, o = some a ∧ Post L E Rv G H ι μ Q (.ok a ν) := by
  cases o with
  | none => exact h.elim
  | some a => exact ⟨a, rfl, h⟩
theorem St.step (S : St c G H σ ι δ μ) (s : Stp ι.length G H ι μ G1 H1 ι1 μ1) (hr : HR c.L G1 H1 ι1 μ1) : St c G1 H1 σ ι1 δ μ1 :=
  ⟨hr, S.len, fun i v h => by
    obtain ⟨w, h1, h2⟩ := S.sl i v h
    exact ⟨w, h1, h2.mono s.g s.pre'⟩⟩
theorem at_set {δ : Slots} {i j : Nat} {o : Option Val} {v : Val} (h : Slots.at (δ.set i o) j = some v) : (i = j ∧ i < δ.length ∧ o = some v) ∨ (i ≠ j ∧ δ.at j = some v) := by
  unfold Slots.at at h
  split at h
  · rename_i o' e
    rcases get_set e with ⟨a, b, rfl⟩ | ⟨a, b⟩
    · exact .inl ⟨a, b, h⟩
    · exact .inr ⟨a, by unfold Slots.at; rw [b]; exact h⟩
  · cases h
theorem St.set (S : St c G H σ ι δ μ) (i : Nat) {w : V} {v : Val} (h : VR c.L c.X G ι w v) : St c G H (σ.set i (some w)) ι (δ.set i (some v)) μ :=
  ⟨S.hr, by rw [List.length_set, List.length_set]; exact S.len, fun j u hj => by
    rcases at_set hj with ⟨rfl, q, e⟩ | ⟨q, e⟩
    · cases e
      exact ⟨w, List.getElem?_set_self (by rw [S.len]; exact q), h⟩
    · obtain ⟨w', h1, h2⟩ := S.sl j u e
      exact ⟨w', by rw [List.getElem?_set_ne q]; exact h1, h2⟩⟩
/-- forgotten, whatever stands there -/
theorem St.none (S : St c G H σ ι δ μ) (i : Nat) (o : Option V) : St c G H (σ.set i o) ι (δ.set i none) μ :=
  ⟨S.hr, by rw [List.length_set, List.length_set]; exact S.len, fun j u hj => by
    rcases at_set hj with ⟨rfl, q, e⟩ | ⟨q, e⟩
    · cases e
    · obtain ⟨w', h1, h2⟩ := S.sl j u e
      exact ⟨w', by rw [List.getElem?_set_ne q]; exact h1, h2⟩⟩
theorem St.kill1 (S : St c G H σ ι δ μ) (i : Nat) : St c G H σ ι (δ.set i Option.none) μ :=
  ⟨S.hr, by rw [List.length_set]; exact S.len, fun j u hj => by
    rcases at_set hj with ⟨rfl, q, e⟩ | ⟨q, e⟩
    · cases e
    · exact S.sl j u e⟩
theorem St.kill : ∀ (is : List Nat) {δ : Slots} (S : St c G H σ ι δ μ), St c G H σ ι (killS is δ) μ
  | [], _, S => S
  | i :: is, _, S => St.kill is (S.kill1 i)
end
/-! ### judgements -/
abbrev RvV (L : Lk) (X : Ext) : Hp → Hp → Iot → Heap → V → Val → Prop := fun G _ ι _ w v => VR L X G ι w v
abbrev RvVs (L : Lk) (X : Ext) : Hp → Hp → Iot → Heap → List V → List Val → Prop := fun G _ ι _ w v => VRs L X G ι w v
abbrev RvB : Hp → Hp → Iot → Heap → Bool → Bool → Prop := fun _ _ _ _ w v => w = v
abbrev RvO : Hp → Hp → Iot → Heap → Option Int → Option Int → Prop := fun _ _ _ _ w v => w = v
abbrev Ctx.E (c : Ctx) (σ : L2.St) : XK := fun cls d H => c.W cls d σ H
structure SndE (c : Ctx) (a : Expr) (m : Slots → Heap → Res Val) : Prop where
  intro ::
  run : ∀ {G H σ ι δ μ}, St c G H σ ι δ μ → ∀ Q, Post c.L (c.E σ) (RvV c.L c.X) G H ι μ Q (m δ μ) → tE c a σ H Q
instance {c : Ctx} {a : Expr} {m : Slots → Heap → Res Val} : CoeFun (SndE c a m) fun _ => ∀ {G H σ ι δ μ}, St c G H σ ι δ μ → ∀ Q, Post c.L (c.E σ) (RvV c.L c.X) G H ι μ Q (m δ μ) → tE c a σ H Q := ⟨SndE.run⟩
structure SndT (c : Ctx) (a : Expr) (m : Slots → Heap → Res Bool) : Prop where
  intro ::
  run : ∀ {G H σ ι δ μ}, St c G H σ ι δ μ → ∀ Q, Post c.L (c.E σ) RvB G H ι μ Q (m δ μ) → tT c a σ H Q
instance {c : Ctx} {a : Expr} {m : Slots → Heap → Res Bool} : CoeFun (SndT c a m) fun _ => ∀ {G H σ ι δ μ}, St c G H σ ι δ μ → ∀ Q, Post c.L (c.E σ) RvB G H ι μ Q (m δ μ) → tT c a σ H Q := ⟨SndT.run⟩
structure SndW (c : Ctx) (a : Expr) (m : Slots → Heap → Res Bool) : Prop where
  intro ::
  run : ∀ {G H σ ι δ μ}, St c G H σ ι δ μ → ∀ Q, Post c.L (c.E σ) RvB G H ι μ Q (m δ μ) → tW c a σ H Q
instance {c : Ctx} {a : Expr} {m : Slots → Heap → Res Bool} : CoeFun (SndW c a m) fun _ => ∀ {G H σ ι δ μ}, St c G H σ ι δ μ → ∀ Q, Post c.L (c.E σ) RvB G H ι μ Q (m δ μ) → tW c a σ H Q := ⟨SndW.run⟩
structure SndA (c : Ctx) (as : List Expr) (m : Slots → Heap → Res (List Val)) : Prop where
  intro ::
  run : ∀ {G H σ ι δ μ}, St c G H σ ι δ μ → ∀ Q, Post c.L (c.E σ) (RvVs c.L c.X) G H ι μ Q (m δ μ) → tA c as σ H Q
instance {c : Ctx} {as : List Expr} {m : Slots → Heap → Res (List Val)} : CoeFun (SndA c as m) fun _ => ∀ {G H σ ι δ μ}, St c G H σ ι δ μ → ∀ Q, Post c.L (c.E σ) (RvVs c.L c.X) G H ι μ Q (m δ μ) → tA c as σ H Q := ⟨SndA.run⟩
structure SndO (c : Ctx) (a : Option Expr) (m : Slots → Heap → Res (Option Int)) : Prop where
  intro ::
  run : ∀ {G H σ ι δ μ}, St c G H σ ι δ μ → ∀ Q, Post c.L (c.E σ) RvO G H ι μ Q (m δ μ) → tPa c a σ H Q
instance {c : Ctx} {a : Option Expr} {m : Slots → Heap → Res (Option Int)} : CoeFun (SndO c a m) fun _ => ∀ {G H σ ι δ μ}, St c G H σ ι δ μ → ∀ Q, Post c.L (c.E σ) RvO G H ι μ Q (m δ μ) → tPa c a σ H Q := ⟨SndO.run⟩
structure SndTs (c : Ctx) (as : List Expr) (m : Slots → Heap → Res Bool) : Prop where
  intro ::
  run : ∀ {G H σ ι δ μ}, St c G H σ ι δ μ → ∀ Q, Post c.L (c.E σ) RvB G H ι μ Q (m δ μ) → tTs c as σ H Q
instance {c : Ctx} {as : List Expr} {m : Slots → Heap → Res Bool} : CoeFun (SndTs c as m) fun _ => ∀ {G H σ ι δ μ}, St c G H σ ι δ μ → ∀ Q, Post c.L (c.E σ) RvB G H ι μ Q (m δ μ) → tTs c as σ H Q := ⟨SndTs.run⟩
section
variable {c : Ctx} {a b e : Expr} {m m1 m2 : Slots → Heap → Res Val} {mt : Slots → Heap → Res Bool}
theorem SndE.mk {t : TE} (h : ∀ X, Fits c X → PE X a t) (q : ∀ {G H σ ι δ μ}, St c G H σ ι δ μ → ∀ Q, Post c.L (c.E σ) (RvV c.L c.X) G H ι μ Q (m δ μ) → t σ H Q) : SndE c a m := ⟨fun S Q p => ⟨t, h, q S Q p⟩⟩
theorem SndT.mk {t : TT} (h : ∀ X, Fits c X → PT X a t) (q : ∀ {G H σ ι δ μ}, St c G H σ ι δ μ → ∀ Q, Post c.L (c.E σ) RvB G H ι μ Q (mt δ μ) → t σ H Q) : SndT c a mt := ⟨fun S Q p => ⟨t, h, q S Q p⟩⟩
theorem SndW.mk {t : TT} (h : ∀ X, Fits c X → PW X a t) (q : ∀ {G H σ ι δ μ}, St c G H σ ι δ μ → ∀ Q, Post c.L (c.E σ) RvB G H ι μ Q (mt δ μ) → t σ H Q) : SndW c a mt := ⟨fun S Q p => ⟨t, h, q S Q p⟩⟩
theorem SndW.tx (h : SndW c a mt) : SndT c a mt := SndT.mk (t := tW c a) (fun X f => (pw_tW f).pt) fun S Q p => h S Q p
theorem SndA.mk {as : List Expr} {m : Slots → Heap → Res (List Val)} {t : TA} (h : ∀ X, Fits c X → PA X as t) (q : ∀ {G H σ ι δ μ}, St c G H σ ι δ μ → ∀ Q, Post c.L (c.E σ) (RvVs c.L c.X) G H ι μ Q (m δ μ) → t σ H Q) : SndA c as m := ⟨fun S Q p => ⟨t, h, q S Q p⟩⟩
end
end Mp
end
section
set_option Elab.async false
set_option linter.all false
set_option maxRecDepth 100000
set_option maxHeartbeats 2000000
namespace L2
open PySem PySem.Spec PyProof.Rows
section
variable {X : Cx}
/-- list + list, any lists -/
def rCatL (K : PySem.W.Frag) : R2 := fun x y H Q => ∃ l b xs zs, x = .ref l ∧ y = .ref b ∧ SqL K H l xs ∧ SqL K H b zs ∧ xs.length + zs.length ≤ sizeLine ∧ ∀ p, H p = none → Q (.ref p) (upd H p (.lst (xs ++ zs)))
theorem op_catL : OpR X (binaryOp .Add) (rCatL X.K) := by
  intro pins s σ H x y v u Q I rx ry h
  obtain ⟨l, b, xs, zs, rfl, rfl, hH, hB, hz, q⟩ := h
  cases rx
  cases ry
  obtain ⟨its, r, pl, _⟩ := I.list hH
  obtain ⟨its2, r2, pl2, _⟩ := I.list hB
  obtain ⟨⟨cls, dd, data, sl⟩, ho, hc, n, hd⟩ := id pl.isList
  obtain ⟨⟨cls2, dd2, data2, sl2⟩, ho2, hc2, n2, hd2⟩ := id pl2.isList
  simp only at hc hd hc2 hd2
  subst hc hd hc2 hd2
  have e : its.toArray ++ its2.toArray = (its ++ its2).toArray := by simp
  have hl := r.length
  have hl2 := r2.length
  refine concat_meets ⟨_, ho, rfl⟩ ⟨_, ho2, rfl⟩ noFill_list_add seq_list_add PySem.F.slot_list_add PySem.F.entry_list_add (PySem.F.args_list_add_2 _ _) (list_addW l b its.toArray its2.toArray n n2 dd dd2 sl sl2 (by simp; omega)) ⟨ho, ho2, ?_⟩
  rw [e]
  exact ⟨.ref _, _, I.lnew (t' := s.toks) (r.append r2) (by rw [List.length_append]; omega), rfl, q _ I.fresh⟩
/-- list * int, any list -/
def rRepL (K : PySem.W.Frag) : R2 := fun x y H Q => ∃ l k xs, x = .ref l ∧ y = .int k ∧ SqL K H l xs ∧ -(2 ^ 63) ≤ k ∧ k < 2 ^ 63 ∧ xs.length * k.toNat ≤ sizeLine ∧
  ∀ p, H p = none → Q (.ref p) (upd H p (.lst (List.replicate k.toNat xs).flatten))
theorem op_repL : OpR X (binaryOp .Mult) (rRepL X.K) := by
  intro pins s σ H x y v u Q I rx ry h
  obtain ⟨l, k, xs, rfl, rfl, hH, h1, h2, hz, q⟩ := h
  cases rx
  obtain ⟨t, rfl⟩ := ry
  obtain ⟨its, r, pl, _⟩ := I.list hH
  obtain ⟨⟨cls, dd, data, sl⟩, e, hc, n, hd⟩ := id pl.isList
  simp only at hc hd
  subst hc hd
  have hl := r.length
  have hlen : its.toArray.size * k.toNat ≤ sizeLine := by rw [List.size_toArray, ← hl]; exact hz
  have hcap : ¬ its.toArray.size * k.toNat > (2 ^ 63 - 1) / 8 := by
    have : (sizeLine : Nat) ≤ (2 ^ 63 - 1) / 8 := by decide
    omega
  have hfit : ¬ (!Builtin.List.listFitsIndex k) = true := by
    rw [fitsIndex_both h1 h2]
    exact Bool.false_ne_true
  have hlong : ¬ Builtin.List.listTooLong (its.toArray.size * k.toNat) = true := by
    rw [notLongL hlen]
    exact Bool.false_ne_true
  have hnew : List.foldl (fun x1 x2 => x1 ++ x2) #[] (List.replicate (if its.toArray.isEmpty = true then 0 else k.toNat) its.toArray) = (List.replicate k.toNat its).flatten.toArray := by
    have f0 : ∀ m : Nat, List.foldl (fun x1 x2 => x1 ++ x2) #[] (List.replicate m its.toArray) = (List.replicate m its).flatten.toArray := fun m => by
      have := foldl_rep its m []
      rw [List.nil_append] at this
      exact this
    rw [f0]
    cases its with
    | nil => simp
    | cons a r' => rw [if_neg (by simp)]
  refine wpAny_binaryOp_repeat_ref (T := "list") (U := "int") (by decide) ⟨_, e, rfl⟩ (fun s' => typeIs_int s' k t) noFill_list_mul F.fills_int_mul F.slot_int_rmul repeat_list F.slot_int_index.lookup
    (call_meets F.slot_int_rmul (typeIs_int s k t) F.entry_int_rmul (F.args_int_rmul_2 _ _) (lm_int_rmul_list_any k t l its.toArray n dd sl)
      ⟨e, rfl, ⟨_, e, rfl⟩, call_meets F.slot_list_mul ⟨_, e, rfl⟩ F.entry_list_mul (F.args_list_mul_2 _ _) (lm_list_mul_any l its.toArray n dd sl k t hfit hcap hlong) ⟨e, ?_⟩⟩)
  rw [hnew]
  exact ⟨.ref _, _, I.lnew (t' := s.toks) (r.rep k.toNat) (by rw [PyProof.Rows.lm_len_rep_flat, Nat.mul_comm]; exact hz), rfl, q _ I.fresh⟩
theorem tuple_mul1W (l : Addr) (items : Array Value) (n : Nat) (dd : Option Addr) (sl : Array (Option Value)) (u : Tok) :
    Meets (Builtin.«tuple.__mul__» ⟨[.ref l, .int 1 u], []⟩) (fun _ R s => s.heap.get? l = some { cls := .type "tuple", dict := dd, data := .seq items n, slots := sl } ∧
      R (.ok (.ret (Value.ref l))) s) :=
  .of_wp fun prog w A R s h => by
    obtain ⟨hp, g, d, tk, os⟩ := s
    obtain ⟨hl, h⟩ := h
    have f1 := AutoSeq1.idx_int
    wp_walk using wpAny_loadPart' hl
    exact ⟨_, rfl, h⟩
def rRepT1 (K : PySem.W.Frag) : R2 := fun x y H Q => ∃ l xs, x = .ref l ∧ y = .int 1 ∧ SqT K H l xs ∧ Q (.ref l) H
theorem op_repT1 : OpR X (binaryOp .Mult) (rRepT1 X.K) := by
  intro pins s σ H x y v u Q I rx ry h
  obtain ⟨l, xs, rfl, rfl, hT, q⟩ := h
  cases rx
  obtain ⟨t, rfl⟩ := ry
  obtain ⟨its, r, ⟨⟨cls, dd, data, sl⟩, ho, hc, n, hd⟩, hs⟩ := I.tuple hT
  simp only at hc hd
  subst hc hd
  refine wpAny_binaryOp_repeat_ref (T := "tuple") (U := "int") (by decide) ⟨_, ho, rfl⟩ (fun s' => typeIs_int s' 1 t) noFill_tuple_mul F.fills_int_mul F.slot_int_rmul repeat_tuple F.slot_int_index.lookup
    (call_meets F.slot_int_rmul (typeIs_int s 1 t) F.entry_int_rmul (F.args_int_rmul_2 _ _) (int_rmul_tuple 1 t l its.toArray n dd sl)
      ⟨ho, rfl, ⟨_, ho, rfl⟩, call_meets F.slot_tuple_mul ⟨_, ho, rfl⟩ F.entry_tuple_mul (F.args_tuple_mul_2 _ _) (tuple_mul1W l its.toArray n dd sl t) ⟨ho, ?_⟩⟩)
  exact ⟨.ref l, _, I, rfl, q⟩
end
end L2
namespace Mp
open PySem L2 PySem.Spec PyProof.Rows
open Evl (Ex ex_l ex_t fresh_back)
/-! ### operators -/
def opOf : Bop → Operator
  | .add => .Add | .sub => .Sub | .mul => .Mult | .fdiv => .FloorDiv | .mod => .Mod | .pow => .Pow | .band => .BitAnd
def rAddS : R2 := fun x y H Q => ∃ i j, x = .str i ∧ y = .str j ∧ i.length + j.length ≤ sizeLine ∧ Q (.str (i ++ j)) H
def rBin (K : PySem.W.Frag) : Bop → R2
  | .add => fun x y H Q => rI0 (fun i j => .int (i + j)) x y H Q ∨ (rAddS x y H Q ∨ (rCatA K x y H Q ∨ rCatL K x y H Q))
  | .sub => rI0 fun i j => .int (i - j)
  | .mul => fun x y H Q => rI CMul (fun i j => .int (i * j)) x y H Q ∨ (rRepL K x y H Q ∨ (rRepT K x y H Q ∨ rRepT1 K x y H Q))
  | .fdiv => rI CDiv fun i j => .int (i / j)
  | .mod => rI (fun _ j => 0 < j) fun i j => .int (i % j)
  | .pow => rI CPow fun i j => .int (i ^ j.toNat)
  | .band => fun _ _ _ _ => False
theorem op_bin {X : Cx} : ∀ op, OpR X (binaryOp (opOf op)) (rBin X.K op)
  | .add => op_add.or (op_add_str.or (op_catA.or op_catL))
  | .sub => op_sub
  | .mul => op_mul.or (op_repL.or (op_repT.or op_repT1))
  | .fdiv => op_fdiv
  | .mod => op_mod
  | .pow => op_pow
  | .band => fun _ _ _ _ _ _ _ _ _ _ _ _ h => h.elim
section
variable {L : Lk} {X : Ext} {E : XK} {G H : Hp} {ι : Iot} {μ : Heap} {Q : VK} {x y : V} {u v : Val} {op : Bop}
theorem Post.newL {w : Bool} {vs : List Val} {ws : List V} {p : Addr} (h : HR L G H ι μ) (q : Post L E (RvV L X) G H ι μ Q (newL w vs μ)) (r : VRs L X G ι ws vs) (hp : H p = none) : Q (.ref p) (upd H p (.lst ws)) := by
  obtain ⟨hz, q⟩ := q.need
  cases w with
  | true =>
    obtain ⟨hs, q⟩ := q.need
    obtain ⟨h1, s1⟩ := h.newL (p := p) hp (r.ext (X' := .no) hs)
    exact q.okS s1 h1 ⟨(p, p), by rw [← h.len]; exact List.getElem?_concat_length, rfl⟩
  | false =>
    simp only at q
    split at q
    · rename_i ds hd
      have r' := vrs_snap0 r hd
      obtain ⟨h1, s1⟩ := h.grow (p := p) (.lst ws) hp
      exact q.okS s1 h1 (.lst (SqL.of upd_same) (drs_ex s1.g r'))
    · exact q.elim
theorem newL_small {w : Bool} {vs : List Val} {ws : List V} (q : Post L E (RvV L X) G H ι μ Q (Mp.newL w vs μ)) (r : VRs L X G ι ws vs) : ws.length ≤ sizeLine := by
  rw [vrs_len r]; exact small_le q.need.1
theorem Post.tup {vs : List Val} {ws : List V} {p : Addr} (h : HR L G H ι μ) (q : Post L E (RvV L X) G H ι μ Q (tupV vs μ)) (r : VRs L X G ι ws vs) (hp : H p = none) : Q (.ref p) (upd H p (.tup ws)) := by
  obtain ⟨hz, q⟩ := q.need
  split at q
  · rename_i ds hd
    have r' := vrs_snap0 r hd
    obtain ⟨h1, s1⟩ := h.grow (p := p) (.tup ws) hp
    exact q.okS s1 h1 (.tup (SqT.of upd_same) (drs_ex s1.g r'))
  · exact q.elim
theorem tup_small {vs : List Val} {ws : List V} (q : Post L E (RvV L X) G H ι μ Q (tupV vs μ)) (r : VRs L X G ι ws vs) : ws.length ≤ sizeLine := by
  rw [vrs_len r]; exact small_le q.need.1
theorem sqa_l {K : PySem.W.Frag} {b : Bool} {a : Addr} {xs : List V} (h : SqA K H b a xs) (e : b = true) : SqL K H a xs := by subst e; exact h
theorem vrs_rep {ws : List V} {vs : List Val} (r : VRs L X G ι ws vs) : ∀ n : Nat, VRs L X G ι (List.replicate n ws).flatten (List.replicate n vs).flatten
  | 0 => .nil
  | n + 1 => by
    rw [List.replicate_succ, List.replicate_succ, List.flatten_cons, List.flatten_cons]
    exact vrs_app r (vrs_rep r n)
theorem drs_rep {L : Lk} {G : Hp} {ws : List V} {vs : List D} (r : Drs L G ws vs) : ∀ n : Nat, Drs L G (List.replicate n ws).flatten (List.replicate n vs).flatten
  | 0 => .nil
  | n + 1 => by
    rw [List.replicate_succ, List.replicate_succ, List.flatten_cons, List.flatten_cons]
    exact drs_app r (drs_rep r n)
/-- list + list, list * int -/
theorem lst_ok {w : Bool} (h : HR L G H ι μ) (rx : VR L X G ι x v) (ry : VR L X G ι y u) {vs : List Val} (e : lstop op v u μ = some vs) (hl : isL μ v = true) (q : Post L E (RvV L X) G H ι μ Q (newL w vs μ)) : rBin L.K op x y H Q := by
  unfold lstop at e
  split at e
  · split at e
    · rename_i a b ha hb
      split at e
      · rename_i hz
        cases e
        obtain ⟨p1, xs, rfl, s1, t1⟩ := h.items rx ha
        obtain ⟨p2, zs, rfl, s2, t2⟩ := h.items ry hb
        rw [Bool.and_eq_true] at hz
        have hz1 := small_le hz.2
        exact .inr (.inr (.inr ⟨p1, p2, xs, zs, rfl, rfl, sqa_l s1 hl, sqa_l s2 hz.1, by rw [vrs_len t1, vrs_len t2]; exact hz1, fun p hp => q.newL h (vrs_app t1 t2) hp⟩))
      · cases e
    · cases e
  · split at e
    · rename_i a ha
      split at e
      · rename_i hz
        cases e
        rw [Bool.and_eq_true, Bool.and_eq_true, decide_eq_true_eq, decide_eq_true_eq] at hz
        obtain ⟨p1, xs, rfl, s1, t1⟩ := h.items rx ha
        have hz1 := small_le hz.1.1
        exact .inr (.inl ⟨p1, _, xs, rfl, dr_int ry, sqa_l s1 hl, by omega, by omega, by rw [vrs_len t1]; exact hz1, fun p hp => q.newL h (vrs_rep t1 _) hp⟩)
      · cases e
    · cases e
  · cases e
theorem bin_ok (h : HR L G H ι μ) (rx : VR L X G ι x v) (ry : VR L X G ι y u) (q : Post L E (RvV L X) G H ι μ Q (binV op v u μ)) : rBin L.K op x y H Q := by
  unfold binV at q
  split at q
  · rename_i i j
    rw [dr_int rx, dr_int ry]
    cases op with
    | add => exact .inl ⟨i, j, rfl, rfl, q.ok h (.int _)⟩
    | sub => exact ⟨i, j, rfl, rfl, q.ok h (.int _)⟩
    | mul =>
      obtain ⟨hc, q⟩ := q.need
      refine .inl ⟨i, j, rfl, rfl, ?_, q.ok h (.int _)⟩
      unfold mulOk at hc
      rw [Bool.or_eq_true, decide_eq_true_eq, decide_eq_true_eq] at hc
      exact hc
    | fdiv =>
      obtain ⟨hc, q⟩ := q.need
      exact ⟨i, j, rfl, rfl, (show 0 < j ∧ j < 1073741824 from of_decide_eq_true hc), q.ok h (.int _)⟩
    | mod =>
      obtain ⟨hc, q⟩ := q.need
      exact ⟨i, j, rfl, rfl, of_decide_eq_true hc, q.ok h (.int _)⟩
    | pow =>
      obtain ⟨hc, q⟩ := q.need
      exact ⟨i, j, rfl, rfl, (show 0 ≤ j ∧ j ≤ 1000000 ∧ i.natAbs < 2 ^ 64 from of_decide_eq_true hc), q.ok h (.int _)⟩
    | band => exact q.elim
  · rename_i a b
    rw [dr_str rx, dr_str ry]
    cases op with
    | add =>
      obtain ⟨hc, q⟩ := q.need
      exact .inr (.inl ⟨a, b, rfl, rfl, small_le hc, q.ok h (.str _)⟩)
    | _ => exact q.elim
  · rename_i a b
    obtain ⟨p1, xs, rfl, s1, t1⟩ := dr_tup rx
    obtain ⟨p2, zs, rfl, s2, t2⟩ := dr_tup ry
    cases op with
    | add =>
      obtain ⟨hc, q⟩ := q.need
      have hc := small_le hc
      refine .inr (.inr (.inl ⟨p1, p2, xs, zs, rfl, rfl, ex_t h.gh s1, ex_t h.gh s2, by rw [drs_len t1, drs_len t2]; exact hc, fun e => ?_, fun e1 e2 => ?_, fun e1 e2 p hp => ?_⟩))
      · subst e; cases t1
        exact q.ok h (.tup s2 t2)
      · subst e2; cases t2
        rw [List.append_nil] at q
        exact q.ok h (.tup s1 t1)
      · obtain ⟨h1, st⟩ := h.grow (p := p) (.tup (xs ++ zs)) hp
        exact q.okS st h1 (.tup (SqT.of upd_same) (drs_ex st.g (drs_app t1 t2)))
    | _ => exact q.elim
  · rename_i a k
    obtain ⟨p1, xs, rfl, s1, t1⟩ := dr_tup rx
    have ek := dr_int ry
    subst ek
    cases op with
    | mul =>
      obtain ⟨hc, q⟩ := q.need
      unfold repOk at hc
      simp only [Bool.and_eq_true, decide_eq_true_eq] at hc
      obtain ⟨⟨⟨h0, h1⟩, h2⟩, h3⟩ := hc
      by_cases e1 : k = 1
      · subst e1
        refine .inr (.inr (.inr ⟨p1, xs, rfl, rfl, ex_t h.gh s1, ?_⟩))
        have e : (List.replicate (1 : Int).toNat a).flatten = a := by simp
        rw [e] at q
        exact q.ok h (.tup s1 t1)
      · refine .inr (.inr (.inl ⟨p1, k, xs, rfl, rfl, ex_t h.gh s1, fun e => ?_, by omega, by omega, by rw [drs_len t1]; exact h2, fun p hp => ?_⟩))
        · subst e; cases t1; simp at h3
        · obtain ⟨h1, st⟩ := h.grow (p := p) (.tup (List.replicate k.toNat xs).flatten) hp
          exact q.okS st h1 (.tup (SqT.of upd_same) (drs_ex st.g (drs_rep t1 _)))
    | _ => exact q.elim
  · split at q
    · rename_i vs hv
      obtain ⟨hl, q⟩ := q.need
      exact lst_ok h rx ry hv hl q
    · exact q.elim
end
end Mp
end
section
set_option Elab.async false
set_option linter.all false
set_option maxRecDepth 100000
set_option maxHeartbeats 2000000
namespace L2
open PySem PySem.Spec PyProof.Rows
open SeqAt (EqAt RcAt RcNeAt)
/-! ### == of data of any depth, texts of any signs -/
section
variable {X : Cx} {pins : List (Addr × Obj)} {σ : St} {H : Hp} {s : Shared}
theorem relA {a : Addr} {u : Value} (r : RelV (.ref a) u) : u = .ref a := r
theorem Inv.lt_ne (I : Inv X pins σ H s) {a : Addr} {xs ys : List V} (h : SqL X.K H a xs) (h' : SqT X.K H a ys) : False := by
  obtain ⟨its, r, p, _⟩ := I.list h
  obtain ⟨its', r', p', _⟩ := I.tuple h'
  exact SeqAt.ne_of_list_tuple p.isList p' rfl
/-- what stands at one place is equal to itself -/
theorem eqv_same (I : Inv X pins σ H s) : ∀ (da db : PyData) {x : V}, Dp X.K H x da → Dp X.K H x db → PyData.eqv da db = true := by
  intro da
  refine PyData.rec (motive_1 := fun da => ∀ (db : PyData) {x : V}, Dp X.K H x da → Dp X.K H x db → PyData.eqv da db = true) (motive_2 := fun das => ∀ (dbs : List PyData) {xs : List V}, DpAll X.K H xs das → DpAll X.K H xs dbs → PyData.eqvAll das dbs = true)
    (motive_3 := fun _ => True) (motive_4 := fun _ => True) ?_ ?_ ?_ ?_ ?_ ?_ ?_ ?_ ?_ ?_ ?_ ?_ da
  · intro db x h1 h2; cases h1; cases h2; rfl
  · intro b db x h1 h2; cases h1; cases h2; simp [PyData.eqv]
  · intro i db x h1 h2; cases h1; cases h2; simp [PyData.eqv]
  · intro z db x h1 h2; cases h1; cases h2; simp [PyData.eqv]
  · intro ds ih db x h1 h2
    cases h1 with
    | lst a1 t1 =>
      cases h2 with
      | lst a2 t2 =>
        rw [PyData.eqv]
        have e := I.list_inj a1 a2
        subst e
        exact ih _ t1 t2
      | tup a2 t2 => exact (I.lt_ne a1 a2).elim
  · intro ds ih db x h1 h2
    cases h1 with
    | tup a1 t1 =>
      cases h2 with
      | tup a2 t2 =>
        rw [PyData.eqv]
        have e := I.tuple_inj a1 a2
        subst e
        exact ih _ t1 t2
      | lst a2 t2 => exact (I.lt_ne a2 a1).elim
  · intro kvs _ db x h1; cases h1
  · intro dbs xs h1 h2; cases h1; cases h2; rfl
  · intro d ds ih1 ih2 dbs xs h1 h2
    cases h1 with
    | cons a t =>
      cases h2 with
      | cons a' t' => rw [PyData.eqvAll, ih1 _ a a', ih2 _ t t']; rfl
  · trivial
  · intros; trivial
  · intros; trivial
/-- the objects behind data -/
inductive Vw (H : Hp) (s : Shared) : V → Value → PyData → Prop
  | none : Vw H s .non .none .none
  | bool (b : Bool) : Vw H s (.bl b) (.bool b) (.bool b)
  | int (i : Int) (t : Tok) : Vw H s (.int i) (.int i t) (.int i)
  | str (z : Str) (t : Tok) : Vw H s (.str z) (.str z t) (.str z)
  | list {a : Addr} {vs : List Value} {ds : List PyData} (h : s.heap.IsList a vs.toArray) : Vw H s (.ref a) (.ref a) (.list ds)
  | tuple {a : Addr} {vs : List Value} {ds : List PyData} (h : s.heap.IsTuple a vs.toArray) : Vw H s (.ref a) (.ref a) (.tuple ds)
theorem vw_of (I : Inv X pins σ H s) {x : V} {u : Value} {d : PyData} (h : Dp X.K H x d) (r : RelV x u) : Vw H s x u d := by
  cases h with
  | non => cases r; exact .none
  | bl b => cases r; exact .bool b
  | int i => obtain ⟨t, rfl⟩ := r; exact .int i t
  | str z => obtain ⟨t, rfl⟩ := r; exact .str z t
  | lst a t =>
    cases relA r
    obtain ⟨its, _, p, _⟩ := I.list a
    exact .list p.isList
  | tup a t =>
    cases relA r
    obtain ⟨its, _, p, _⟩ := I.tuple a
    exact .tuple p
theorem dpAll_length {K : PySem.W.Frag} : ∀ {xs : List V} {ds : List PyData}, DpAll K H xs ds → xs.length = ds.length
  | _, _, .nil => rfl
  | _, _, .cons _ t => by rw [List.length_cons, List.length_cons, dpAll_length t]
mutual
theorem eqAt_dp (I : Inv X pins σ H s) : ∀ (da db : PyData) (A : Around) {x y : V} {u v : Value}, Dp X.K H x da → Dp X.K H y db → RelV x u → RelV y v → A.units + min da.depth db.depth < cLine → EqAt A s u v (PyData.eqv da db)
  | .none, db, A, x, y, u, v, ha, hb, ru, rv, hu => by
    cases vw_of I ha ru
    cases vw_of I hb rv with
    | none => exact EqAt.same _
    | bool b => exact EqAt.none_bool b
    | int i t => exact EqAt.none_int i t
    | str z t => exact EqAt.none_str z t
    | list h => exact EqAt.none_list h (SeqAt.room_here hu)
    | tuple h => exact EqAt.none_tuple h (SeqAt.room_here hu)
  | .bool c, db, A, x, y, u, v, ha, hb, ru, rv, hu => by
    cases vw_of I ha ru
    cases vw_of I hb rv with
    | none => exact EqAt.bool_none c
    | bool b => exact EqAt.bool_bool c b
    | int i t => exact EqAt.bool_int c i t
    | str z t => exact EqAt.bool_str c z t
    | list h => exact EqAt.bool_list c h (SeqAt.room_here hu)
    | tuple h => exact EqAt.bool_tuple c h (SeqAt.room_here hu)
  | .int c, db, A, x, y, u, v, ha, hb, ru, rv, hu => by
    cases vw_of I ha ru with
    | int _ t0 =>
    cases vw_of I hb rv with
    | none => exact EqAt.int_none c t0
    | bool b => exact EqAt.int_bool c t0 b
    | int i t => exact EqAt.int_int c t0 i t
    | str z t => exact EqAt.int_str c t0 z t
    | list h => exact EqAt.int_list c t0 h (SeqAt.room_here hu)
    | tuple h => exact EqAt.int_tuple c t0 h (SeqAt.room_here hu)
  | .str c, db, A, x, y, u, v, ha, hb, ru, rv, hu => by
    cases vw_of I ha ru with
    | str _ t0 =>
    cases vw_of I hb rv with
    | none => exact EqAt.str_none c t0
    | bool b => exact EqAt.str_bool c t0 b
    | int i t => exact EqAt.str_int c t0 i t
    | str z t => exact EqAt.str_str c t0 z t
    | list h => exact EqAt.str_list c t0 h (SeqAt.room_here hu)
    | tuple h => exact EqAt.str_tuple c t0 h (SeqAt.room_here hu)
  | .list das, db, A, x, y, u, v, ha, hb, ru, rv, hu => by
    cases ha with
    | @lst b1 xs _ a1 t1 =>
    cases relA ru
    obtain ⟨its, r1, p1, _⟩ := I.list a1
    have hl := p1.isList
    cases hb with
    | non => cases rv; exact EqAt.list_none hl (SeqAt.room_here hu)
    | bl b => cases rv; exact EqAt.list_bool b hl (SeqAt.room_here hu)
    | int i => obtain ⟨t, rfl⟩ := rv; exact EqAt.list_int i t hl (SeqAt.room_here hu)
    | str z => obtain ⟨t, rfl⟩ := rv; exact EqAt.list_str z t hl (SeqAt.room_here hu)
    | tup a2 t2 =>
      cases relA rv
      obtain ⟨its2, r2, p2, _⟩ := I.tuple a2
      exact EqAt.list_tuple hl p2 (SeqAt.room_here hu)
    | @lst b2 ys dbs a2 t2 =>
      cases relA rv
      obtain ⟨its2, r2, p2, _⟩ := I.list a2
      have hl2 := p2.isList
      have n1 : its.toArray.size = das.length := by rw [List.size_toArray, ← r1.length, dpAll_length t1]
      have n2 : its2.toArray.size = dbs.length := by rw [List.size_toArray, ← r2.length, dpAll_length t2]
      show EqAt A s (.ref b1) (.ref b2) (PyData.eqvAll das dbs)
      by_cases hll : b1 = b2
      · subst hll
        have := eqv_same I (.list das) (.list dbs) (.lst a1 t1) (.lst a2 t2)
        rw [PyData.eqv] at this
        rw [this]
        exact EqAt.same _
      · by_cases hsz : its.toArray.size = its2.toArray.size
        · rw [← SeqAt.eqvAll_same_length (by omega : das.length = dbs.length), ← n1]
          refine EqAt.of_refs hll (RcAt.lists hl hl2 hsz (SeqAt.room_here hu) fun j j1 j2 => ?_)
          have := eqAts_dp I das dbs A.in1 t1 t2 r1 r2 (SeqAt.room_in hu) j (by simpa using j1) (by simpa using j2)
          simpa using this
        · rw [SeqAt.eqvAll_other_length (by omega : das.length ≠ dbs.length)]
          exact EqAt.of_refs hll (RcAt.lists_lengths hl hl2 (by simpa using hsz) (SeqAt.room_here hu))
  | .tuple das, db, A, x, y, u, v, ha, hb, ru, rv, hu => by
    cases ha with
    | @tup b1 xs _ a1 t1 =>
    cases relA ru
    obtain ⟨its, r1, hl, _⟩ := I.tuple a1
    cases hb with
    | non => cases rv; exact EqAt.tuple_none hl (SeqAt.room_here hu)
    | bl b => cases rv; exact EqAt.tuple_bool b hl (SeqAt.room_here hu)
    | int i => obtain ⟨t, rfl⟩ := rv; exact EqAt.tuple_int i t hl (SeqAt.room_here hu)
    | str z => obtain ⟨t, rfl⟩ := rv; exact EqAt.tuple_str z t hl (SeqAt.room_here hu)
    | lst a2 t2 =>
      cases relA rv
      obtain ⟨its2, r2, p2, _⟩ := I.list a2
      exact EqAt.tuple_list hl p2.isList (SeqAt.room_here hu)
    | @tup b2 ys dbs a2 t2 =>
      cases relA rv
      obtain ⟨its2, r2, hl2, _⟩ := I.tuple a2
      have n1 : its.toArray.size = das.length := by rw [List.size_toArray, ← r1.length, dpAll_length t1]
      have n2 : its2.toArray.size = dbs.length := by rw [List.size_toArray, ← r2.length, dpAll_length t2]
      show EqAt A s (.ref b1) (.ref b2) (PyData.eqvAll das dbs)
      by_cases hll : b1 = b2
      · subst hll
        have := eqv_same I (.tuple das) (.tuple dbs) (.tup a1 t1) (.tup a2 t2)
        rw [PyData.eqv] at this
        rw [this]
        exact EqAt.same _
      · rw [← SeqAt.eqvAll_eq das dbs, ← n1, ← n2]
        refine EqAt.of_refs hll (RcAt.tuples hl hl2 (SeqAt.room_here hu) fun j j1 j2 => ?_)
        have := eqAts_dp I das dbs A.in1 t1 t2 r1 r2 (SeqAt.room_in hu) j (by simpa using j1) (by simpa using j2)
        simpa using this
  | .dict _, db, A, x, y, u, v, ha, hb, ru, rv, hu => nomatch ha
theorem eqAts_dp (I : Inv X pins σ H s) : ∀ (das dbs : List PyData) (A : Around) {xs ys : List V} {us vs : List Value}, DpAll X.K H xs das → DpAll X.K H ys dbs → Vals xs us → Vals ys vs → A.units + min (PyData.depthAll das) (PyData.depthAll dbs) < cLine →
    ∀ j (h1 : j < us.length) (h2 : j < vs.length), EqAt A s us[j] vs[j] (SeqAt.pairEq das dbs j)
  | [], _, A, _, _, us, vs, ha, hb, ru, rv, hu, j, h1, h2 => by cases ha; cases ru; exact absurd h1 (Nat.not_lt_zero _)
  | _ :: _, [], A, _, _, us, vs, ha, hb, ru, rv, hu, j, h1, h2 => by cases hb; cases rv; exact absurd h2 (Nat.not_lt_zero _)
  | da :: das, db :: dbs, A, _, _, us, vs, ha, hb, ru, rv, hu, j, h1, h2 => by
    cases ha with
    | cons a t =>
      cases hb with
      | cons a' t' =>
        cases ru with
        | cons r rr =>
          cases rv with
          | cons r' rr' =>
            cases j with
            | zero => exact eqAt_dp I da db A a a' r r' (SeqAt.room_head hu)
            | succ j => exact eqAts_dp I das dbs A t t' rr rr' (SeqAt.room_tail hu) j (Nat.lt_of_succ_lt_succ h1) (Nat.lt_of_succ_lt_succ h2)
end
theorem rc_dp (I : Inv X pins σ H s) {da db : PyData} {A : Around} {x y : V} {u v : Value} (ha : Dp X.K H x da) (hb : Dp X.K H y db) (ru : RelV x u) (rv : RelV y v) (hu : A.units + min da.depth db.depth < cLine) : RcAt A s u v (PyData.eqv da db) := by
  cases ha with
  | non =>
    cases ru
    cases hb with
    | non => cases rv; exact RcAt.none_none
    | bl b => cases rv; exact RcAt.none_bool b
    | int i => obtain ⟨t, rfl⟩ := rv; exact RcAt.none_int i t
    | str z => obtain ⟨t, rfl⟩ := rv; exact RcAt.none_str z t
    | lst a2 t2 =>
      cases relA rv
      obtain ⟨its2, r2, p2, _⟩ := I.list a2
      exact RcAt.none_list p2.isList (SeqAt.room_here hu)
    | tup a2 t2 =>
      cases relA rv
      obtain ⟨its2, r2, p2, _⟩ := I.tuple a2
      exact RcAt.none_tuple p2 (SeqAt.room_here hu)
  | bl c =>
    cases ru
    cases hb with
    | non => cases rv; exact RcAt.bool_none c
    | bl b => cases rv; exact RcAt.bool_bool c b
    | int i => obtain ⟨t, rfl⟩ := rv; exact RcAt.bool_int c i t
    | str z => obtain ⟨t, rfl⟩ := rv; exact RcAt.bool_str c z t
    | lst a2 t2 =>
      cases relA rv
      obtain ⟨its2, r2, p2, _⟩ := I.list a2
      exact RcAt.bool_list c p2.isList (SeqAt.room_here hu)
    | tup a2 t2 =>
      cases relA rv
      obtain ⟨its2, r2, p2, _⟩ := I.tuple a2
      exact RcAt.bool_tuple c p2 (SeqAt.room_here hu)
  | int c =>
    obtain ⟨t0, rfl⟩ := ru
    cases hb with
    | non => cases rv; exact RcAt.int_none c t0
    | bl b => cases rv; exact RcAt.int_bool c t0 b
    | int i => obtain ⟨t, rfl⟩ := rv; exact RcAt.int_int c t0 i t
    | str z => obtain ⟨t, rfl⟩ := rv; exact RcAt.int_str c t0 z t
    | lst a2 t2 =>
      cases relA rv
      obtain ⟨its2, r2, p2, _⟩ := I.list a2
      exact RcAt.int_list c t0 p2.isList (SeqAt.room_here hu)
    | tup a2 t2 =>
      cases relA rv
      obtain ⟨its2, r2, p2, _⟩ := I.tuple a2
      exact RcAt.int_tuple c t0 p2 (SeqAt.room_here hu)
  | str c =>
    obtain ⟨t0, rfl⟩ := ru
    cases hb with
    | non => cases rv; exact RcAt.str_none c t0
    | bl b => cases rv; exact RcAt.str_bool c t0 b
    | int i => obtain ⟨t, rfl⟩ := rv; exact RcAt.str_int c t0 i t
    | str z => obtain ⟨t, rfl⟩ := rv; exact RcAt.str_str c t0 z t
    | lst a2 t2 =>
      cases relA rv
      obtain ⟨its2, r2, p2, _⟩ := I.list a2
      exact RcAt.str_list c t0 p2.isList (SeqAt.room_here hu)
    | tup a2 t2 =>
      cases relA rv
      obtain ⟨its2, r2, p2, _⟩ := I.tuple a2
      exact RcAt.str_tuple c t0 p2 (SeqAt.room_here hu)
  | @lst b1 xs das a1 t1 =>
    cases relA ru
    obtain ⟨its, r1, p1, _⟩ := I.list a1
    have hl := p1.isList
    cases hb with
    | non => cases rv; exact RcAt.list_none hl (SeqAt.room_here hu)
    | bl b => cases rv; exact RcAt.list_bool b hl (SeqAt.room_here hu)
    | int i => obtain ⟨t, rfl⟩ := rv; exact RcAt.list_int i t hl (SeqAt.room_here hu)
    | str z => obtain ⟨t, rfl⟩ := rv; exact RcAt.list_str z t hl (SeqAt.room_here hu)
    | tup a2 t2 =>
      cases relA rv
      obtain ⟨its2, r2, p2, _⟩ := I.tuple a2
      exact RcAt.list_tuple hl p2 (SeqAt.room_here hu)
    | @lst b2 ys dbs a2 t2 =>
      cases relA rv
      obtain ⟨its2, r2, p2, _⟩ := I.list a2
      have hl2 := p2.isList
      have n1 : its.toArray.size = das.length := by rw [List.size_toArray, ← r1.length, dpAll_length t1]
      have n2 : its2.toArray.size = dbs.length := by rw [List.size_toArray, ← r2.length, dpAll_length t2]
      show RcAt A s (.ref b1) (.ref b2) (PyData.eqvAll das dbs)
      by_cases hsz : its.toArray.size = its2.toArray.size
      · rw [← SeqAt.eqvAll_same_length (by omega : das.length = dbs.length), ← n1]
        refine RcAt.lists hl hl2 hsz (SeqAt.room_here hu) fun j j1 j2 => ?_
        have := eqAts_dp I das dbs A.in1 t1 t2 r1 r2 (SeqAt.room_in hu) j (by simpa using j1) (by simpa using j2)
        simpa using this
      · rw [SeqAt.eqvAll_other_length (by omega : das.length ≠ dbs.length)]
        exact RcAt.lists_lengths hl hl2 (by simpa using hsz) (SeqAt.room_here hu)
  | @tup b1 xs das a1 t1 =>
    cases relA ru
    obtain ⟨its, r1, hl, _⟩ := I.tuple a1
    cases hb with
    | non => cases rv; exact RcAt.tuple_none hl (SeqAt.room_here hu)
    | bl b => cases rv; exact RcAt.tuple_bool b hl (SeqAt.room_here hu)
    | int i => obtain ⟨t, rfl⟩ := rv; exact RcAt.tuple_int i t hl (SeqAt.room_here hu)
    | str z => obtain ⟨t, rfl⟩ := rv; exact RcAt.tuple_str z t hl (SeqAt.room_here hu)
    | lst a2 t2 =>
      cases relA rv
      obtain ⟨its2, r2, p2, _⟩ := I.list a2
      exact RcAt.tuple_list hl p2.isList (SeqAt.room_here hu)
    | @tup b2 ys dbs a2 t2 =>
      cases relA rv
      obtain ⟨its2, r2, hl2, _⟩ := I.tuple a2
      have n1 : its.toArray.size = das.length := by rw [List.size_toArray, ← r1.length, dpAll_length t1]
      have n2 : its2.toArray.size = dbs.length := by rw [List.size_toArray, ← r2.length, dpAll_length t2]
      show RcAt A s (.ref b1) (.ref b2) (PyData.eqvAll das dbs)
      rw [← SeqAt.eqvAll_eq das dbs, ← n1, ← n2]
      refine RcAt.tuples hl hl2 (SeqAt.room_here hu) fun j j1 j2 => ?_
      have := eqAts_dp I das dbs A.in1 t1 t2 r1 r2 (SeqAt.room_in hu) j (by simpa using j1) (by simpa using j2)
      simpa using this
theorem rcNe_dp (I : Inv X pins σ H s) {da db : PyData} {A : Around} {x y : V} {u v : Value} (ha : Dp X.K H x da) (hb : Dp X.K H y db) (ru : RelV x u) (rv : RelV y v) (hu : A.units + min da.depth db.depth < cLine) : RcNeAt A s u v (!PyData.eqv da db) := by
  cases ha with
  | non =>
    cases ru
    cases hb with
    | non => cases rv; exact RcNeAt.none_none
    | bl b => cases rv; exact RcNeAt.none_bool b
    | int i => obtain ⟨t, rfl⟩ := rv; exact RcNeAt.none_int i t
    | str z => obtain ⟨t, rfl⟩ := rv; exact RcNeAt.none_str z t
    | lst a2 t2 =>
      cases relA rv
      obtain ⟨its2, r2, p2, _⟩ := I.list a2
      exact RcNeAt.none_list p2.isList (SeqAt.room_here hu)
    | tup a2 t2 =>
      cases relA rv
      obtain ⟨its2, r2, p2, _⟩ := I.tuple a2
      exact RcNeAt.none_tuple p2 (SeqAt.room_here hu)
  | bl c =>
    cases ru
    cases hb with
    | non => cases rv; exact RcNeAt.bool_none c
    | bl b => cases rv; exact RcNeAt.bool_bool c b
    | int i => obtain ⟨t, rfl⟩ := rv; exact RcNeAt.bool_int c i t
    | str z => obtain ⟨t, rfl⟩ := rv; exact RcNeAt.bool_str c z t
    | lst a2 t2 =>
      cases relA rv
      obtain ⟨its2, r2, p2, _⟩ := I.list a2
      exact RcNeAt.bool_list c p2.isList (SeqAt.room_here hu)
    | tup a2 t2 =>
      cases relA rv
      obtain ⟨its2, r2, p2, _⟩ := I.tuple a2
      exact RcNeAt.bool_tuple c p2 (SeqAt.room_here hu)
  | int c =>
    obtain ⟨t0, rfl⟩ := ru
    cases hb with
    | non => cases rv; exact RcNeAt.int_none c t0
    | bl b => cases rv; exact RcNeAt.int_bool c t0 b
    | int i => obtain ⟨t, rfl⟩ := rv; exact RcNeAt.int_int c t0 i t
    | str z => obtain ⟨t, rfl⟩ := rv; exact RcNeAt.int_str c t0 z t
    | lst a2 t2 =>
      cases relA rv
      obtain ⟨its2, r2, p2, _⟩ := I.list a2
      exact RcNeAt.int_list c t0 p2.isList (SeqAt.room_here hu)
    | tup a2 t2 =>
      cases relA rv
      obtain ⟨its2, r2, p2, _⟩ := I.tuple a2
      exact RcNeAt.int_tuple c t0 p2 (SeqAt.room_here hu)
  | str c =>
    obtain ⟨t0, rfl⟩ := ru
    cases hb with
    | non => cases rv; exact RcNeAt.str_none c t0
    | bl b => cases rv; exact RcNeAt.str_bool c t0 b
    | int i => obtain ⟨t, rfl⟩ := rv; exact RcNeAt.str_int c t0 i t
    | str z => obtain ⟨t, rfl⟩ := rv; exact RcNeAt.str_str c t0 z t
    | lst a2 t2 =>
      cases relA rv
      obtain ⟨its2, r2, p2, _⟩ := I.list a2
      exact RcNeAt.str_list c t0 p2.isList (SeqAt.room_here hu)
    | tup a2 t2 =>
      cases relA rv
      obtain ⟨its2, r2, p2, _⟩ := I.tuple a2
      exact RcNeAt.str_tuple c t0 p2 (SeqAt.room_here hu)
  | @lst b1 xs das a1 t1 =>
    cases relA ru
    obtain ⟨its, r1, p1, _⟩ := I.list a1
    have hl := p1.isList
    cases hb with
    | non => cases rv; exact RcNeAt.list_none hl (SeqAt.room_here hu)
    | bl b => cases rv; exact RcNeAt.list_bool b hl (SeqAt.room_here hu)
    | int i => obtain ⟨t, rfl⟩ := rv; exact RcNeAt.list_int i t hl (SeqAt.room_here hu)
    | str z => obtain ⟨t, rfl⟩ := rv; exact RcNeAt.list_str z t hl (SeqAt.room_here hu)
    | tup a2 t2 =>
      cases relA rv
      obtain ⟨its2, r2, p2, _⟩ := I.tuple a2
      exact RcNeAt.list_tuple hl p2 (SeqAt.room_here hu)
    | @lst b2 ys dbs a2 t2 =>
      cases relA rv
      obtain ⟨its2, r2, p2, _⟩ := I.list a2
      have hl2 := p2.isList
      have n1 : its.toArray.size = das.length := by rw [List.size_toArray, ← r1.length, dpAll_length t1]
      have n2 : its2.toArray.size = dbs.length := by rw [List.size_toArray, ← r2.length, dpAll_length t2]
      show RcNeAt A s (.ref b1) (.ref b2) (!PyData.eqvAll das dbs)
      by_cases hsz : its.toArray.size = its2.toArray.size
      · rw [← SeqAt.eqvAll_same_length (by omega : das.length = dbs.length), ← n1]
        refine RcNeAt.lists hl hl2 hsz (SeqAt.room_here hu) fun j j1 j2 => ?_
        have := eqAts_dp I das dbs A.in1 t1 t2 r1 r2 (SeqAt.room_in hu) j (by simpa using j1) (by simpa using j2)
        simpa using this
      · rw [SeqAt.eqvAll_other_length (by omega : das.length ≠ dbs.length)]
        exact RcNeAt.lists_lengths hl hl2 (by simpa using hsz) (SeqAt.room_here hu)
  | @tup b1 xs das a1 t1 =>
    cases relA ru
    obtain ⟨its, r1, hl, _⟩ := I.tuple a1
    cases hb with
    | non => cases rv; exact RcNeAt.tuple_none hl (SeqAt.room_here hu)
    | bl b => cases rv; exact RcNeAt.tuple_bool b hl (SeqAt.room_here hu)
    | int i => obtain ⟨t, rfl⟩ := rv; exact RcNeAt.tuple_int i t hl (SeqAt.room_here hu)
    | str z => obtain ⟨t, rfl⟩ := rv; exact RcNeAt.tuple_str z t hl (SeqAt.room_here hu)
    | lst a2 t2 =>
      cases relA rv
      obtain ⟨its2, r2, p2, _⟩ := I.list a2
      exact RcNeAt.tuple_list hl p2.isList (SeqAt.room_here hu)
    | @tup b2 ys dbs a2 t2 =>
      cases relA rv
      obtain ⟨its2, r2, hl2, _⟩ := I.tuple a2
      have n1 : its.toArray.size = das.length := by rw [List.size_toArray, ← r1.length, dpAll_length t1]
      have n2 : its2.toArray.size = dbs.length := by rw [List.size_toArray, ← r2.length, dpAll_length t2]
      show RcNeAt A s (.ref b1) (.ref b2) (!PyData.eqvAll das dbs)
      rw [← SeqAt.eqvAll_eq das dbs, ← n1, ← n2]
      refine RcNeAt.tuples hl hl2 (SeqAt.room_here hu) fun j j1 j2 => ?_
      have := eqAts_dp I das dbs A.in1 t1 t2 r1 r2 (SeqAt.room_in hu) j (by simpa using j1) (by simpa using j2)
      simpa using this
/-- data == data -/
def rEqX (K : PySem.W.Frag) (neg : Bool) : R2 := fun x y H Q => ∃ d e, Dp K H x d ∧ Dp K H y e ∧ min d.depth e.depth ≤ 64 ∧ Q (.bl (if neg then !PyData.eqv d e else PyData.eqv d e)) H
end
section
variable {X : Cx}
theorem op_eqX (hu : X.A.units + 64 < cLine) : OpR X (compareOp .Eq) (rEqX X.K false) := by
  intro pins s σ H x y v u Q I rx ry ⟨d, e, h1, h2, h3, q⟩
  exact rc_dp I h1 h2 rx ry (by omega) X.prog X.w X.xe _ ⟨.bl _, H, I, rfl, q⟩
theorem op_neX (hu : X.A.units + 64 < cLine) : OpR X (compareOp .NotEq) (rEqX X.K true) := by
  intro pins s σ H x y v u Q I rx ry ⟨d, e, h1, h2, h3, q⟩
  exact rcNe_dp I h1 h2 rx ry (by omega) X.prog X.w X.xe _ ⟨.bl _, H, I, rfl, q⟩
/-! ### x in a list or tuple of data -/
theorem zipDp {K : PySem.W.Frag} {H : Hp} : ∀ {xs : List V} {us : List Value} {ds : List PyData}, Vals xs us → DpAll K H xs ds → (∀ p ∈ us.zip ds, ∃ y, RelV y p.1 ∧ Dp K H y p.2) ∧ (∀ w ∈ us, ∃ d, (w, d) ∈ us.zip ds) ∧ (∀ d ∈ ds, ∃ w, (w, d) ∈ us.zip ds)
  | _, _, _, .nil, .nil => ⟨fun _ h => (nomatch h), fun _ h => (nomatch h), fun _ h => (nomatch h)⟩
  | _, _, _, .cons r t, .cons h u => by
    obtain ⟨h1, h2, h3⟩ := zipDp t u
    refine ⟨fun p hp => ?_, fun w hw => ?_, fun d hd => ?_⟩
    · rw [List.zip_cons_cons] at hp
      rcases List.mem_cons.mp hp with rfl | hp
      · exact ⟨_, r, h⟩
      · exact h1 p hp
    · rw [List.zip_cons_cons]
      rcases List.mem_cons.mp hw with rfl | hw
      · exact ⟨_, List.mem_cons_self⟩
      · obtain ⟨d, hd⟩ := h2 w hw; exact ⟨d, List.mem_cons_of_mem _ hd⟩
    · rw [List.zip_cons_cons]
      rcases List.mem_cons.mp hd with rfl | hd
      · exact ⟨_, List.mem_cons_self⟩
      · obtain ⟨w, hw⟩ := h3 d hd; exact ⟨w, List.mem_cons_of_mem _ hw⟩
open Classical in
theorem any_dp {pins : List (Addr × Obj)} {σ : St} {H : Hp} {s : Shared} (I : Inv X pins σ H s) {x : V} {v : Value} {de : PyData} {xs : List V} {us : List Value} {ds : List PyData} (hu : X.A.units + 64 < cLine) (hx : Dp X.K H x de) (rx : RelV x v) (r : Vals xs us) (t : DpAll X.K H xs ds) (hd : ∀ d ∈ ds, min d.depth de.depth ≤ 63) :
    ∃ e : Value → Bool, (∀ w ∈ us, EqAt X.A.in1 s w v (e w)) ∧ us.any e = ds.any fun d => PyData.eqv d de := by
  obtain ⟨h1, h2, h3⟩ := zipDp r t
  have one : ∀ w d, (w, d) ∈ us.zip ds → EqAt X.A.in1 s w v (PyData.eqv d de) := fun w d h => by
    obtain ⟨y, ry, hy⟩ := h1 _ h
    have hm := hd d (List.of_mem_zip h).2
    have hr : X.A.in1.units = X.A.units + 1 := rfl
    exact eqAt_dp I d de X.A.in1 hy hx ry rx (by omega)
  refine ⟨fun w => decide (∃ d, (w, d) ∈ us.zip ds ∧ PyData.eqv d de = true), fun w hw => ?_, ?_⟩
  · by_cases c : ∃ d, (w, d) ∈ us.zip ds ∧ PyData.eqv d de = true
    · obtain ⟨d, hd1, hd2⟩ := c
      have := one w d hd1
      rw [hd2] at this
      show EqAt X.A.in1 s w v (decide (∃ d, (w, d) ∈ us.zip ds ∧ PyData.eqv d de = true))
      rw [decide_eq_true (⟨d, hd1, hd2⟩ : ∃ d, (w, d) ∈ us.zip ds ∧ PyData.eqv d de = true)]
      exact this
    · obtain ⟨d, hd1⟩ := h2 w hw
      have hf : PyData.eqv d de = false := by
        cases e : PyData.eqv d de with
        | false => rfl
        | true => exact absurd ⟨d, hd1, e⟩ c
      have := one w d hd1
      rw [hf] at this
      show EqAt X.A.in1 s w v (decide (∃ d, (w, d) ∈ us.zip ds ∧ PyData.eqv d de = true))
      rw [decide_eq_false c]
      exact this
  · rw [Bool.eq_iff_iff, List.any_eq_true, List.any_eq_true]
    constructor
    · rintro ⟨w, _, hw⟩
      obtain ⟨d, hd1, hd2⟩ := of_decide_eq_true hw
      exact ⟨d, (List.of_mem_zip hd1).2, hd2⟩
    · rintro ⟨d, hd1, hd2⟩
      obtain ⟨w, hw⟩ := h3 d hd1
      exact ⟨w, (List.of_mem_zip hw).1, decide_eq_true ⟨d, hw, hd2⟩⟩
def rInX (K : PySem.W.Frag) (neg : Bool) : R2 := fun x y H Q => ∃ p xs ds de, y = .ref p ∧ (SqL K H p xs ∨ SqT K H p xs) ∧ Dp K H x de ∧ DpAll K H xs ds ∧ (∀ d ∈ ds, min d.depth de.depth ≤ 63) ∧ Q (.bl (if neg then !(ds.any fun d => PyData.eqv d de) else ds.any fun d => PyData.eqv d de)) H
theorem op_inX (hu : X.A.units + 64 < cLine) : OpR X (compareOp .In) (rInX X.K false) := by
  intro pins s σ H x y v u Q I rx ry h
  obtain ⟨p, xs, ds, de, rfl, hq, hx, t, hd, q⟩ := h
  cases ry
  rcases hq with hq | hq
  · obtain ⟨its, r, pl, hz⟩ := I.list hq
    obtain ⟨e, he, ha⟩ := any_dp I hu hx rx r t hd
    refine SeqAt.in_listAt e pl.isList (fun w hw => he w (by simpa using hw)) ⟨.bl _, H, I, rfl, ?_⟩
    rw [show its.toArray.any e = its.any e by simp, ha]
    exact q
  · obtain ⟨its, r, pl, hz⟩ := I.tuple hq
    obtain ⟨e, he, ha⟩ := any_dp I hu hx rx r t hd
    refine SeqAt.in_tupleAt e pl (fun w hw => he w (by simpa using hw)) ⟨.bl _, H, I, rfl, ?_⟩
    rw [show its.toArray.any e = its.any e by simp, ha]
    exact q
theorem op_notInX (hu : X.A.units + 64 < cLine) : OpR X (compareOp .NotIn) (rInX X.K true) := by
  intro pins s σ H x y v u Q I rx ry h
  obtain ⟨p, xs, ds, de, rfl, hq, hx, t, hd, q⟩ := h
  cases ry
  rcases hq with hq | hq
  · obtain ⟨its, r, pl, hz⟩ := I.list hq
    obtain ⟨e, he, ha⟩ := any_dp I hu hx rx r t hd
    refine SeqAt.notIn_listAt e pl.isList (fun w hw => he w (by simpa using hw)) ⟨.bl _, H, I, rfl, ?_⟩
    rw [show its.toArray.any e = its.any e by simp, ha]
    exact q
  · obtain ⟨its, r, pl, hz⟩ := I.tuple hq
    obtain ⟨e, he, ha⟩ := any_dp I hu hx rx r t hd
    refine SeqAt.notIn_tupleAt e pl (fun w hw => he w (by simpa using hw)) ⟨.bl _, H, I, rfl, ?_⟩
    rw [show its.toArray.any e = its.any e by simp, ha]
    exact q
end
end L2
end
section
set_option Elab.async false
set_option linter.all false
set_option maxRecDepth 100000
set_option maxHeartbeats 2000000
namespace L2
open PySem PySem.Spec PyProof.Rows
section
variable {X : Cx}
/-- d[y], there -/
def rIxDt : R2 := fun x y H Q => ∃ a v, x = .ref a ∧ DGet H a y (some v) ∧ Q v H
theorem ix_dict (hu : X.A.units + 1 < cLine) : IxR X rIxDt := by
  intro value slice pins s σ H x y v u Q I rx ry h hs
  obtain ⟨a, z, rfl, g, q⟩ := h
  obtain rfl : v = Value.ref a := rx
  have hT := dict_typeIs I g
  have h2 : wpAny (model X.prog X.w) X.A (getItem (.ref a) u) (EP X pins σ Q) X.xe s := d_getItem hu I g ry fun w' s3 I3 rw' => ⟨z, H, I3, rw', q⟩
  unfold subscriptTail
  refine wpAny_bind ?_
  rw [getitemInPython_of_ne hT.not_modules]
  refine wpAny_bind (wpAny_specialOf hT PySem.F.slot_dict_getitem.lookup ?_)
  have fin : wpAny (model X.prog X.w) X.A (subscripted slice false (.ref a) u) (fun r s₃ => wpAny (model X.prog X.w) X.A (letTemporaryGo value (.ref a) r >>= fun _ => pure r) (EP X pins σ Q) X.xe s₃) X.xe s := by
    rw [hs]
    exact wpAny_operating (wpAny_mono h2 (fun r s₃ h₃ => wpAny_bind (wpAny_letTemporaryGo (wpAny_pure h₃))) fun _ _ x => x)
  first
    | exact wpAny_pure (wpAny_bind fin)
    | exact wpAny_bind (wpAny_pure (wpAny_bind fin))
    | exact wpAny_bind fin
theorem star_dct {pins : List (Addr × Obj)} {σ : L2.St} {H : Hp} {s : Shared} {a : Addr} {kvs : List (Key × V)} {E : Value → Shared → Prop} {Q : List Value → Shared → Prop} (hc : X.calm = true) (I : Inv X pins σ H s) (h : Rd H a (.dK kvs)) (hQ : ∀ us s', Inv X pins σ H s' → Vals (kvs.map fun kv => kV kv.1) us → Q us s') : PySem.W.StarOf (model X.prog X.w) X.A E (.ref a) Q s := by
  obtain ⟨z, lo, vs, rk, dd⟩ := dk_rd I.hok h
  obtain ⟨ep, hat⟩ := dd.dictAt
  have hl : kvs.length = vs.length := Paired.length rk
  have hT : s.TypeIs (.ref a) "dict" := dict_typeIs (X := X) I (.inl ⟨kvs, .inl 0, h, rfl, rfl⟩)
  unfold PySem.W.StarOf notIterableAtAll
  refine wpAny_bind (wpAny_specialOf hT PySem.F.slot_dict_iter.lookup (wpAny_pure ⟨rfl, ?_⟩))
  refine PySem.W.kdu_collect (A := X.A) (PySem.W.kdl_dict (knd := mixKind X.prog X.w) (kvs := vs) (ep := ep) lo) (I.ok.hd hc) hat (by rw [← hl]; exact z) fun h' tk acc hk hacc => ?_
  refine hQ _ _ (I.kept (t' := tk) hk) ?_
  have el : acc.toList.length = acc.size := by simp
  refine vals_of_at (by rw [List.length_map, el, hacc.1, hl]) fun j x w h1 h2 => ?_
  obtain ⟨k, y, hky, hi⟩ := hacc.2 j w (by rw [← Array.getElem?_toList]; exact h2)
  have e1 : (kvs.map (·.1))[j]? = some k := by
    rw [KV.keys rk, List.getElem?_map, hky] <;> rfl
  have e2 : (kvs.map fun kv => kV kv.1)[j]? = some (kV k) := by
    have e3 : (kvs.map fun kv => kV kv.1) = (kvs.map (·.1)).map kV := by rw [List.map_map] <;> rfl
    rw [e3, List.getElem?_map, e1] <;> rfl
  rw [e2] at h1
  cases h1
  exact keyIs_rel hi
def tStarD (K : PySem.W.Frag) (te : TE) (t : TA) : TA := fun σ H Q => te σ H fun x H1 => (∃ p xs, x = V.ref p ∧ (SqT K H1 p xs ∨ SqL K H1 p xs) ∧ t σ H1 fun ys H2 => Q (xs ++ ys) H2) ∨ ∃ p kvs, x = V.ref p ∧ Rd H1 p (.dK kvs) ∧ t σ H1 fun ys H2 => Q ((kvs.map fun kv => kV kv.1) ++ ys) H2
theorem pa_starD {e : Expr} {es : List Expr} {p : Pos} {te : TE} {t : TA} (hc : X.calm = true) (he : PE X e te) (hr : PA X es t) (hs : starEach (.Starred e p :: es) X.env = (true, eval e X.env) :: starEach es X.env := by rfl) : PA X (.Starred e p :: es) (tStarD X.K te t) := by
  refine ⟨fun pos pins s σ H Q I h => ?_⟩
  refine PySem.W.items_star (thn (he.run pins s σ H _ I h) fun v s1 ⟨y, H1, I1, ry, q⟩ => ?_) hs
  rcases q with ⟨a, xs, ey, hx, q⟩ | ⟨a, kvs, ey, hx, q⟩
  · subst ey
    obtain rfl : v = Value.ref a := ry
    refine StX.star_any I1 hx fun us s2 I2 rv => ?_
    exact thn (hr.run pos pins s2 σ H1 _ I2 q) fun ws s3 ⟨vs, H3, I3, r3, q3⟩ => ⟨xs ++ vs, H3, I3, rv.append r3, q3⟩
  · subst ey
    obtain rfl : v = Value.ref a := ry
    refine star_dct hc I1 hx fun us s2 I2 rv => ?_
    exact thn (hr.run pos pins s2 σ H1 _ I2 q) fun ws s3 ⟨vs, H3, I3, r3, q3⟩ => ⟨_ ++ vs, H3, I3, rv.append r3, q3⟩
def rInD (neg : Bool) : R2 := fun y x H Q => ∃ a o, x = .ref a ∧ DGet H a y o ∧ Q (.bl (if neg then !o.isSome else o.isSome)) H
theorem op_inD (hu : X.A.units + 1 < cLine) : OpR X (compareOp .In) (rInD false) := by
  intro pins s σ H x y v u Q I rx ry h
  obtain ⟨a, o, rfl, g, q⟩ := h
  obtain rfl : u = Value.ref a := ry
  exact d_in hu I g rx fun s3 I3 => ⟨.bl o.isSome, H, I3, rfl, q⟩
theorem op_notInD (hu : X.A.units + 1 < cLine) : OpR X (compareOp .NotIn) (rInD true) := by
  intro pins s σ H x y v u Q I rx ry h
  obtain ⟨a, o, rfl, g, q⟩ := h
  obtain rfl : u = Value.ref a := ry
  exact d_notIn hu I g rx fun s3 I3 => ⟨.bl (!o.isSome), H, I3, rfl, q⟩
end
end L2
namespace Mp
open PySem L2 PySem.Spec PyProof.Rows
open Evl (Ex ex_l ex_t fresh_back)
/-! ### dicts -/
theorem eqv_kD (a b : Key) : eqv (kD a) (kD b) = decide (a = b) := by
  cases a with
  | inl i => cases b with
    | inl j => show (i == j) = _; rw [Bool.eq_iff_iff]; simp
    | inr t => simp [kD, eqv]
  | inr s => cases b with
    | inl j => simp [kD, eqv]
    | inr t => show (s == t) = _; rw [Bool.eq_iff_iff]; simp
theorem isKey0_k {d : D} (h : isKey0 d = true) : ∃ k, d = kD k := by
  cases d <;> first | (cases h; done) | exact ⟨.inl _, rfl⟩ | exact ⟨.inr _, rfl⟩
theorem dr_k {L : Lk} {G : Hp} {x : V} {k : Key} (h : Dr L G x (kD k)) : x = kV k := by
  cases k with
  | inl i => exact dr_int h
  | inr s => exact dr_str h
theorem look_k {α : Type} (k : Key) : ∀ {ks : List Key} {ws : List V} {vs : List α} , ks.length = vs.length → ws.length = vs.length → (lookD (kD k) ((ks.map kD).zip vs) = none ∧ valV (ks.zip ws) k = none) ∨ ∃ (i : Nat) (w : V) (v : α), ws[i]? = some w ∧ vs[i]? = some v ∧ lookD (kD k) ((ks.map kD).zip vs) = some v ∧ valV (ks.zip ws) k = some w
  | [], ws, vs, h1, h2 => by
    cases vs with
    | cons v vs => cases h1
    | nil => exact .inl ⟨rfl, rfl⟩
  | j :: ks, [], vs, h1, h2 => by
    cases vs with
    | nil => cases h1
    | cons v vs => cases h2
  | j :: ks, w :: ws, [], h1, _ => by cases h1
  | j :: ks, w :: ws, v :: vs, h1, h2 => by
    rw [List.map_cons, List.zip_cons_cons, List.zip_cons_cons]
    have e : lookD (kD k) ((kD j, v) :: (ks.map kD).zip vs) = if decide (j = k) = true then some v else lookD (kD k) ((ks.map kD).zip vs) := by
      show (if eqv (kD j) (kD k) = true then some v else _) = _
      rw [eqv_kD]
    by_cases q : j = k
    · refine .inr ⟨0, w, v, rfl, rfl, ?_, valV_pos (p := (j, w)) q⟩
      rw [e, if_pos (decide_eq_true q)]
    · rw [e, if_neg (by rw [decide_eq_false q]; decide), valV_neg (p := (j, w)) q]
      rcases look_k k (ks := ks) (ws := ws) (vs := vs) (Nat.succ.inj h1) (Nat.succ.inj h2) with z | ⟨i, w', v', a, b, z⟩
      · exact .inl z
      · exact .inr ⟨i + 1, w', v', a, b, z⟩
section
variable {L : Lk} {X : Ext} {G H : Hp} {ι : Iot} {μ : Heap}
theorem HR.pairs (h : HR L G H ι μ) {w : V} {v : Val} (r : VR L X G ι w v) {kvs : List (D × Val)} (q : Mp.pairs μ v = some kvs) : ∃ (a : Addr) (ks : List Key) (ws : List V) (vs : List Val), w = .ref a ∧ kvs = (ks.map kD).zip vs ∧ Rd H a (.dK (ks.zip ws)) ∧ ks.length = vs.length ∧ VRs L X G ι ws vs := by
  have data : ∀ {x : D} {kvs0 : List (D × D)}, Dr L G w x → x = .dct kvs0 → kvs = kvs0.map (fun p => (p.1, Val.d p.2)) → ∃ (a : Addr) (ks : List Key) (ws : List V) (vs : List Val), w = .ref a ∧ kvs = (ks.map kD).zip vs ∧ Rd H a (.dK (ks.zip ws)) ∧ ks.length = vs.length ∧ VRs L X G ι ws vs := by
    intro x kvs0 hd e1 e2
    subst e1
    cases hd with
    | @dct a o ks vs ds rd hl t =>
      refine ⟨a, ks, vs, ds.map .d, rfl, ?_, .inr ⟨_, h.gh _ _ rd⟩, ?_, drs_v t⟩
      · rw [e2, List.zip_map_right]
        rfl
      · rw [List.length_map, ← drs_len t]; exact hl
  cases v with
  | d x =>
    cases x <;> first | (cases q; done) | skip
    cases q
    exact data r rfl rfl
  | ref i =>
    unfold Mp.pairs at q
    simp only at q
    split at q
    · rename_i kvs' e
      cases q
      obtain ⟨p, h1, rfl, ks, ws, vs, e2, hl, a2, ks', rfl, z⟩ := h.ref r e
      refine ⟨p.1, ks', ws, vs, rfl, e2, .inl z, ?_, a2.no⟩
      rw [List.length_map] at hl; exact hl
    · rename_i kvs' e
      cases q
      obtain ⟨p, h1, rfl, dd⟩ := h.ref r e
      exact data dd rfl rfl
    · cases q
  | clo _ _ => cases q
  | exn _ => cases q
end
end Mp
end
section
set_option Elab.async false
set_option linter.all false
set_option maxRecDepth 100000
set_option maxHeartbeats 2000000
namespace Mp
open PySem L2 PySem.Spec PyProof.Rows
open Evl (Ex ex_l ex_t fresh_back)
/-! ### comparisons -/
def opC : Cop → CmpOp
  | .eq => .Eq | .ne => .NotEq | .lt => .Lt | .le => .LtE | .gt => .Gt | .ge => .GtE | .is => .Is | .isn => .IsNot | .in_ => .In | .nin => .NotIn
def rSign (neg : Bool) : R2 := fun x y H Q => ∃ (c : Nat) (z : Str), x = .str ⟨#[c]⟩ ∧ y = .str z ∧ Q (.bl (if neg then !decide (c ∈ z.cps.toList) else decide (c ∈ z.cps.toList))) H
def rCmp (K : PySem.W.Frag) : Cop → R2
  | .eq => rEqX K false
  | .ne => rEqX K true
  | .lt => rI0 fun i j => .bl (decide (i < j))
  | .le => rI0 fun i j => .bl (decide (i ≤ j))
  | .gt => rI0 fun i j => .bl (decide (j < i))
  | .ge => rI0 fun i j => .bl (decide (j ≤ i))
  | .is => fun x y H Q => rIsN x y H Q ∨ rIsB x y H Q
  | .isn => fun x y H Q => rNotN x y H Q ∨ rNotB x y H Q
  | .in_ => fun x y H Q => rInX K false x y H Q ∨ (rSign false x y H Q ∨ rInD false x y H Q)
  | .nin => fun x y H Q => rInX K true x y H Q ∨ (rSign true x y H Q ∨ rInD true x y H Q)
/-- what asks for room -/
def Cop.room : Cop → Bool
  | .eq | .ne | .in_ | .nin => true
  | _ => false
theorem op_cmp {X : Cx} : ∀ op, (X.A.units + 64 < cLine) → OpR X (compareOp (opC op)) (rCmp X.K op)
  | .eq, hu => op_eqX hu
  | .ne, hu => op_neX hu
  | .lt, _ => op_lt
  | .le, _ => op_le
  | .gt, _ => op_gt
  | .ge, _ => op_ge
  | .is, _ => op_isN1.or op_isBl
  | .isn, _ => op_notN1.or op_notBl
  | .in_, hu => (op_inX hu).or (op_in_sign.or (op_inD (by omega)))
  | .nin, hu => (op_notInX hu).or (op_notIn_sign.or (op_notInD (by omega)))
section
variable {L : Lk} {X : Ext} {E : XK} {G H : Hp} {ι : Iot} {μ : Heap} {Q : VK} {x y : V} {u v : Val} {op : Cop}
theorem dr_flatV {G : Hp} {d : D} (h : Dr L G x d) (f : flat d = true) : flatV x = true := by
  cases h <;> first | rfl | (cases f; done)
theorem dr_eqV {G : Hp} {a b : D} (hx : Dr L G x a) (hy : Dr L G y b) (fa : flat a = true) (fb : flat b = true) : eqV x y = eqv a b := by
  cases a <;> first | (cases fa; done) | skip
  all_goals (cases b <;> first | (cases fb; done) | skip)
  all_goals first
    | (rw [dr_non hx, dr_non hy]; rfl)
    | (rw [dr_non hx, dr_bl hy]; rfl)
    | (rw [dr_non hx, dr_int hy]; rfl)
    | (rw [dr_non hx, dr_str hy]; rfl)
    | (rw [dr_bl hx, dr_non hy]; rfl)
    | (rw [dr_bl hx, dr_bl hy]; rfl)
    | (rw [dr_bl hx, dr_int hy]; rfl)
    | (rw [dr_bl hx, dr_str hy]; rfl)
    | (rw [dr_int hx, dr_non hy]; rfl)
    | (rw [dr_int hx, dr_bl hy]; rfl)
    | (rw [dr_int hx, dr_int hy]; rfl)
    | (rw [dr_int hx, dr_str hy]; rfl)
    | (rw [dr_str hx, dr_non hy]; rfl)
    | (rw [dr_str hx, dr_bl hy]; rfl)
    | (rw [dr_str hx, dr_int hy]; rfl)
    | (rw [dr_str hx, dr_str hy]; rfl)
theorem drs_inV {G : Hp} {a : D} (hx : Dr L G x a) (fa : flat a = true) : ∀ {ys : List V} {ds : List D}, Drs L G ys ds → ds.all flat = true → inV x ys = ds.any (fun d => eqv d a) ∧ ys.all flatV = true
  | _, _, .nil, _ => ⟨rfl, rfl⟩
  | _, _, .cons (v := v) (vs := vs) (d := d) (ds := ds) h t, f => by
    rw [List.all_cons, Bool.and_eq_true] at f
    obtain ⟨h1, h2⟩ := drs_inV hx fa t f.2
    refine ⟨?_, ?_⟩
    · show (eqV v x || inV x vs) = _
      rw [List.any_cons, h1, dr_eqV h hx f.1 fa]
    · rw [List.all_cons, h2, dr_flatV h f.1]; rfl
theorem dr_nn {G : Hp} {d : D} (h : Dr L G x d) (f : d ≠ .non) : decide (x = .non) = false := by
  refine decide_eq_false fun z => ?_
  subst z
  cases h
  exact f rfl
theorem shp_of {d : D} (h : shp d = true) : plain d = true ∧ (toPy d).depth ≤ 62 := by
  have h := Bool.and_eq_true_iff.mp h
  exact ⟨h.1, by rw [depth_py d h.1]; exact of_decide_eq_true h.2⟩
theorem any_py {a : D} : ∀ (ds : List D), plain a = true → plains ds = true → ((toPys ds).any fun d => PyData.eqv d (toPy a)) = ds.any fun d => eqv d a
  | [], _, _ => rfl
  | d :: ds, h1, h2 => by
    have h2 : (plain d && plains ds) = true := h2
    rw [Bool.and_eq_true] at h2
    show (PyData.eqv (toPy d) (toPy a) || (toPys ds).any fun d => PyData.eqv d (toPy a)) = _
    rw [any_py ds h1 h2.2, eqv_py d a h2.1 h1]; rfl
theorem inop_ok (h : HR L G H ι μ) (rx : VR L X G ι x v) (ry : VR L X G ι y u) {b : Bool} (q : inop v u μ = some b) (neg : Bool) (k : Q (.bl (if neg then !b else b)) H) : rInX L.K neg x y H Q ∨ (rSign neg x y H Q ∨ rInD neg x y H Q) := by
  unfold inop at q
  split at q
  · rename_i a s
    split at q
    · rename_i c hc
      cases q
      refine .inr (.inl ⟨c, s, ?_, dr_str ry, k⟩)
      rw [dr_str rx]
      obtain ⟨⟨l⟩⟩ := a
      have hc : l = [c] := hc
      subst hc
      rfl
    · cases q
  · rename_i a _
    split at q
    · rename_i us hu
      split at q
      · rename_i ds hd
        split at q
        · rename_i hf
          cases q
          rw [Bool.and_eq_true] at hf
          obtain ⟨p, xs, rfl, s, t⟩ := h.items ry hu
          have t' := h.snaps t hd
          obtain ⟨h1, d1⟩ := shp_of hf.1
          refine .inl ⟨p, xs, toPys ds, toPy a, rfl, s.or, dr_dp a (h.snap (n := 0) rx (snap_d _ _ _)) h1, drs_dp ds t' hf.2, fun d _ => by omega, ?_⟩
          rw [any_py ds h1 hf.2]; exact k
        · cases q
      · cases q
    · split at q
      · rename_i kvs hp
        split at q
        · rename_i hk
          cases q
          obtain ⟨p, ks, ws, vs, rfl, rfl, rd, hl, t⟩ := h.pairs ry hp
          obtain ⟨k', rfl⟩ := isKey0_k hk
          refine .inr (.inr ⟨p, valV (ks.zip ws) k', rfl, .inl ⟨_, k', rd, dr_k rx, rfl⟩, ?_⟩)
          have : (valV (ks.zip ws) k').isSome = (lookD (kD k') ((ks.map kD).zip vs)).isSome := by
            rcases look_k k' hl (vrs_len t) with ⟨e1, e2⟩ | ⟨_, _, _, _, _, e1, e2⟩ <;> rw [e1, e2] <;> rfl
          rw [this]; exact k
        · cases q
      · cases q
  · cases q
theorem eq_ok (h : HR L G H ι μ) (rx : VR L X G ι x v) (ry : VR L X G ι y u) {a b : D} (ha : snap μ 8 v = some a) (hb : snap μ 8 u = some b) (hs : (shp a && shp b) = true) (neg : Bool) (k : Q (.bl (if neg then !eqv a b else eqv a b)) H) : rEqX L.K neg x y H Q := by
  rw [Bool.and_eq_true] at hs
  obtain ⟨h1, d1⟩ := shp_of hs.1
  obtain ⟨h2, d2⟩ := shp_of hs.2
  refine ⟨toPy a, toPy b, dr_dp a (h.snap rx ha) h1, dr_dp b (h.snap ry hb) h2, by omega, ?_⟩
  rw [eqv_py a b h1 h2]; exact k
theorem cmpop_eq' : cmpop .eq v u μ = match snap μ 8 v, snap μ 8 u with
    | some a, some b => if shp a && shp b then some (eqv a b) else none
    | _, _ => none := rfl
theorem cmpop_ne' : cmpop .ne v u μ = match snap μ 8 v, snap μ 8 u with
    | some a, some b => if shp a && shp b then some (!eqv a b) else none
    | _, _ => none := rfl
theorem cmpop_lt' : cmpop .lt v u μ = match v, u with
      | .d (.int i), .d (.int j) => some (decide (i < j))
      | _, _ => none := rfl
theorem cmpop_le' : cmpop .le v u μ = match v, u with
      | .d (.int i), .d (.int j) => some (decide (i ≤ j))
      | _, _ => none := rfl
theorem cmpop_gt' : cmpop .gt v u μ = match v, u with
      | .d (.int i), .d (.int j) => some (decide (j < i))
      | _, _ => none := rfl
theorem cmpop_ge' : cmpop .ge v u μ = match v, u with
      | .d (.int i), .d (.int j) => some (decide (j ≤ i))
      | _, _ => none := rfl
theorem cmpop_is' : cmpop .is v u μ = match v, u with
      | .d (.bl a), .d (.bl b) => some (decide (a = b))
      | .d .non, .d .non => some true
      | .d _, .d .non => some false
      | .ref _, .d .non => some false
      | _, _ => none := rfl
theorem cmpop_isn' : cmpop .isn v u μ = match v, u with
      | .d (.bl a), .d (.bl b) => some (!decide (a = b))
      | .d .non, .d .non => some false
      | .d _, .d .non => some true
      | .ref _, .d .non => some true
      | _, _ => none := rfl
theorem cmpop_nin' : cmpop .nin v u μ = match inop v u μ with
      | some b => some (!b)
      | none => none := rfl
theorem cmp_ok (h : HR L G H ι μ) (rx : VR L X G ι x v) (ry : VR L X G ι y u) {b : Bool} (q : cmpop op v u μ = some b) (k : Q (.bl b) H) : rCmp L.K op x y H Q := by
  cases op with
  | eq =>
    rw [cmpop_eq'] at q
    split at q
    · rename_i a b ha hb
      split at q
      · rename_i hs
        cases q
        exact eq_ok h rx ry ha hb hs false k
      · cases q
    · cases q
  | ne =>
    rw [cmpop_ne'] at q
    split at q
    · rename_i a b ha hb
      split at q
      · rename_i hs
        cases q
        exact eq_ok h rx ry ha hb hs true k
      · cases q
    · cases q
  | lt =>
    rw [cmpop_lt'] at q
    split at q
    · rename_i i j
      cases q
      exact ⟨i, j, dr_int rx, dr_int ry, k⟩
    · cases q
  | le =>
    rw [cmpop_le'] at q
    split at q
    · rename_i i j
      cases q
      exact ⟨i, j, dr_int rx, dr_int ry, k⟩
    · cases q
  | gt =>
    rw [cmpop_gt'] at q
    split at q
    · rename_i i j
      cases q
      exact ⟨i, j, dr_int rx, dr_int ry, k⟩
    · cases q
  | ge =>
    rw [cmpop_ge'] at q
    split at q
    · rename_i i j
      cases q
      exact ⟨i, j, dr_int rx, dr_int ry, k⟩
    · cases q
  | is =>
    rw [cmpop_is'] at q
    split at q
    · rename_i a b
      cases q
      exact .inr ⟨a, b, dr_bl rx, dr_bl ry, k⟩
    · cases q
      exact .inl ⟨dr_non ry, by rw [dr_non rx]; exact k⟩
    · rename_i a hn
      cases q
      exact .inl ⟨dr_non ry, by rw [dr_nn rx fun z => hn (by rw [z])]; exact k⟩
    · cases q
      obtain ⟨p, _, rfl⟩ := rx
      exact .inl ⟨dr_non ry, k⟩
    · cases q
  | isn =>
    rw [cmpop_isn'] at q
    split at q
    · rename_i a b
      cases q
      exact .inr ⟨a, b, dr_bl rx, dr_bl ry, k⟩
    · cases q
      exact .inl ⟨dr_non ry, by rw [dr_non rx]; exact k⟩
    · rename_i a hn
      cases q
      exact .inl ⟨dr_non ry, by rw [dr_nn rx fun z => hn (by rw [z])]; exact k⟩
    · cases q
      obtain ⟨p, _, rfl⟩ := rx
      exact .inl ⟨dr_non ry, k⟩
    · cases q
  | in_ => exact inop_ok h rx ry (b := b) q false k
  | nin =>
    rw [cmpop_nin'] at q
    split at q
    · rename_i c hc
      cases q
      exact inop_ok h rx ry hc true k
    · cases q
end
end Mp
end
section
set_option Elab.async false
set_option linter.all false
set_option maxRecDepth 100000
set_option maxHeartbeats 2000000
namespace Mp
open PySem L2 PySem.Spec PyProof.Rows
open Evl (Ex ex_l ex_t fresh_back)
/-! ### pieces of syntax that are nothing special -/
/-- no star, no set, no slice -/
def okE : Expr → Bool
  | .Starred _ _ => false
  | .Set _ _ _ => false
  | .Slice _ _ _ _ => false
  | _ => true
/-- no comprehension -/
def ncE : Expr → Bool
  | .ListComp _ _ _ _ => false
  | .SetComp _ _ _ _ => false
  | .DictComp _ _ _ _ _ => false
  | _ => true
/-- super() and its like -/
def nsE : Expr → Bool
  | .Call (.Name _ _) [] [] _ => false
  | _ => true
theorem star_ok {e : Expr} (h : okE e = true) (es : List Expr) (env : Env) : starEach (e :: es) env = (false, eval e env) :: starEach es env := by
  cases e <;> first | rfl | (cases h; done)
theorem fold_ok {e : Expr} (h : okE e = true) (env : Env) (x : Value) : foldedSetIterable e env x = pure x := by
  cases e <;> first | rfl | (cases h; done)
theorem mark_ok {e : Expr} (h : okE e = true) (op : CmpOp) : behindInMarks op e = false := by
  cases e <;> first | rfl | (cases h; done)
theorem sub_ok {e : Expr} (h : okE e = true) (o i : Value) : subscripted e false o i = operate [o, i] (getItem o i) := by
  cases e <;> first | rfl | (cases h; done)
theorem swaps_ok {e : Expr} (h : ncE e = true) (t : Option Expr) (l : Nat) (env : Env) : swapsWith e t l env = pure false := by
  cases e <;> first | rfl | (cases h; done)
theorem base_ok {e : Expr} (h : nsE e = true) (a : Str) (env : Env) : attributeBase e a env (eval e env) = eval e env := by
  unfold attributeBase
  split
  · cases h
  · rfl
theorem plain_args : ∀ {es : List Expr} (h : es.all okE = true) (pos : Pos) (env : Env), (backTo pos (starEach es env)).any (·.1) = false
  | [], _, _, _ => rfl
  | e :: es, h, pos, env => by
    rw [List.all_cons, Bool.and_eq_true] at h
    rw [star_ok h.1]
    show (false || (backTo pos (starEach es env)).any (·.1)) = false
    rw [Bool.false_or]
    exact plain_args h.2 pos env
theorem plain_args2 : ∀ {es : List Expr} (h : es.all okE = true) (pos : Pos) (env : Env), (backTo pos (starEach es env)).all (fun x => !x.1) = true
  | [], _, _, _ => rfl
  | e :: es, h, pos, env => by
    rw [List.all_cons, Bool.and_eq_true] at h
    rw [star_ok h.1]
    show (true && (backTo pos (starEach es env)).all (fun x => !x.1)) = true
    rw [Bool.true_and]
    exact plain_args2 h.2 pos env
/-! ### freezing -/
section
variable {L : Lk} {X : Ext} {G H : Hp} {ι : Iot} {μ : Heap} {w : V} {v : Val}
/-- H stands still, the small heap freezes -/
structure Fz (L : Lk) (G H : Hp) (ι : Iot) (μ : Heap) (G' : Hp) (μ' : Heap) : Prop where
  hr : HR L G' H ι μ'
  st : Stp ι.length G H ι μ G' H ι μ'
theorem Fz.trans {G1 G2 : Hp} {μ1 μ2 : Heap} (a : Fz L G H ι μ G1 μ1) (b : Fz L G1 H ι μ1 G2 μ2) : Fz L G H ι μ G2 μ2 := ⟨b.hr, a.st.go b.st⟩
theorem freezes_ok {f : Val → Heap → Option (D × Heap)} (hf : ∀ {G μ w v d μ'}, HR L G H ι μ → VR L X G ι w v → f v μ = some (d, μ') → ∃ G', Fz L G H ι μ G' μ' ∧ Dr L G' w d) :
    ∀ {vs : List Val} {ws : List V} {G : Hp} {μ : Heap} {ds : List D} {μ' : Heap}, HR L G H ι μ → VRs L X G ι ws vs → freeze.freezes f vs μ = some (ds, μ') → ∃ G', Fz L G H ι μ G' μ' ∧ Drs L G' ws ds
  | [], ws, G, μ, ds, μ', h, r, q => by
    cases r
    cases q
    exact ⟨G, ⟨h, .refl (Nat.le_refl _)⟩, .nil⟩
  | v :: vs, ws, G, μ, ds, μ', h, r, q => by
    cases r with
    | cons a t =>
      unfold freeze.freezes at q
      split at q
      · rename_i d μ1 h1
        split at q
        · rename_i ds' μ2 h2
          cases q
          obtain ⟨G1, z1, d1⟩ := hf h a h1
          obtain ⟨G2, z2, d2⟩ := freezes_ok hf z1.hr (t.mono z1.st.g z1.st.pre') h2
          exact ⟨G2, z1.trans z2, .cons (dr_ex z2.st.g d1) d2⟩
        · cases q
      · cases q
theorem nomem_one {a b : Addr} (h : a ∉ [b]) : a ≠ b := fun z => h (by rw [z]; exact List.mem_singleton.mpr rfl)
theorem HR.freeze : ∀ (n : Nat) {G : Hp} {μ : Heap} {w : V} {v : Val} {d : D} {μ' : Heap}, HR L G H ι μ → VR L X G ι w v → freeze n v μ = some (d, μ') → ∃ G', Fz L G H ι μ G' μ' ∧ Dr L G' w d
  | 0, G, μ, w, v, d, μ', h, r, q => by
    unfold Mp.freeze at q
    split at q
    · cases q; exact ⟨G, ⟨h, .refl (Nat.le_refl _)⟩, r⟩
    · cases q
  | n + 1, G, μ, w, v, d, μ', h, r, q => by
    unfold Mp.freeze at q
    split at q
    · cases q; exact ⟨G, ⟨h, .refl (Nat.le_refl _)⟩, r⟩
    · rename_i i
      split at q
      · rename_i vs e
        obtain ⟨p, h1, rfl, xs, a1, a2⟩ := h.ref r e
        split at q
        · rename_i ds μ1 hz
          split at q
          · rename_i vs1 e1
            cases q
            obtain ⟨G1, z, dr⟩ := freezes_ok (fun h r q => HR.freeze n h r q) h a2.no hz
            have e1' : ∀ a, a ∈ Mp.foot p (.lst vs1) → upd G1 p.1 (.lst xs) a = H a := fun a ha => by
              rw [List.mem_singleton.mp ha, upd_same, a1]
            have gp : G1 p.1 = none := (z.hr.own p.1 ⟨i, p, _, h1, e1, List.mem_singleton.mpr rfl⟩).1
            have eg : Ex G1 (upd G1 p.1 (.lst xs)) := Ex.new gp
            obtain ⟨k1, k2⟩ := z.hr.frzC (d := .lst ds) h1 e1 eg e1' (fun a ha => upd_ne (nomem_one ha)) (.lst (SqL.of upd_same) (drs_ex eg dr))
            exact ⟨_, ⟨k1, z.st.go k2⟩, .lst (SqL.of upd_same) (drs_ex eg dr)⟩
          · cases q
        · cases q
      · cases q
      · rename_i c fs e
        obtain ⟨p, h1, rfl, ns, ws, vs, rfl, hl, a2, a3, a4, a5⟩ := h.ref r e
        split at q
        · rename_i ds μ1 hz
          split at q
          · rename_i c1 fs1 e1
            cases q
            rw [map_zip_snd hl] at hz
            rw [map_zip_fst hl]
            obtain ⟨G1, z, dr⟩ := freezes_ok (fun h r q => HR.freeze n h r q) h a2.no hz
            have gp : G1 p.1 = none := (z.hr.own p.1 ⟨i, p, _, h1, e1, List.mem_cons_self⟩).1
            have gp2 : G1 p.2 = none := (z.hr.own p.2 ⟨i, p, _, h1, e1, List.mem_cons_of_mem _ (List.mem_singleton.mpr rfl)⟩).1
            have hne : p.1 ≠ p.2 := ne_of a3 a4 fun z => nomatch z
            have eg : Ex G1 (upd (upd G1 p.2 (.own p.1)) p.1 (.ins (L.clA c) p.2 (ns.zip ws))) := (Ex.new gp2).trans (Ex.new (by rw [upd_ne hne]; exact gp))
            have l2 := vrs_len a2
            have dd : Dr L (upd (upd G1 p.2 (.own p.1)) p.1 (.ins (L.clA c) p.2 (ns.zip ws))) (.ref p.1) (.obj c (ns.zip ds)) := .obj a5 upd_same (by rw [upd_ne hne.symm, upd_same]) (by omega) (drs_ex eg dr)
            obtain ⟨k1, k2⟩ := z.hr.frzC h1 e1 eg (fun a ha => by
              rcases List.mem_cons.mp ha with rfl | ha
              · rw [upd_same, a3]
              · rw [List.mem_singleton.mp ha, upd_ne hne.symm, upd_same, a4]) (fun a ha => by
              rw [upd_ne (fun z => ha (by rw [z]; exact List.mem_cons_self)), upd_ne (fun z => ha (by rw [z]; exact List.mem_cons_of_mem _ (List.mem_singleton.mpr rfl)))]) dd
            exact ⟨_, ⟨k1, z.st.go k2⟩, dd⟩
          · cases q
        · cases q
      · rename_i x e
        cases q
        obtain ⟨p, h1, rfl, cr⟩ := h.ref r e
        exact ⟨G, ⟨h, .refl (Nat.le_refl _)⟩, cr⟩
      · cases q
    · cases q
end
end Mp
end
section
set_option Elab.async false
set_option linter.all false
set_option maxRecDepth 100000
set_option maxHeartbeats 2000000
namespace Mp
open PySem L2 PySem.Spec PyProof.Rows
open Evl (Ex ex_l ex_t fresh_back)
theorem Post.okD {L : Lk} {X : Ext} {E : XK} {G H : Hp} {ι : Iot} {μ : Heap} {Q : VK} {d : D} {w : V} (q : Post L E (RvV L X) G H ι μ Q (.ok (.d d) μ)) (hr : HR L G H ι μ) (h : Dr L G w d) : Q w H := q.ok hr h
section
variable {c : Ctx} {a b e : Expr} {es : List Expr} {pos p p2 : Pos} {x : Str} {T : Tbl} {R R1 : Run} {ea eb ec : E} {ees : Es} {w : Bool}
theorem gl_of {X : Cx} (f : Fits c X) (h : c.sc.names.lookup x = some .globalImplicit) : Gl X x := by
  show X.env.scope.names.lookup x = _
  rw [f.sc]; exact h
/-! ### names and constants -/
theorem snd_const {v : V} {u : Val} (h : ∀ X, Fits c X → PE X a (tC v)) (r : ∀ {G ι}, VR c.L c.X G ι v u) : SndE c a (fun _ μ => .ok u μ) := SndE.mk h fun S Q q => q.ok S.hr r
theorem snd_non {j} : SndE c (.Constant .none j pos) (ev T R R1 .non) := snd_const (u := .d .non) (fun X f => pe_non) Dr.non
theorem snd_bl {v : Bool} {j} : SndE c (.Constant (.bool v) j pos) (ev T R R1 (.bl v)) := snd_const (u := .d (.bl v)) (fun X f => pe_bl) (Dr.bl v)
theorem snd_int {v : Int} {j} : SndE c (.Constant (.int v) j pos) (ev T R R1 (.int v)) := snd_const (u := .d (.int v)) (fun X f => pe_int) (Dr.int v)
theorem snd_str {v : Str} {j} : SndE c (.Constant (.str v) j pos) (ev T R R1 (.str v)) := snd_const (u := .d (.str v)) (fun X f => pe_str) (Dr.str v)
theorem snd_var {i : Nat} (hN : c.N[i]? = some x) (hv : Vis c.sc x) (hd : (x == ("__debug__" : Str)) = false) (hcd : (x == ("__classdict__" : Str)) = false) : SndE c (.Name x pos) (ev T R R1 (.var i)) :=
  SndE.mk (t := tVar i) (fun X f => pe_var (by rw [f.N]; exact hN) (by rw [f.sc]; exact hv) hd hcd) fun S Q q => by
    rw [ev_var] at q
    obtain ⟨v, e1, q⟩ := q.opt1
    obtain ⟨w, h1, h2⟩ := S.sl i v e1
    exact ⟨w, h1, q.ok S.hr h2⟩
theorem snd_frz (h : SndE c a (ev T R R1 ea)) : SndE c a (ev T R R1 (.frz ea)) := .intro fun S Q q => by
  rw [ev_frz] at q
  refine h S Q (q.bnd fun w v μ1 G1 H1 ι1 st hr rv q => ?_)
  split at q
  · rename_i d μ2 hz
    obtain ⟨G2, z, dr⟩ := hr.freeze 8 rv hz
    exact q.okS z.st z.hr dr
  · exact q.elim
/-- a module's constant -/
theorem snd_glb {g : Nat} {d : D} {v : V} {u : Value} (hT : T.gl g = some d) (hg : c.sc.names.lookup x = some .globalImplicit) (hm : c.mg x = some u) (r : RelV v u) (hv : ∀ {G}, Dr c.L G v d) (hd : (x == ("__debug__" : Str)) = false) : SndE c (.Name x pos) (ev T R R1 (.glb g)) :=
  SndE.mk (t := tC v) (fun X f => pe_glob (gl_of f hg) (by rw [f.mg]; exact hm) r hd) fun S Q q => by
    rw [ev_glb, hT] at q
    exact q.okD S.hr hv
theorem snd_fnv {f : Nat} (hg : c.sc.names.lookup x = some .globalImplicit) (hm : c.mg x = some (.ref (c.L.fnA f))) (hd : (x == ("__debug__" : Str)) = false) : SndE c (.Name x pos) (ev T R R1 (.fnv f)) :=
  snd_const (v := .ref (c.L.fnA f)) (u := .d (.fn f)) (fun X ff => pe_glob (gl_of ff hg) (by rw [ff.mg]; exact hm) rfl hd) (Dr.fn f)
/-! ### operators -/
theorem snd_bin {op : Bop} (h1 : SndE c a (ev T R R1 ea)) (h2 : SndE c b (ev T R R1 eb)) : SndE c (.BinOp a (opOf op) b pos) (ev T R R1 (.bin op ea eb)) :=
  SndE.mk (t := tOp (rBin c.L.K op) (tE c a) (tE c b)) (fun X f => pe_op (by rw [← f.K]; exact op_bin op) (pe_tE f) (pe_tE f)) fun S Q q => by
    rw [ev_bin] at q
    exact h1 S _ (q.bnd fun x v μ1 G1 H1 ι1 st hr rv q =>
      h2 (S.step st hr) _ (q.bnd fun y u μ2 G2 H2 ι2 st2 hr2 rv2 q => bin_ok hr2 (rv.mono st2.g st2.pre') rv2 q))
theorem snd_binL {op : Bop} (h1 : SndE c a (ev T R R1 ea)) (h2 : SndE c b (ev T R R1 eb)) : SndE c (.BinOp a (opOf op) b pos) (ev T R R1 (.binL w op ea eb)) :=
  SndE.mk (t := tOp (rBin c.L.K op) (tE c a) (tE c b)) (fun X f => pe_op (by rw [← f.K]; exact op_bin op) (pe_tE f) (pe_tE f)) fun S Q q => by
    rw [ev_binL] at q
    exact h1 S _ (q.bnd fun x v μ1 G1 H1 ι1 st hr rv q =>
      h2 (S.step st hr) _ (q.bnd fun y u μ2 G2 H2 ι2 st2 hr2 rv2 q => by
        split at q
        · rename_i vs hv
          obtain ⟨hl, q⟩ := q.need
          exact lst_ok hr2 (rv.mono st2.g st2.pre') rv2 hv hl q
        · exact q.elim))
theorem snd_neg (h1 : SndE c a (ev T R R1 ea)) : SndE c (.UnaryOp .USub a pos) (ev T R R1 (.neg ea)) :=
  SndE.mk (t := tUn (rU fun i => .int (-i)) (tE c a)) (fun X f => pe_un un_neg (pe_tE f)) fun S Q q => by
    rw [ev_neg] at q
    exact h1 S _ (q.bnd fun x v μ1 G1 H1 ι1 st hr rv q => by
      split at q
      · rename_i i
        exact ⟨i, dr_int rv, q.okD hr (.int _)⟩
      · exact q.elim)
theorem snd_not (h1 : SndE c a (ev T R R1 ea)) : SndE c (.UnaryOp .Not a pos) (ev T R R1 (.not ea)) :=
  SndE.mk (t := tNotT c.L.K (tE c a)) (fun X f => by rw [← f.K]; exact pe_notT (pe_tE f)) fun S Q q => by
    rw [ev_not] at q
    exact h1 S _ (q.bnd fun x v μ1 G1 H1 ι1 st hr rv q => by
      obtain ⟨r, e1, q⟩ := q.opt
      exact ⟨r, hr.truth rv e1, q.okD hr (.bl _)⟩)
theorem tri_post {α β : Type} {L : Lk} {E : XK} {Rv : Hp → Hp → Iot → Heap → β → α → Prop} {G H : Hp} {ι : Iot} {μ : Heap} {Q : β → Hp → Prop} {o : Option Bool} {r1 r2 : Res α} (h : Post L E Rv G H ι μ Q (tri o r1 r2)) : ∃ k, o = some k ∧ Post L E Rv G H ι μ Q (if k = true then r1 else r2) := by
  cases o with
  | none => exact h.elim
  | some k => exact ⟨k, rfl, h⟩
theorem snd_and {op2 : List Expr} (h1 : SndE c a (ev T R R1 ea)) (h2 : SndE c (.BoolOp .And (b :: es) pos) (ev T R R1 eb)) : SndE c (.BoolOp .And (a :: b :: es) pos) (ev T R R1 (.and ea eb)) :=
  SndE.mk (t := tAndT c.L.K (tE c a) (tE c (.BoolOp .And (b :: es) pos))) (fun X f => by rw [← f.K]; exact pe_andT (pe_tE f) (pe_tE f)) fun S Q q => by
    rw [ev_and] at q
    exact h1 S _ (q.bnd fun x v μ1 G1 H1 ι1 st hr rv q => by
      obtain ⟨r, e1, q⟩ := tri_post q
      refine ⟨r, hr.truth rv e1, ?_⟩
      cases r with
      | true => rw [if_pos rfl] at q ⊢; exact h2 (S.step st hr) Q q
      | false => rw [if_neg Bool.false_ne_true] at q ⊢; exact q.ok hr rv)
theorem snd_or (h1 : SndE c a (ev T R R1 ea)) (h2 : SndE c (.BoolOp .Or (b :: es) pos) (ev T R R1 eb)) : SndE c (.BoolOp .Or (a :: b :: es) pos) (ev T R R1 (.or ea eb)) :=
  SndE.mk (t := tOrT c.L.K (tE c a) (tE c (.BoolOp .Or (b :: es) pos))) (fun X f => by rw [← f.K]; exact pe_orT (pe_tE f) (pe_tE f)) fun S Q q => by
    rw [ev_or] at q
    exact h1 S _ (q.bnd fun x v μ1 G1 H1 ι1 st hr rv q => by
      obtain ⟨r, e1, q⟩ := tri_post q
      refine ⟨r, hr.truth rv e1, ?_⟩
      cases r with
      | true => rw [if_pos rfl] at q ⊢; exact q.ok hr rv
      | false => rw [if_neg Bool.false_ne_true] at q ⊢; exact h2 (S.step st hr) Q q)
theorem snd_one {op : BoolOp} {m : Slots → Heap → Res Val} (h : SndE c a m) : SndE c (.BoolOp op [a] pos) m := SndE.mk (t := tE c a) (fun X f => pe_one (pe_tE f)) fun S Q q => h S Q q
theorem room_u {X : Cx} (f : Fits c X) : X.A.units + 64 < cLine := by have := f.un; omega
theorem snd_cmp {op : Cop} (h1 : SndE c a (ev T R R1 ea)) (h2 : SndE c b (ev T R R1 eb)) (hb : okE b = true) : SndE c (.Compare a [opC op] [b] pos) (ev T R R1 (.cmp op ea eb)) :=
  SndE.mk (t := tOp (rCmp c.L.K op) (tE c a) (tE c b)) (fun X f => pe_cmpR (by rw [← f.K]; exact op_cmp op (room_u f)) (pe_tE f) (pe_tE f) (mark_ok hb _)) fun S Q q => by
    rw [ev_cmp] at q
    exact h1 S _ (q.bnd fun x v μ1 G1 H1 ι1 st hr rv q =>
      h2 (S.step st hr) _ (q.bnd fun y u μ2 G2 H2 ι2 st2 hr2 rv2 q => by
        obtain ⟨r, e1, q⟩ := q.opt
        exact cmp_ok hr2 (rv.mono st2.g st2.pre') rv2 e1 (q.okD hr2 (.bl _))))
theorem snt_cmp {op : Cop} (h1 : SndE c a (ev T R R1 ea)) (h2 : SndE c b (ev T R R1 eb)) (hb : okE b = true) : SndT c (.Compare a [opC op] [b] pos) (evt T R R1 (.val (.cmp op ea eb))) :=
  SndT.mk (t := tTest (tOp (rCmp c.L.K op) (tE c a) (tE c b))) (fun X f => pt_cmpR (by rw [← f.K]; exact op_cmp op (room_u f)) (pe_tE f) (pe_tE f) (mark_ok hb _)) fun S Q q => by
    rw [evt_val, ev_cmp] at q
    simp only [bnd_assoc] at q
    refine h1 S _ (q.bnd fun x v μ1 G1 H1 ι1 st hr rv q =>
      h2 (S.step st hr) _ (q.bnd fun y u μ2 G2 H2 ι2 st2 hr2 rv2 q => ?_))
    obtain ⟨r, e1, q⟩ := q.opt
    exact cmp_ok hr2 (rv.mono st2.g st2.pre') rv2 e1 ⟨r, rfl, Post.ok (show Post _ _ _ _ _ _ _ _ (.ok r μ2) from q) hr2 rfl⟩
end
end Mp
end
section
set_option Elab.async false
set_option linter.all false
set_option maxRecDepth 100000
set_option maxHeartbeats 2000000
namespace Mp
open PySem L2 PySem.Spec PyProof.Rows
open Evl (Ex ex_l ex_t fresh_back)
/-- a test by its value -/
def pltE : Expr → Bool
  | .UnaryOp .Not _ _ => false
  | .BoolOp _ _ _ => false
  | .IfExp _ _ _ _ => false
  | .Compare _ _ _ _ => false
  | _ => true
theorem plt_ok {e : Expr} (h : pltE e = true) (env : Env) (whole : Sem Value) : isTrue e env whole = (do let v ← whole; standAt e.pos; holding [v] (truthy v)) := by
  cases e with
  | UnaryOp op _ _ => cases op <;> first | (cases h; done) | rfl
  | BoolOp _ _ _ => cases h
  | IfExp _ _ _ _ => cases h
  | Compare _ _ _ _ => cases h
  | _ => rfl
theorem tri_bnd {α β : Type} (o : Option Bool) (r1 r2 : Res α) (f : α → Heap → Res β) : (tri o r1 r2).bnd f = tri o (r1.bnd f) (r2.bnd f) := by
  cases o with
  | none => rfl
  | some k => cases k <;> rfl
section
variable {c : Ctx} {a b d e : Expr} {es : List Expr} {pos p p2 : Pos} {x : Str} {T : Tbl} {R R1 : Run} {ea eb ec : E} {ta tb tc : Tt} {ees : Es} {w : Bool}
theorem chn_ok {o1 o2 : Cop} (h1 : SndE c a (ev T R R1 ea)) (h2 : SndE c b (ev T R R1 eb)) (h3 : SndE c d (ev T R R1 ec)) {G H : Hp} {σ : L2.St} {ι : Iot} {δ : Slots} {μ : Heap} (S : St c G H σ ι δ μ) {Q : VK}
    (k : ∀ x v μ1 G1 H1 ι1, Stp ι.length G H ι μ G1 H1 ι1 μ1 → HR c.L G1 H1 ι1 μ1 → VR c.L c.X G1 ι1 x v → Post c.L (c.E σ) (RvV c.L c.X) G1 H1 ι1 μ1 Q (.ok v μ1) → Q x H1)
    (q : Post c.L (c.E σ) (RvV c.L c.X) G H ι μ Q (ev T R R1 (.chn o1 o2 ea eb ec) δ μ)) : tChain (rCmp c.L.K o1) (rCmp c.L.K o2) (tE c a) (tE c b) (tE c d) σ H Q := by
  rw [ev_chn] at q
  refine h1 S _ (q.bnd fun x v μ1 G1 H1 ι1 st hr rv q => h2 (S.step st hr) _ (q.bnd fun y u μ2 G2 H2 ι2 st2 hr2 rv2 q => ?_))
  obtain ⟨r, e1, q⟩ := tri_post q
  refine cmp_ok hr2 (rv.mono st2.g st2.pre') rv2 e1 ⟨r, rfl, ?_⟩
  cases r with
  | true =>
    rw [if_pos rfl] at q ⊢
    refine h3 ((S.step st hr).step st2 hr2) _ (q.bnd fun z u3 μ3 G3 H3 ι3 st3 hr3 rv3 q => ?_)
    obtain ⟨r2, e2, q⟩ := q.opt
    exact cmp_ok hr3 (rv2.mono st3.g st3.pre') rv3 e2 (q.okD hr3 (.bl _))
  | false => rw [if_neg Bool.false_ne_true] at q ⊢; exact q.okD hr2 (.bl _)
theorem lm_ok {op op' : CmpOp} (hb : okE b = true) (hd : okE d = true) : lastMarks [op, op'] [b, d] = false := mark_ok hd op'
theorem snd_chn {o1 o2 : Cop} (h1 : SndE c a (ev T R R1 ea)) (h2 : SndE c b (ev T R R1 eb)) (h3 : SndE c d (ev T R R1 ec)) (hb : okE b = true) (hd : okE d = true) :
    SndE c (.Compare a [opC o1, opC o2] [b, d] pos) (ev T R R1 (.chn o1 o2 ea eb ec)) :=
  SndE.mk (t := tChain (rCmp c.L.K o1) (rCmp c.L.K o2) (tE c a) (tE c b) (tE c d)) (fun X f => pe_chain (by rw [← f.K]; exact op_cmp o1 (room_u f)) (by rw [← f.K]; exact op_cmp o2 (room_u f)) (pe_tE f) (pe_tE f) (pe_tE f) (lm_ok hb hd)) fun S Q q =>
    chn_ok h1 h2 h3 S (fun x v μ1 G1 H1 ι1 st hr rv q => q.ok hr rv) q
theorem snt_chn {o1 o2 : Cop} (h1 : SndE c a (ev T R R1 ea)) (h2 : SndE c b (ev T R R1 eb)) (h3 : SndE c d (ev T R R1 ec)) (hb : okE b = true) (hd : okE d = true) :
    SndT c (.Compare a [opC o1, opC o2] [b, d] pos) (evt T R R1 (.val (.chn o1 o2 ea eb ec))) :=
  SndT.mk (t := tTest (tChain (rCmp c.L.K o1) (rCmp c.L.K o2) (tE c a) (tE c b) (tE c d))) (fun X f => pt_chain (by rw [← f.K]; exact op_cmp o1 (room_u f)) (by rw [← f.K]; exact op_cmp o2 (room_u f)) (pe_tE f) (pe_tE f) (pe_tE f) (lm_ok hb hd)) fun S Q q => by
    rw [evt_val, ev_chn] at q
    simp only [bnd_assoc, tri_bnd] at q
    refine h1 S _ (q.bnd fun x v μ1 G1 H1 ι1 st hr rv q => h2 (S.step st hr) _ (q.bnd fun y u μ2 G2 H2 ι2 st2 hr2 rv2 q => ?_))
    obtain ⟨r, e1, q⟩ := tri_post q
    refine cmp_ok hr2 (rv.mono st2.g st2.pre') rv2 e1 ⟨r, rfl, ?_⟩
    cases r with
    | true =>
      rw [if_pos rfl] at q ⊢
      refine h3 ((S.step st hr).step st2 hr2) _ (q.bnd fun z u3 μ3 G3 H3 ι3 st3 hr3 rv3 q => ?_)
      obtain ⟨r2, e2, q⟩ := q.opt
      exact cmp_ok hr3 (rv2.mono st3.g st3.pre') rv3 e2 ⟨r2, rfl, q.ok hr3 rfl⟩
    | false => rw [if_neg Bool.false_ne_true] at q ⊢; exact ⟨_, rfl, q.ok hr2 rfl⟩
/-! ### tests -/
theorem snt_val (h : SndE c a (ev T R R1 ea)) (hp : pltE a = true) : SndT c a (evt T R R1 (.val ea)) :=
  SndT.mk (t := fun σ H Q => tE c a σ H fun x H' => ∃ k, TruV c.L.K x H' k ∧ Q k H') (fun X f => by rw [← f.K]; exact pt_truth (pe_tE f) (plt_ok hp _)) fun S Q q => by
    rw [evt_val] at q
    refine h S _ (q.bnd fun x v μ1 G1 H1 ι1 st hr rv q => ?_)
    obtain ⟨k, e1, q⟩ := q.opt1
    exact ⟨k, hr.truth rv e1, q.ok hr rfl⟩
theorem pw_of {X : Cx} {op : BoolOp} {t : TT} (h : PT X (.BoolOp op es pos) t) : PW X (.BoolOp op es pos) t := ⟨fun wh pins s σ H Q I q => h.run pins s σ H Q I q⟩
theorem SndT.toW {op : BoolOp} {m : Slots → Heap → Res Bool} (h : SndT c (.BoolOp op es pos) m) : SndW c (.BoolOp op es pos) m := SndW.mk (t := tT c (.BoolOp op es pos)) (fun X f => pw_of (pt_tT f)) fun S Q p => h S Q p
theorem snt_not (h : SndT c a (evt T R R1 ta)) : SndT c (.UnaryOp .Not a pos) (evt T R R1 (.not ta)) :=
  SndT.mk (t := tNot (tT c a)) (fun X f => pt_not (pt_tT f)) fun S Q q => by
    rw [evt_not] at q
    exact h S _ (q.bnd fun x v μ1 G1 H1 ι1 st hr rv q => by have rv : x = v := rv; subst rv; exact q.ok hr rfl)
theorem snw_and (h1 : SndT c a (evt T R R1 ta)) (h2 : SndW c (.BoolOp .And (b :: es) pos) (evt T R R1 tb)) : SndW c (.BoolOp .And (a :: b :: es) pos) (evt T R R1 (.and ta tb)) :=
  SndW.mk (t := tAnd (tT c a) (tW c (.BoolOp .And (b :: es) pos))) (fun X f => pw_and (pt_tT f) (pw_tW f)) fun S Q q => by
    rw [evt_and] at q
    refine h1 S _ (q.bnd fun x v μ1 G1 H1 ι1 st hr rv q => ?_)
    have rv : x = v := rv
    subst rv
    cases x with
    | true => rw [if_pos rfl] at q ⊢; exact h2 (S.step st hr) _ q
    | false => rw [if_neg Bool.false_ne_true] at q ⊢; exact q.ok hr rfl
theorem snw_or (h1 : SndT c a (evt T R R1 ta)) (h2 : SndW c (.BoolOp .Or (b :: es) pos) (evt T R R1 tb)) : SndW c (.BoolOp .Or (a :: b :: es) pos) (evt T R R1 (.or ta tb)) :=
  SndW.mk (t := tOr (tT c a) (tW c (.BoolOp .Or (b :: es) pos))) (fun X f => pw_or (pt_tT f) (pw_tW f)) fun S Q q => by
    rw [evt_or] at q
    refine h1 S _ (q.bnd fun x v μ1 G1 H1 ι1 st hr rv q => ?_)
    have rv : x = v := rv
    subst rv
    cases x with
    | true => rw [if_pos rfl] at q ⊢; exact q.ok hr rfl
    | false => rw [if_neg Bool.false_ne_true] at q ⊢; exact h2 (S.step st hr) _ q
theorem snw_and1 {m : Slots → Heap → Res Bool} (h : SndT c a m) : SndW c (.BoolOp .And [a] pos) m := SndW.mk (t := tT c a) (fun X f => pw_and1 (pt_tT f)) fun S Q q => h S Q q
theorem snw_or1 {m : Slots → Heap → Res Bool} (h : SndT c a m) : SndW c (.BoolOp .Or [a] pos) m := SndW.mk (t := tT c a) (fun X f => pw_or1 (pt_tT f)) fun S Q q => h S Q q
theorem if_post {α β : Type} {L : Lk} {E : XK} {Rv : Hp → Hp → Iot → Heap → β → α → Prop} {G H : Hp} {ι : Iot} {μ : Heap} {Q : β → Hp → Prop} {k : Bool} {r1 r2 : Res α} {A : Prop} {B : Prop} (q : Post L E Rv G H ι μ Q (if k = true then r1 else r2)) (h1 : Post L E Rv G H ι μ Q r1 → A) (h2 : Post L E Rv G H ι μ Q r2 → B) : if k = true then A else B := by
  cases k with
  | true => rw [if_pos rfl] at q ⊢; exact h1 q
  | false => rw [if_neg Bool.false_ne_true] at q ⊢; exact h2 q
theorem snd_ife (h : SndT c d (evt T R R1 tc)) (h1 : SndE c a (ev T R R1 ea)) (h2 : SndE c b (ev T R R1 eb)) : SndE c (.IfExp d a b pos) (ev T R R1 (.ife tc ea eb)) :=
  SndE.mk (t := tIf (tT c d) (tE c a) (tE c b)) (fun X f => pe_ifExp (pt_tT f) (pe_tE f) (pe_tE f)) fun S Q q => by
    rw [ev_ife] at q
    refine h S _ (q.bnd fun x v μ1 G1 H1 ι1 st hr rv q => ?_)
    have rv : x = v := rv
    subst rv
    exact if_post q (h1 (S.step st hr) _) (h2 (S.step st hr) _)
/-! ### arguments -/
theorem sna_nil : SndA c [] (evs T R R1 .nil) := SndA.mk (fun X f => pa_nil) fun S Q q => by
  rw [evs_nil] at q
  exact q.ok S.hr .nil
theorem sna_cons (h : SndE c a (ev T R R1 ea)) (hr : SndA c es (evs T R R1 ees)) (hs : okE a = true) : SndA c (a :: es) (evs T R R1 (.cons ea ees)) :=
  SndA.mk (t := tCons (tE c a) (tA c es)) (fun X f => pa_cons (pe_tE f) (pa_tA f) (star_ok hs _ _)) fun S Q q => by
    rw [evs_cons] at q
    exact h S _ (q.bnd fun x v μ1 G1 H1 ι1 st hr1 rv q => hr (S.step st hr1) _ (q.bnd fun ys vs μ2 G2 H2 ι2 st2 hr2 rv2 q => q.ok hr2 (.cons (rv.mono st2.g st2.pre') rv2)))
theorem keys_vrs {L : Lk} {X : Ext} {G : Hp} {ι : Iot} : ∀ {ks : List Key} {ws : List V} {vs : List Val}, ks.length = vs.length → ws.length = vs.length → VRs L X G ι ((ks.zip ws).map fun kv => kV kv.1) (((ks.map kD).zip vs).map fun p => Val.d p.1)
  | [], _, _, _, _ => .nil
  | k :: ks, [], vs, h1, h2 => by
    cases vs with
    | nil => cases h1
    | cons v vs => cases h2
  | k :: ks, w :: ws, [], h1, _ => by cases h1
  | k :: ks, w :: ws, v :: vs, h1, h2 => by
    refine .cons (show Dr L G (kV k) (kD k) from ?_) (keys_vrs (ks := ks) (ws := ws) (vs := vs) (Nat.succ.inj h1) (Nat.succ.inj h2))
    cases k with
    | inl i => exact .int i
    | inr s => exact .str s
theorem sna_star (hc : c.calm = true) (h : SndE c a (ev T R R1 ea)) (hr : SndA c es (evs T R R1 ees)) : SndA c (.Starred a p :: es) (evs T R R1 (.star ea ees)) :=
  SndA.mk (t := tStarD c.L.K (tE c a) (tA c es)) (fun X f => by rw [← f.K]; exact pa_starD (f.calm.trans hc) (pe_tE f) (pa_tA f) rfl) fun S Q q => by
    rw [evs_star] at q
    refine h S _ (q.bnd fun x v μ1 G1 H1 ι1 st hr1 rv q => ?_)
    split at q
    · rename_i us hu
      obtain ⟨r, xs, rfl, s, t⟩ := hr1.items rv hu
      exact .inl ⟨r, xs, rfl, s.or.symm, hr (S.step st hr1) _ (q.bnd fun ys vs μ2 G2 H2 ι2 st2 hr2 rv2 q => q.ok hr2 (vrs_app (t.mono st2.g st2.pre') rv2))⟩
    · split at q
      · rename_i kvs hp
        obtain ⟨r, ks, ws, vs, rfl, rfl, rd, hl, t⟩ := hr1.pairs rv hp
        exact .inr ⟨r, _, rfl, rd, hr (S.step st hr1) _ (q.bnd fun ys vs μ2 G2 H2 ι2 st2 hr2 rv2 q => q.ok hr2 (vrs_app (keys_vrs hl (vrs_len t)) rv2))⟩
      · exact q.elim
theorem snd_tup {k : Nat} (h : SndA c es (evs T R R1 ees)) : SndE c (.Tuple es k pos) (ev T R R1 (.tup ees)) :=
  SndE.mk (t := tTup (tA c es)) (fun X f => pe_tup (pa_tA f)) fun S Q q => by
    rw [ev_tup] at q
    exact h S _ (q.bnd fun xs vs μ1 G1 H1 ι1 st hr rv q => ⟨tup_small q rv, fun p hp => q.tup hr rv hp⟩)
theorem snd_lst (h : SndA c es (evs T R R1 ees)) : SndE c (.List es pos) (ev T R R1 (.lst w ees)) :=
  SndE.mk (t := tLst (tA c es)) (fun X f => pe_lst (pa_tA f)) fun S Q q => by
    rw [ev_lst] at q
    exact h S _ (q.bnd fun xs vs μ1 G1 H1 ι1 st hr rv q => ⟨newL_small q rv, fun p hp => q.newL hr rv hp⟩)
/-! ### subscripts -/
theorem atI_eq {α : Type} (xs : List α) (i : Int) : L2.atI xs i = Mp.atI xs i := by
  unfold L2.atI Mp.atI
  show (L2.ixN xs.length i).bind _ = match L2.ixN xs.length i with
    | some j => xs[j]?
    | none => none
  cases L2.ixN xs.length i <;> rfl
theorem vrs_at {L : Lk} {X : Ext} {G : Hp} {ι : Iot} {ws : List V} {vs : List Val} {i : Int} {v : Val} (r : VRs L X G ι ws vs) (q : Mp.atI vs i = some v) : ∃ w, L2.atI ws i = some w ∧ VR L X G ι w v := by
  rw [atI_eq]
  unfold Mp.atI at q ⊢
  rw [← vrs_len r] at q
  split at q
  · rename_i j hj
    obtain ⟨w, h1, h2⟩ := vrs_get r q
    exact ⟨w, h1, h2⟩
  · cases q
theorem vrs_idx8 {L : Lk} {X : Ext} {G : Hp} {ι : Iot} {ws : List V} {vs : List Val} (r : VRs L X G ι ws vs) {i : Nat} {w : V} {v : Val} (h1 : ws[i]? = some w) (h2 : vs[i]? = some v) : VR L X G ι w v := by
  obtain ⟨w', h3, h4⟩ := vrs_get r h2
  rw [h1] at h3; cases h3; exact h4
def rIdx (K : PySem.W.Frag) : R2 := fun x y H Q => rIxL K x y H Q ∨ (rIxT K x y H Q ∨ (rIxS x y H Q ∨ rIxDt x y H Q))
theorem snd_idx (h1 : SndE c a (ev T R R1 ea)) (h2 : SndE c b (ev T R R1 eb)) (hb : okE b = true) : SndE c (.Subscript a b pos) (ev T R R1 (.idx ea eb)) :=
  SndE.mk (t := tOp (rIdx c.L.K) (tE c a) (tE c b)) (fun X f => pe_ix (by rw [← f.K]; exact ix_list.or (ix_tup.or (ix_str.or (ix_dict (by have := f.un; omega))))) (pe_tE f) (pe_tE f) (sub_ok hb)) fun S Q q => by
    rw [ev_idx] at q
    refine h1 S _ (q.bnd fun x v μ1 G1 H1 ι1 st hr rv q => h2 (S.step st hr) _ (q.bnd fun y u μ2 G2 H2 ι2 st2 hr2 rv2 q => ?_))
    have rv' := rv.mono st2.g st2.pre'
    unfold idxV at q
    split at q
    · rename_i s
      split at q
      · rename_i k
        obtain ⟨hz, q⟩ := q.need
        split at q
        · rename_i c hc
          refine .inr (.inr (.inl ⟨_, k, c, dr_str rv', dr_int rv2, small_le hz, by rw [atI_eq]; exact hc, q.okD hr2 (.str _)⟩))
        · exact q.elim
      · exact q.elim
    · split at q
      · rename_i k vs hv
        obtain ⟨r, e1, q⟩ := q.opt1
        obtain ⟨p, xs, rfl, s, t⟩ := hr2.items rv' hv
        obtain ⟨z, e2, rz⟩ := vrs_at t e1
        rcases s.or with s | s
        · exact .inl ⟨p, xs, k, z, rfl, dr_int rv2, s, e2, q.ok hr2 rz⟩
        · exact .inr (.inl ⟨p, xs, k, z, rfl, dr_int rv2, s, e2, q.ok hr2 rz⟩)
      · split at q
        · rename_i kvs hp
          obtain ⟨hk, q⟩ := q.need
          obtain ⟨k', rfl⟩ := isKey0_k hk
          obtain ⟨r, e1, q3⟩ := q.opt1
          obtain ⟨p, ks, ws, vs, rfl, rfl, rd, hl, t⟩ := hr2.pairs rv' hp
          rcases look_k k' hl (vrs_len t) with ⟨e2, e3⟩ | ⟨i, w, v', h1, h2, e2, e3⟩
          · rw [e2] at e1; cases e1
          · rw [e2] at e1; cases e1
            have rz := vrs_idx8 t h1 h2
            exact .inr (.inr (.inr ⟨p, w, rfl, .inl ⟨_, k', rd, dr_k rv2, e3.symm⟩, q3.ok hr2 rz⟩))
        · exact q.elim
      · exact q.elim
end
end Mp
end
section
set_option Elab.async false
set_option linter.all false
set_option maxRecDepth 100000
set_option maxHeartbeats 2000000
namespace Mp
open PySem L2 PySem.Spec PyProof.Rows
open Evl (Ex ex_l ex_t fresh_back)
section
variable {c : Ctx} {a b d e : Expr} {es : List Expr} {pos p p2 apos : Pos} {x : Str} {T : Tbl} {R R1 : Run} {ea eb ec : E} {ees : Es} {w : Bool}
/-! ### slices -/
theorem sno_no : SndO c none (evo T R R1 .no) := .intro fun S Q q => ⟨tNoPart, fun X f => po_none, by rw [evo_no] at q; exact q.ok S.hr rfl⟩
theorem sno_so (h : SndE c a (ev T R R1 ea)) : SndO c (some a) (evo T R R1 (.so ea)) := .intro fun S Q q => ⟨tPart (tE c a), fun X f => po_some (pe_tE f), by
  rw [evo_so] at q
  refine h S _ (q.bnd fun x v μ1 G1 H1 ι1 st hr rv q => ?_)
  split at q
  · exact ⟨_, dr_int rv, q.ok hr rfl⟩
  · exact q.elim⟩
theorem sIx_eq (n d : Nat) (o : Option Int) : HT.sIx n d o = Mp.sIx n d o := by cases o <;> rfl
theorem vrs_cut {L : Lk} {X : Ext} {G : Hp} {ι : Iot} {ws : List V} {vs : List Val} (l h : Option Int) (r : VRs L X G ι ws vs) : VRs L X G ι (cutV ws l h) (cutG vs l h) := by
  unfold cutV cutG
  rw [sIx_eq, sIx_eq, vrs_len r]
  exact vrs_take _ (vrs_drop _ r)
theorem drs_cut {L : Lk} {G : Hp} {ws : List V} {ds : List D} (l h : Option Int) (r : Drs L G ws ds) : Drs L G (cutV ws l h) (cutG ds l h) := by
  unfold cutV cutG
  rw [sIx_eq, sIx_eq, drs_len r]
  exact drs_take _ (drs_drop _ r)
def rSlc (K : PySem.W.Frag) : V → Option Int → Option Int → Hp → VK → Prop := fun x lo hi H Q => rSlL K x lo hi H Q ∨ (rSlA K x lo hi H Q ∨ rSlS x lo hi H Q)
theorem items_l {μ : Heap} {v : Val} {us : List Val} (h : items μ v = some us) (n : ∀ ds, v ≠ .d (.tup ds)) : isL μ v = true := by
  cases v with
  | d x =>
    cases x with
    | lst ds => rfl
    | tup ds => exact absurd rfl (n ds)
    | _ => cases h
  | ref i =>
    rw [items_ref] at h
    rw [isL_ref]
    cases e : μ[i]? with
    | none => rw [e] at h; cases h
    | some c =>
      rw [e] at h
      cases c with
      | lst vs => rfl
      | frz d => cases d <;> first | rfl | (cases h; done)
      | _ => cases h
  | clo f c => cases h
  | exn x => cases h
theorem snd_slc {lo hi : Option Expr} {l h : EO} (h1 : SndE c a (ev T R R1 ea)) (h2 : SndO c lo (evo T R R1 l)) (h3 : SndO c hi (evo T R R1 h)) : SndE c (.Subscript a (.Slice lo hi none p2) pos) (ev T R R1 (.slc w ea l h)) :=
  SndE.mk (t := L2.tSl (rSlc c.L.K) (tE c a) (tPa c lo) (tPa c hi)) (fun X f => pe_slice (by rw [← f.K]; exact sl_list.or (sl_tupA.or sl_str)) (pe_tE f) (po_tPa f) (po_tPa f)) fun S Q q => by
    rw [ev_slc] at q
    refine h1 S _ (q.bnd fun x v μ1 G1 H1 ι1 st hr rv q => h2 (S.step st hr) _ (q.bnd fun l l' μ2 G2 H2 ι2 st2 hr2 rl q => h3 ((S.step st hr).step st2 hr2) _ (q.bnd fun u u' μ3 G3 H3 ι3 st3 hr3 ru q => ?_)))
    have rl : l = l' := rl
    have ru : u = u' := ru
    subst rl ru
    have rv' := (rv.mono st2.g st2.pre').mono st3.g st3.pre'
    split at q
    · rename_i ds
      obtain ⟨r, xs, rfl, s, t⟩ := dr_tup rv'
      have t' := drs_cut l u t
      refine .inr (.inl ⟨r, xs, rfl, ex_t hr3.gh s, fun ⟨z1, z2⟩ => ?_, fun _ p hp => ?_⟩)
      · have e : cutV xs l u = xs := by
          unfold cutV
          rw [z1, z2, List.drop_zero, Nat.sub_zero, List.take_length]
        rw [e] at t'
        exact q.okD hr3 (.tup s t')
      · obtain ⟨h1, st⟩ := hr3.grow (p := p) (.tup (cutV xs l u)) hp
        exact q.okS st h1 (show Dr _ _ _ _ from .tup (SqT.of upd_same) (drs_ex st.g t'))
    · obtain ⟨hz, q⟩ := q.need
      refine .inr (.inr ⟨_, dr_str rv', small_le hz, ?_⟩)
      have e : ∀ z : Str, cutS z l u = ⟨(cutG z.cps.toList l u).toArray⟩ := fun z => by
        unfold cutS cutG
        rw [sIx_eq, sIx_eq]
        have : z.cps.toList.length = z.length := Array.length_toList
        rw [this]
      rw [e]
      exact q.okD hr3 (.str _)
    · split at q
      · rename_i vs hv
        obtain ⟨r, xs, rfl, s, t⟩ := hr3.items rv' hv
        have := items_l hv (fun ds z => by simp_all)
        exact .inl ⟨r, xs, rfl, sqa_l s this, fun p hp => q.newL hr3 (vrs_cut l u t) hp⟩
      · exact q.elim
theorem snd_bck {k : Nat} {q1 q2 q3 : Pos} (h1 : SndE c a (ev T R R1 ea)) : SndE c (.Subscript a (.Slice none none (some (.UnaryOp .USub (.Constant (.int 1) k q1) q2)) q3) pos) (ev T R R1 (.bck w ea)) :=
  SndE.mk (t := tRevL c.L.K (tE c a)) (fun X f => by rw [← f.K]; exact pe_revL (pe_tE f)) fun S Q q => by
    rw [ev_bck] at q
    refine h1 S _ (q.bnd fun x v μ1 G1 H1 ι1 st hr rv q => ?_)
    split at q
    · rename_i vs hv
      obtain ⟨hl, q⟩ := q.need
      obtain ⟨r, xs, rfl, s, t⟩ := hr.items rv hv
      exact ⟨r, xs, rfl, sqa_l s hl, fun p hp => q.newL hr (vrs_rev t) hp⟩
    · exact q.elim
/-! ### attributes -/
/-- what the module says of its classes' fields -/
structure FldAt (c : Ctx) (f : Str) : Prop where
  no : ∀ k, c.L.isO k = true → Cls c.L.K (c.L.clA k) ∧ NoAttr c.L.K (c.L.clA k) f
theorem look_zip {α β : Type} {f : Str} : ∀ {ns : List Str} {ws : List α} {vs : List β} {v : β} {P : α → β → Prop}, ns.length = vs.length → ws.length = vs.length → (∀ (i : Nat) (w : α) (v : β), ws[i]? = some w → vs[i]? = some v → P w v) → (ns.zip vs).lookup f = some v → ∃ w, (ns.zip ws).lookup f = some w ∧ P w v
  | [], _, [], v, P, _, _, _, h => by cases h
  | _ :: _, [], _ :: _, _, _, _, h2, _, _ => by cases h2
  | n :: ns, w :: ws, u :: vs, v, P, h1, h2, h3, h => by
    rw [List.zip_cons_cons, List.lookup_cons] at h ⊢
    cases e : f == n with
    | true => rw [e] at h; simp only at h ⊢; cases h; exact ⟨w, rfl, h3 0 w u rfl rfl⟩
    | false => rw [e] at h; simp only at h ⊢; exact look_zip (Nat.succ.inj h1) (Nat.succ.inj h2) (fun i w v a b => h3 (i + 1) w v a b) h
theorem vrs_idx {L : Lk} {X : Ext} {G : Hp} {ι : Iot} {ws : List V} {vs : List Val} (r : VRs L X G ι ws vs) : ∀ (i : Nat) (w : V) (v : Val), ws[i]? = some w → vs[i]? = some v → VR L X G ι w v := fun i w v h1 h2 => by
  obtain ⟨w', h3, h4⟩ := vrs_get r h2
  rw [h1] at h3; cases h3; exact h4
theorem drs_idx {L : Lk} {G : Hp} {ws : List V} {vs : List D} (r : Drs L G ws vs) : ∀ (i : Nat) (w : V) (v : D), ws[i]? = some w → vs[i]? = some v → Dr L G w v := fun i w v h1 h2 => by
  obtain ⟨w', h3, h4⟩ := drs_get r h2
  rw [h1] at h3; cases h3; exact h4
theorem snd_att (F : FldAt c x) (h1 : SndE c a (ev T R R1 ea)) (hn : nsE a = true) : SndE c (.Attribute a x pos) (ev T R R1 (.att ea x)) :=
  SndE.mk (t := tFld c.L.K (tE c a) x) (fun X f => by rw [← f.K]; exact pe_fld (pe_tE f) (base_ok hn _ _)) fun S Q q => by
    rw [ev_att] at q
    refine h1 S _ (q.bnd fun y v μ1 G1 H1 ι1 st hr rv q => ?_)
    have dat : ∀ {E : XK} {k fs u}, Dr c.L G1 y (.obj k fs) → fs.lookup x = some u → Post c.L E (RvV c.L c.X) G1 H1 ι1 μ1 Q (.ok (.d u) μ1) → ∃ a C dx fs v, y = .ref a ∧ H1 a = some (.ins C dx fs) ∧ Cls c.L.K C ∧ NoAttr c.L.K C x ∧ fs.lookup x = some v ∧ Q v H1 := fun {E k fs u} r hl q => by
      cases r with
      | obj ho g1 g2 l t =>
        obtain ⟨w, e1, e2⟩ := look_zip (P := fun w v => Dr c.L G1 w v) (by rw [← drs_len t]; exact l) (drs_len t) (drs_idx t) hl
        exact ⟨_, _, _, _, w, rfl, hr.gh _ _ g1, (F.no _ ho).1, (F.no _ ho).2, e1, q.okD hr e2⟩
    unfold attV at q
    split at q
    · rename_i k fs
      obtain ⟨u, e1, q⟩ := q.opt1
      rw [Option.map_eq_some_iff] at e1
      obtain ⟨u', e1, rfl⟩ := e1
      exact dat rv e1 q
    · rename_i i
      split at q
      · rename_i k fs hi
        obtain ⟨p, h1, rfl, ns, ws, vs, rfl, hl, a2, a3, a4, a5⟩ := hr.ref rv hi
        obtain ⟨u, e1, q⟩ := q.opt1
        obtain ⟨w, e2, e3⟩ := look_zip (P := fun w v => VR c.L .no G1 ι1 w v) hl (vrs_len a2) (vrs_idx a2) e1
        exact ⟨_, _, _, _, w, rfl, a3, (F.no _ a5).1, (F.no _ a5).2, e2, q.ok hr e3.no⟩
      · rename_i k fs hi
        obtain ⟨p, h1, rfl, cr⟩ := hr.ref rv hi
        obtain ⟨u, e1, q⟩ := q.opt1
        rw [Option.map_eq_some_iff] at e1
        obtain ⟨u', e1, rfl⟩ := e1
        exact dat cr e1 q
      · exact q.elim
    · exact q.elim
end
end Mp
end
section
set_option Elab.async false
set_option linter.all false
set_option maxRecDepth 100000
set_option maxHeartbeats 2000000
namespace Mp
open PySem L2 PySem.Spec PyProof.Rows
/-! ### sorted of a tuple of texts -/
def rSortedTt (K : PySem.W.Frag) : List V → Hp → VK → Prop := fun xs H Q => ∃ (a : Addr) (ss : List Str), xs = [.ref a] ∧ SqT K H a (ss.map V.str) ∧ ss.length < 64 ∧ ∀ ys p, ys.Perm ss → sortedS ys = true → H p = none → Q (.ref p) (upd H p (.lst (ys.map V.str)))
theorem cr_sortedTt {X : Cx} : CallR X (.builtin "sorted") (rSortedTt X.K) := by
  intro pins s σ H vs us Q I r h
  obtain ⟨a, ss, rfl, hs, h64, q⟩ := h
  obtain ⟨u, rfl, ru⟩ := vals1 r
  obtain rfl : u = Value.ref a := ru
  obtain ⟨its, rv, ⟨o, ho, hc, n, hd⟩, hz⟩ := I.tuple hs
  have hl := rv.length
  rw [List.length_map] at hl
  have hS : StrsAre its ss := rv.strs
  refine Calls.call_function_entry PyProof.Rows.kind_sorted PyProof.Rows.plain_sorted PyProof.Rows.entry_sorted (PyProof.Rows.args_sorted1 _) ?_
  unfold Builtin.«sorted»
  refine wpAny_bind (m := checkCount "sorted" 1 1 _) (wpAny_pure ?_)
  refine wpAny_bind (wpAny_collect_seq a (.inr rfl) ho hc hd (fun h' hk => ?_) (by rw [List.size_toArray, ← hl, sizeLine_eq]; omega))
  rw [show its.toArray.toList = its by simp]
  have I1 : Inv X pins σ H { s with heap := h' } := I.kept (t' := s.toks) hk
  refine wpAny_bind (wpAny_newList ?_ (by rw [← hl, sizeLine_eq]; omega))
  have hoL : (h'.push (seqObj "list" its.toArray 0)).get? h'.objs.size = some (seqObj "list" its.toArray 0) := Heap.get?_push_size _ rfl
  show wpAny _ _ _ _ _ { s with heap := h'.push (seqObj "list" its.toArray 0) }
  refine wpAny_bind (wpAny_holding (wpAny_call_entry PyProof.Rows.slot_list_sort ⟨_, hoL, rfl⟩ PyProof.Rows.entry_list_sort
    (list_sort_treeK strKind_oneLt (s := { s with heap := h'.push (seqObj "list" its.toArray 0) }) hoL hS.keysOf (fun v1 v2 rest e => keyKind_strs (by rw [← e]; exact hS)) (by rw [← hl]; exact h64) fun st' hp hs' => ⟨_, rfl, ?_⟩) (PyProof.Rows.args_list_sort _)))
  obtain ⟨ys, g1, g2, g3⟩ := sorted_out_str hS hp hs'
  obtain ⟨e', he'⟩ := PyProof.Rows.sortedHeap_at (vs := its) (out := (arrOf st').map (·.2)) hoL
  have hlen : (ys.map V.str).length ≤ sizeLine := by
    rw [List.length_map, g2.length_eq, sizeLine_eq]; omega
  refine wpAny_pure ⟨_, rfl, .ref h'.objs.size, upd H h'.objs.size (.lst (ys.map V.str)), I1.laid (t' := s.toks) (fun b u e => ?_) (Nat.le_refl _)
    (show ObjOk X.prog X.w _ _ _ (.lst (ys.map V.str)) from ⟨hlen, ((arrOf st').map (·.2)).toList, e', vals_of_strs g1, by rw [Array.toArray_toList]; exact he'⟩), rfl, q ys _ g2 g3 (I1.hok.fresh (Nat.le_refl _))⟩
  have hb : b < h'.objs.size := Heap.lt_size e
  rw [PyProof.Rows.sortedHeap_old (Nat.ne_of_lt hb) (by rw [size_push']; exact Nat.lt_succ_of_lt hb)]
  exact Heap.get?_push_of_some _ e
/-! ### sorted of data -/
def rSortedDt (K : PySem.W.Frag) : List V → Hp → VK → Prop := fun xs H Q => ∃ (a : Addr) (ps : List (V × PyData)), xs = [.ref a] ∧ SqL K H a (ps.map (·.1)) ∧ (∀ p ∈ ps, Dp K H p.1 p.2) ∧ PySem.W.AllAlike (ps.map (·.2)) ∧ PySem.W.Sortable (ps.map (·.2)) ∧ (∀ p ∈ ps, p.2.depth ≤ 60) ∧
  ∀ q, H q = none → Q (.ref q) (upd H q (.lst ((ps.mergeSort (PySem.W.dataLe false (·.2))).map (·.1))))
theorem each_vals : ∀ {ps : List (V × PyData)} {us : List Value}, Vals (ps.map (·.1)) us → PySem.W.EachIs (fun u (p : V × PyData) => RelV p.1 u) us ps
  | [], _, r => by cases r; exact .nil
  | p :: ps, _, r => by
    rw [List.map_cons] at r
    cases r with
    | cons a t => exact .cons a (each_vals t)
theorem vals_each : ∀ {ps : List (V × PyData)} {us : List Value}, PySem.W.EachIs (fun u (p : V × PyData) => RelV p.1 u) us ps → Vals (ps.map (·.1)) us
  | _, _, .nil => .nil
  | _, _, .cons a t => .cons a (vals_each t)
theorem each_reads {X : Cx} {pins : List (Addr × Obj)} {σ : L2.St} {H : Hp} {s : Shared} (I : Inv X pins σ H s) : ∀ {ps : List (V × PyData)} {us : List Value}, PySem.W.EachIs (fun u (p : V × PyData) => RelV p.1 u) us ps → (∀ p ∈ ps, Dp X.K H p.1 p.2) → PySem.W.EachIs (fun u (p : V × PyData) => ∃ as, Reads s.heap u p.2 as) us ps
  | _, _, .nil, _ => .nil
  | _, _, .cons a t, h => .cons (Dp.reads I _ _ _ (h _ List.mem_cons_self) a) (each_reads I t fun p hp => h p (List.mem_cons_of_mem _ hp))
theorem cr_sortedDt {X : Cx} (hu : X.A.units + 64 < cLine) : CallR X (.builtin "sorted") (rSortedDt X.K) := by
  intro pins s σ H vs us Q I r h
  obtain ⟨a, ps, rfl, hs, hd, hal, hk, hdp, q⟩ := h
  obtain ⟨its, rv, hl, hz⟩ := I.list hs
  obtain ⟨u, rfl, ru⟩ := vals1 r
  obtain rfl : u = Value.ref a := ru
  have e := each_vals rv
  have hlen : ps.length ≤ sizeLine := by rw [← List.length_map (f := (·.1))]; exact hz
  refine PySem.W.sorted_data (bs := ps) (enc := (·.2)) (R := fun u p => RelV p.1 u) hl.isList e (each_reads I e hd) hal hk hlen (fun b hb => by have := hdp b hb; omega) fun out hl' hout => ?_
  have hv := vals_each hout
  obtain ⟨n, hn⟩ := sortedAll_at s.heap its out.toArray
  refine ⟨.ref (s.heap.objs.size + 1), upd H (s.heap.objs.size + 1) (.lst ((ps.mergeSort (PySem.W.dataLe false (·.2))).map (·.1))), I.laid (t' := s.toks) (fun b o e => sortedAll_old e) (Nat.le_succ _) ⟨?_, out, n, hv, hn⟩, rfl, q _ (I.hok.fresh (Nat.le_succ _))⟩
  rw [List.length_map, List.length_mergeSort]
  exact hlen
/-! ### the order of data -/
mutual
theorem alk_py : ∀ (a b : D), alk a b = true → PySem.W.alike (toPy a) (toPy b) = true
  | .bl _, .bl _, _ => by simp [toPy, PySem.W.alike]
  | .int _, .int _, _ => by simp [toPy, PySem.W.alike]
  | .str _, .str _, _ => by simp [toPy, PySem.W.alike]
  | .non, .non, _ => by simp [toPy, PySem.W.alike]
  | .tup xs, .tup ys, h => by
    simp only [toPy, PySem.W.alike]
    exact alks_py xs ys h
theorem alks_py : ∀ (a b : List D), alks a b = true → PySem.W.alikeAll (toPys a) (toPys b) = true
  | [], b, _ => by cases b <;> simp [toPys, PySem.W.alikeAll]
  | _ :: _, [], _ => by simp [toPys, PySem.W.alikeAll]
  | x :: xs, y :: ys, h => by
    have h : (alk x y && alks xs ys) = true := h
    rw [Bool.and_eq_true] at h
    simp only [toPys, PySem.W.alikeAll, alk_py x y h.1, alks_py xs ys h.2, Bool.and_self]
end
mutual
theorem lt_py : ∀ (a b : D) (r : Bool), alk a b = true → plain a = true → plain b = true → ltD a b = some r → PySem.W.dataLt (toPy a) (toPy b) = r
  | .int i, .int j, r, _, _, _, h => by cases h; simp only [toPy]; exact PySem.W.dataLt_int i j
  | .str i, .str j, r, _, _, _, h => by cases h; simp only [toPy]; exact PySem.W.dataLt_str i j
  | .tup xs, .tup ys, r, h, pa, pb, e => by
    simp only [toPy]
    rw [PySem.W.dataLt_tuple]
    exact lts_py xs ys r h pa pb e
  | .bl _, .bl _, _, _, _, _, h => by cases h
  | .non, .non, _, _, _, _, h => by cases h
theorem lts_py : ∀ (a b : List D) (r : Bool), alks a b = true → plains a = true → plains b = true → ltDs a b = some r → PyProof.Rows.lexLt PyProof.Rows.itemOrd (PySem.W.keyToksAll (toPys a)) (PySem.W.keyToksAll (toPys b)) = r
  | [], [], r, _, _, _, h => by cases h; exact PyProof.Rows.lex_irrefl _
  | [], y :: ys, r, _, _, _, h => by
    cases h
    simp only [toPys, PySem.W.toks_all_cons, PySem.W.keyToksAll]
    rw [PyProof.Rows.lex_diff (O := PyProof.Rows.itemOrd) (by simp)]
    simp [PyProof.Rows.itemLt]
  | x :: xs, [], r, _, _, _, h => by
    cases h
    simp only [toPys, PySem.W.toks_all_cons, PySem.W.keyToksAll]
    rw [PyProof.Rows.lex_diff (O := PyProof.Rows.itemOrd) (by simp)]
    simp [PyProof.Rows.itemLt]
  | x :: xs, y :: ys, r, h, pa, pb, e => by
    have h : (alk x y && alks xs ys) = true := h
    have pa : (plain x && plains xs) = true := pa
    have pb : (plain y && plains ys) = true := pb
    rw [Bool.and_eq_true] at h pa pb
    simp only [toPys]
    rw [PySem.W.dataLt_cons (alk_py x y h.1), eqv_py x y pa.1 pb.1]
    have e : (if eqv x y then ltDs xs ys else ltD x y) = some r := e
    by_cases q : eqv x y = true
    · rw [if_pos q] at e ⊢
      exact lts_py xs ys r h.2 pa.2 pb.2 e
    · rw [if_neg q] at e ⊢
      exact lt_py x y r h.1 pa.1 pb.1 e
end
theorem plains_all : ∀ {ds : List D}, plains ds = true → ∀ d ∈ ds, plain d = true
  | [], _, _, h => nomatch h
  | x :: xs, p, d, h => by
    have p : (plain x && plains xs) = true := p
    rw [Bool.and_eq_true] at p
    rcases List.mem_cons.mp h with rfl | h
    · exact p.1
    · exact plains_all p.2 d h
theorem drs_zip {L : Lk} {G : Hp} : ∀ {xs : List V} {ds : List D}, Drs L G xs ds → ∀ z ∈ xs.zip ds, Dr L G z.1 z.2
  | _, _, .nil, _, h => nomatch h
  | _, _, .cons a t, z, h => by
    rw [List.zip_cons_cons] at h
    rcases List.mem_cons.mp h with rfl | h
    · exact a
    · exact drs_zip t z h
theorem zip_drs {L : Lk} {G : Hp} : ∀ {zs : List (V × D)}, (∀ z ∈ zs, Dr L G z.1 z.2) → Drs L G (zs.map (·.1)) (zs.map (·.2))
  | [], _ => .nil
  | z :: zs, h => .cons (h z List.mem_cons_self) (zip_drs fun y hy => h y (List.mem_cons_of_mem _ hy))
theorem sort_data {L : Lk} {G H : Hp} {xs : List V} {ds : List D} {a : Addr} {Q : VK} (hg : Evl.Ex G H) (hs : SqL L.K H a xs) (t : Drs L G xs ds) (ok : sortOk ds = true) (q : ∀ p ys, H p = none → Drs L G ys (ds.mergeSort leB) → Q (.ref p) (upd H p (.lst ys))) : rSortedDt L.K [.ref a] H Q := by
  unfold sortOk at ok
  simp only [Bool.and_eq_true] at ok
  obtain ⟨o1, o2, o3, o4, o5⟩ := ok
  have hl := drs_len t
  have hz := drs_zip t
  have mm : ∀ z ∈ xs.zip ds, z.2 ∈ ds := fun z h => (List.of_mem_zip h).2
  have e1 : (xs.zip ds).map (·.1) = xs := List.map_fst_zip (Nat.le_of_eq hl)
  have e2 : (xs.zip ds).map (·.2) = ds := List.map_snd_zip (Nat.le_of_eq hl.symm)
  have pl := fun z h => plains_all o2 _ (mm z h)
  have alk2 : ∀ a ∈ ds, ∀ b ∈ ds, alk a b = true := fun a ha b hb => List.all_eq_true.mp (List.all_eq_true.mp o4 a ha) b hb
  have ord : ∀ z ∈ xs.zip ds, ∀ z' ∈ xs.zip ds, leB z.2 z'.2 = PySem.W.dataLe false (fun p : V × PyData => p.2) ((fun z : V × D => (z.1, toPy z.2)) z) ((fun z : V × D => (z.1, toPy z.2)) z') := fun z h z' h' => by
    rw [PySem.W.dataLe_eq]
    show (!ltB z'.2 z.2) = !PySem.W.dataLt (toPy z'.2) (toPy z.2)
    obtain ⟨r, hr⟩ := Option.isSome_iff_exists.mp (List.all_eq_true.mp (List.all_eq_true.mp o3 _ (mm z' h')) _ (mm z h))
    rw [lt_py _ _ r (alk2 _ (mm z' h') _ (mm z h)) (pl z' h') (pl z h) hr]
    unfold ltB
    rw [hr]; rfl
  have s1 := PySem.W.sort_maps (fun z : V × D => (z.1, toPy z.2)) ord
  have s2 : ((xs.zip ds).mergeSort fun z z' => leB z.2 z'.2).map (·.2) = ds.mergeSort leB := by
    have := PySem.W.sort_maps (fun z : V × D => z.2) (l := xs.zip ds) (r := fun z z' => leB z.2 z'.2) (s := leB) fun _ _ _ _ => rfl
    rw [e2] at this
    exact this
  refine ⟨a, (xs.zip ds).map fun z => (z.1, toPy z.2), rfl, ?_, ?_, ?_, ?_, ?_, fun p hp => ?_⟩
  · rw [List.map_map]
    show SqL L.K H a ((xs.zip ds).map (·.1))
    rw [e1]; exact hs
  · intro p hp
    obtain ⟨z, hz', rfl⟩ := List.mem_map.mp hp
    exact dr_dp z.2 (dr_ex hg (hz z hz')) (pl z hz')
  · intro d hd d' hd'
    rw [List.map_map] at hd hd'
    obtain ⟨z, h, rfl⟩ := List.mem_map.mp hd
    obtain ⟨z', h', rfl⟩ := List.mem_map.mp hd'
    exact alk_py _ _ (alk2 _ (mm z h) _ (mm z' h'))
  · refine .inl fun d hd => ?_
    rw [List.map_map] at hd
    obtain ⟨z, h, rfl⟩ := List.mem_map.mp hd
    have o := List.all_eq_true.mp o1 _ (mm z h)
    obtain ⟨x, r, e⟩ : ∃ x r, z.2 = .tup (x :: r) := by
      revert o
      cases z.2 <;> intro o <;> first | (cases o; done) | skip
      rename_i l
      cases l with
      | nil => cases o
      | cons x r => exact ⟨x, r, rfl⟩
    exact ⟨toPy x, toPys r, by simp only [Function.comp, e, toPy, toPys]⟩
  · intro p hp
    obtain ⟨z, hz', rfl⟩ := List.mem_map.mp hp
    have := of_decide_eq_true (List.all_eq_true.mp o5 _ (mm z hz'))
    show (toPy z.2).depth ≤ 60
    rw [depth_py _ (pl z hz')]
    exact this
  · rw [← s1, List.map_map]
    refine q p _ hp ?_
    rw [← s2]
    exact zip_drs (zs := (xs.zip ds).mergeSort fun z z' => leB z.2 z'.2) fun z hm => hz z (List.mem_mergeSort.mp hm)
/-! ### sorted of texts -/
theorem ltCps_lt : ∀ l m : List Nat, ltCps l m = decide (l < m)
  | [], [] => by simp [ltCps]
  | [], _ :: _ => by simp [ltCps]
  | _ :: _, [] => by simp [ltCps]
  | a :: r, b :: t => by
    rw [ltCps, ltCps_lt r t]
    rw [Bool.eq_iff_iff]
    simp [List.cons_lt_cons_iff]
def leS (a b : Str) : Bool := !decide (b.cps.toList < a.cps.toList)
theorem leS_le {a b : Str} : leS a b = true ↔ a.cps.toList ≤ b.cps.toList := by
  unfold leS
  rw [Bool.not_eq_true', decide_eq_false_iff_not, List.not_lt]
theorem leS_trans (a b c : Str) (h1 : leS a b = true) (h2 : leS b c = true) : leS a c = true := leS_le.mpr (List.le_trans (leS_le.mp h1) (leS_le.mp h2))
theorem leS_total (a b : Str) : (leS a b || leS b a) = true := by
  rw [Bool.or_eq_true, leS_le, leS_le]
  exact List.le_total _ _
theorem leS_anti (a b : Str) (h1 : leS a b = true) (h2 : leS b a = true) : a = b := by
  have e := List.le_antisymm (leS_le.mp h1) (leS_le.mp h2)
  exact PySem.W.str_of_cps e
theorem rising_pw : ∀ (p : Str) (l : List Str), risingS p l = true → (p :: l).Pairwise fun a b => leS a b = true
  | p, [], _ => List.pairwise_singleton _ _
  | p, x :: r, h => by
    have h : (!ltCps x.cps.toList p.cps.toList && risingS x r) = true := h
    rw [Bool.and_eq_true, Bool.not_eq_true', ltCps_lt] at h
    have ih := rising_pw x r h.2
    have h1 : leS p x = true := by unfold leS; rw [h.1]; rfl
    refine List.pairwise_cons.mpr ⟨fun y hy => ?_, ih⟩
    rcases List.mem_cons.mp hy with rfl | hy
    · exact h1
    · exact leS_trans _ _ _ h1 ((List.pairwise_cons.mp ih).1 y hy)
theorem sortedS_pw {l : List Str} (h : sortedS l = true) : l.Pairwise fun a b => leS a b = true := by
  cases l with
  | nil => exact .nil
  | cons x r => exact rising_pw x r h
theorem sortS_map (ns : List Str) : (ns.map D.str).mergeSort leB = (ns.mergeSort leS).map D.str := by
  refine (PySem.W.sort_maps D.str (r := leS) (s := leB) fun a _ b _ => ?_).symm
  show leS a b = !(some (decide (b.cps.toList < a.cps.toList))).getD false
  rfl
theorem sort_strs {ys ns : List Str} (hp : ys.Perm ns) (hs : sortedS ys = true) : (ns.map D.str).mergeSort leB = ys.map D.str := by
  rw [sortS_map]
  have h1 : (ns.mergeSort leS).Pairwise fun a b => leS a b = true := List.pairwise_mergeSort leS_trans leS_total ns
  have h2 : (ns.mergeSort leS).Perm ys := (List.mergeSort_perm ns leS).trans hp.symm
  rw [List.Perm.eq_of_pairwise (fun a b _ _ => leS_anti a b) h1 (sortedS_pw hs) h2]
theorem drs_strs {L : Lk} : ∀ {G : Hp} {xs : List V} {ds : List D} {ns : List Str}, Drs L G xs ds → strL ds = some ns → xs = ns.map V.str ∧ ds = ns.map D.str
  | _, _, _, _, .nil, h => by cases h; exact ⟨rfl, rfl⟩
  | G, _, _, ns, .cons (d := d) a t, h => by
    obtain ⟨b, r, h1, h2, rfl⟩ := mapO_cons_some h
    cases d <;> first | (cases h1; done) | skip
    cases h1
    obtain ⟨e1, e2⟩ := drs_strs t h2
    rw [dr_str a, e1, e2]
    exact ⟨rfl, rfl⟩
theorem strs_drs {L : Lk} {G : Hp} : ∀ l : List Str, Drs L G (l.map V.str) (l.map D.str)
  | [] => .nil
  | x :: l => .cons (.str x) (strs_drs l)
theorem keys_strs : ∀ {ks : List Key} {ns : List Str}, strL (ks.map kD) = some ns → ks = ns.map Sum.inr ∧ ks.map kD = ns.map D.str
  | [], _, h => by cases h; exact ⟨rfl, rfl⟩
  | k :: ks, _, h => by
    rw [List.map_cons] at h
    obtain ⟨b, r, h1, h2, rfl⟩ := mapO_cons_some h
    obtain ⟨e1, e2⟩ := keys_strs h2
    cases k with
    | inl i => cases h1
    | inr s => cases h1; exact ⟨by rw [e1]; rfl, by rw [List.map_cons, e2]; rfl⟩
end Mp
end
section
set_option Elab.async false
set_option linter.all false
set_option maxRecDepth 100000
set_option maxHeartbeats 2000000
namespace Mp
open PySem L2 PySem.Spec PyProof.Rows
open Evl (Ex ex_l ex_t fresh_back)
/-! ### built-ins -/
abbrev CR1 : Type := List V → Hp → VK → Prop
def rLen (K : PySem.W.Frag) : CR1 := fun xs H Q => (∃ p ys, xs = [.ref p] ∧ (SqL K H p ys ∨ SqT K H p ys) ∧ Q (.int ys.length) H) ∨ ∃ z, xs = [.str z] ∧ z.length ≤ sizeLine ∧ Q (.int z.length) H
def rAbs : CR1 := fun xs H Q => ∃ i, xs = [.int i] ∧ Q (.int (if i < 0 then -i else i)) H
def rInt : CR1 := fun xs H Q => (∃ i, xs = [.int i] ∧ Q (.int i) H) ∨ ∃ k, xs = [.bl k] ∧ Q (.int (if k then 1 else 0)) H
def rStr : CR1 := fun xs H Q => (∃ i, xs = [.int i] ∧ i.natAbs.log2 < 1920 ∧ Q (.str (toString i)) H)
def rTup1 (K : PySem.W.Frag) : CR1 := fun xs H Q => ∃ p ys, xs = [.ref p] ∧ ((SqL K H p ys ∧ ∀ l, H l = none → Q (.ref l) (upd H l (.tup ys))) ∨ (SqT K H p ys ∧ Q (.ref p) H))
def rLst1 (K : PySem.W.Frag) : CR1 := fun xs H Q => ∃ p ys, xs = [.ref p] ∧ (SqL K H p ys ∨ SqT K H p ys) ∧ ∀ l, H l = none → Q (.ref l) (upd H l (.lst ys))
def rMx2 : CR1 := fun xs H Q => ∃ i j, xs = [.int i, .int j] ∧ Q (.int (if j > i then j else i)) H
def rMn2 : CR1 := fun xs H Q => ∃ i j, xs = [.int i, .int j] ∧ Q (.int (if j < i then j else i)) H
/-- what a built-in is called, what it is -/
def bName : Blt → Option (Str × Value)
  | .len => some ("len", .builtin "len")
  | .abs => some ("abs", .builtin "abs")
  | .int => some ("int", .type "int")
  | .str => some ("str", .type "str")
  | .tuple => some ("tuple", .type "tuple")
  | .list => some ("list", .type "list")
  | .sum => some ("sum", .builtin "sum")
  | .min1 => some ("min", .builtin "min")
  | .max1 => some ("max", .builtin "max")
  | .min2 => some ("min", .builtin "min")
  | .max2 => some ("max", .builtin "max")
  | .all => some ("all", .builtin "all")
  | .any => some ("any", .builtin "any")
  | .sorted => some ("sorted", .builtin "sorted")
  | _ => none
def bCalm : Blt → Bool
  | .sum | .min1 | .max1 | .min2 | .max2 | .all | .any | .sorted => true
  | _ => false
def rSortedDk : CR1 := fun xs H Q => ∃ (a : Addr) (kvs : List (Key × V)) (ks : List Str), xs = [.ref a] ∧ Rd H a (.dK kvs) ∧ kvs.map (·.1) = ks.map Sum.inr ∧ ks.length < 64 ∧
  ∀ ys p, ys.Perm ks → sortedS ys = true → H p = none → Q (.ref p) (upd H p (.lst (ys.map V.str)))
def rBlt (K : PySem.W.Frag) : Blt → CR1
  | .len => rLen K
  | .abs => rAbs
  | .int => rInt
  | .str => rStr
  | .tuple => rTup1 K
  | .list => rLst1 K
  | .sum => rSum K
  | .min1 => rMin K
  | .max1 => rMax K
  | .min2 => rMn2
  | .max2 => rMx2
  | .all => rAll K
  | .any => rAny K
  | .sorted => fun xs H Q => rSortedI K xs H Q ∨ (rSortedDt K xs H Q ∨ (rSortedS K xs H Q ∨ (rSortedDk xs H Q ∨ rSortedTt K xs H Q)))
  | _ => fun _ _ _ => False
theorem call_blt {X : Cx} : ∀ {b : Blt} {x : Str} {f : Value}, bName b = some (x, f) → (bCalm b = true → X.calm = true) → (bCalm b = true → X.A.units + 64 < cLine) → CallR X f (rBlt X.K b) := fun {b x f} h hc hu => by
  cases b <;> first
    | (cases h; exact call_len_seq.or call_len_str)
    | (cases h; exact call_abs)
    | (cases h; exact call_int1)
    | (cases h; exact call_str_int)
    | (cases h; exact call_tuple_of)
    | (cases h; exact call_list_of)
    | (cases h; exact cr_sum (hc rfl))
    | (cases h; exact cr_min (hc rfl))
    | (cases h; exact cr_max (hc rfl))
    | (cases h; exact call_min2 (hc rfl))
    | (cases h; exact call_max2 (hc rfl))
    | (cases h; exact cr_all (hc rfl))
    | (cases h; exact cr_any (hc rfl))
    | (cases h; exact cr_sortedI.or ((cr_sortedDt (hu rfl)).or (cr_sortedS.or ((call_sortedD (hc rfl)).or cr_sortedTt))))
    | (cases h; done)
section
variable {L : Lk} {X : Ext} {E : XK} {G H : Hp} {ι : Iot} {μ : Heap} {Q : VK} {ws : List V} {vs : List Val} {T : Tbl}
theorem vrs_1 {v : Val} (r : VRs L X G ι ws [v]) : ∃ w, ws = [w] ∧ VR L X G ι w v := by
  cases r with
  | cons a t => cases t; exact ⟨_, rfl, a⟩
theorem vrs_2 {v u : Val} (r : VRs L X G ι ws [v, u]) : ∃ w y, ws = [w, y] ∧ VR L X G ι w v ∧ VR L X G ι y u := by
  cases r with
  | cons a t =>
    cases t with
    | cons b t =>
      cases t
      exact ⟨_, _, rfl, a, b⟩
theorem drs_ints : ∀ {G : Hp} {xs : List V} {ds : List D} {ns : List Int}, Drs L G xs ds → intL ds = some ns → xs = ns.map V.int ∧ ds = ns.map D.int
  | _, _, _, _, .nil, h => by cases h; exact ⟨rfl, rfl⟩
  | G, _, _, ns, .cons (d := d) a t, h => by
    obtain ⟨b, r, h1, h2, rfl⟩ := mapO_cons_some h
    cases d <;> first | (cases h1; done) | skip
    cases h1
    obtain ⟨e1, e2⟩ := drs_ints t h2
    rw [dr_int a, e1, e2]
    exact ⟨rfl, rfl⟩
theorem drs_bools : ∀ {G : Hp} {xs : List V} {ds : List D} {ns : List Bool}, Drs L G xs ds → boolL ds = some ns → xs = ns.map V.bl
  | _, _, _, _, .nil, h => by cases h; rfl
  | G, _, _, ns, .cons (d := d) a t, h => by
    obtain ⟨b, r, h1, h2, rfl⟩ := mapO_cons_some h
    cases d <;> first | (cases h1; done) | skip
    cases h1
    rw [dr_bl a, drs_bools t h2]
    rfl
theorem maxL_ok {a : Int} : ∀ {ns : List Int}, ns.foldl (fun m x => if x > m then x else m) a ∈ a :: ns ∧ ∀ y ∈ a :: ns, y ≤ ns.foldl (fun m x => if x > m then x else m) a
  | [] => ⟨List.mem_cons_self, fun y hy => by rw [List.mem_singleton.mp hy]; exact Int.le_refl _⟩
  | n :: ns => by
    show ns.foldl _ (if n > a then n else a) ∈ _ ∧ ∀ y ∈ a :: n :: ns, y ≤ ns.foldl _ (if n > a then n else a)
    by_cases h : n > a
    · rw [if_pos h]
      obtain ⟨h1, h2⟩ := maxL_ok (a := n) (ns := ns)
      refine ⟨List.mem_cons_of_mem _ h1, fun y hy => ?_⟩
      rcases List.mem_cons.mp hy with rfl | hy
      · have := h2 n List.mem_cons_self; omega
      · exact h2 y hy
    · rw [if_neg h]
      obtain ⟨h1, h2⟩ := maxL_ok (a := a) (ns := ns)
      refine ⟨?_, fun y hy => ?_⟩
      · rcases List.mem_cons.mp h1 with e | e
        · rw [e]; exact List.mem_cons_self
        · exact List.mem_cons_of_mem _ (List.mem_cons_of_mem _ e)
      · rcases List.mem_cons.mp hy with rfl | hy
        · exact h2 _ List.mem_cons_self
        · rcases List.mem_cons.mp hy with rfl | hy
          · have := h2 a List.mem_cons_self; omega
          · exact h2 y (List.mem_cons_of_mem _ hy)
theorem minL_ok {a : Int} : ∀ {ns : List Int}, ns.foldl (fun m x => if x < m then x else m) a ∈ a :: ns ∧ ∀ y ∈ a :: ns, ns.foldl (fun m x => if x < m then x else m) a ≤ y
  | [] => ⟨List.mem_cons_self, fun y hy => by rw [List.mem_singleton.mp hy]; exact Int.le_refl _⟩
  | n :: ns => by
    show ns.foldl _ (if n < a then n else a) ∈ _ ∧ ∀ y ∈ a :: n :: ns, ns.foldl _ (if n < a then n else a) ≤ y
    by_cases h : n < a
    · rw [if_pos h]
      obtain ⟨h1, h2⟩ := minL_ok (a := n) (ns := ns)
      refine ⟨List.mem_cons_of_mem _ h1, fun y hy => ?_⟩
      rcases List.mem_cons.mp hy with rfl | hy
      · have := h2 n List.mem_cons_self; omega
      · exact h2 y hy
    · rw [if_neg h]
      obtain ⟨h1, h2⟩ := minL_ok (a := a) (ns := ns)
      refine ⟨?_, fun y hy => ?_⟩
      · rcases List.mem_cons.mp h1 with e | e
        · rw [e]; exact List.mem_cons_self
        · exact List.mem_cons_of_mem _ (List.mem_cons_of_mem _ e)
      · rcases List.mem_cons.mp hy with rfl | hy
        · exact h2 _ List.mem_cons_self
        · rcases List.mem_cons.mp hy with rfl | hy
          · have := h2 a List.mem_cons_self; omega
          · exact h2 y (List.mem_cons_of_mem _ hy)
/-- insertion by <, of intL -/
def insI (x : Int) : List Int → List Int
  | [] => [x]
  | y :: r => if x < y then x :: y :: r else y :: insI x r
theorem insI_perm (x : Int) : ∀ l, (insI x l).Perm (x :: l)
  | [] => .refl _
  | y :: r => by
    unfold insI
    split
    · exact .refl _
    · exact ((insI_perm x r).cons y).trans (.swap x y r)
theorem insI_sorted {x : Int} : ∀ {l : List Int}, l.Pairwise (· ≤ ·) → (insI x l).Pairwise (· ≤ ·)
  | [], _ => List.pairwise_singleton _ _
  | y :: r, h => by
    rw [List.pairwise_cons] at h
    unfold insI
    split
    · rename_i hxy
      rw [List.pairwise_cons]
      refine ⟨fun z hz => ?_, List.pairwise_cons.mpr h⟩
      rcases List.mem_cons.mp hz with rfl | hz
      · omega
      · have := h.1 z hz; omega
    · rename_i hxy
      rw [List.pairwise_cons]
      refine ⟨fun z hz => ?_, insI_sorted h.2⟩
      rcases List.mem_cons.mp ((insI_perm x r).mem_iff.mp hz) with rfl | hz
      · omega
      · exact h.1 z hz
theorem insD_int (x : Int) : ∀ l : List Int, insD ltB (.int x) (l.map D.int) = (insI x l).map D.int
  | [] => rfl
  | y :: r => by
    show (if ltB (.int x) (.int y) then _ else _) = _
    unfold insI
    have e : ltB (.int x) (.int y) = decide (x < y) := rfl
    rw [e]
    by_cases h : x < y
    · rw [if_pos h, if_pos (by rw [decide_eq_true h])]; rfl
    · rw [if_neg h, if_neg (by rw [decide_eq_false h]; exact Bool.false_ne_true), insD_int x r]; rfl
theorem sortD_int (ns : List Int) : ∃ ms : List Int, sortD ltB (ns.map D.int) = ms.map D.int ∧ ms.Perm ns ∧ ms.Pairwise (· ≤ ·) := by
  have go : ∀ (ns acc : List Int), acc.Pairwise (· ≤ ·) → ∃ ms : List Int, (ns.map D.int).foldl (fun acc x => insD ltB x acc) (acc.map D.int) = ms.map D.int ∧ ms.Perm (ns ++ acc) ∧ ms.Pairwise (· ≤ ·) := by
    intro ns
    induction ns with
    | nil => intro acc h; exact ⟨acc, rfl, .refl _, h⟩
    | cons n ns ih =>
      intro acc h
      obtain ⟨ms, h1, h2, h3⟩ := ih (insI n acc) (insI_sorted h)
      refine ⟨ms, ?_, h2.trans (((insI_perm n acc).append_left ns).trans List.perm_middle), h3⟩
      rw [List.map_cons, List.foldl_cons, insD_int]
      exact h1
  obtain ⟨ms, h1, h2, h3⟩ := go ns [] List.Pairwise.nil
  exact ⟨ms, h1, by rw [List.append_nil] at h2; exact h2, h3⟩
theorem perm_uniq {xs ys : List Int} (h : xs.Perm ys) (h1 : xs.Pairwise (· ≤ ·)) (h2 : ys.Pairwise (· ≤ ·)) : xs = ys :=
  List.Perm.eq_of_pairwise (le := fun a b => decide (a ≤ b)) (fun a b _ _ p q => Int.le_antisymm (of_decide_eq_true p) (of_decide_eq_true q)) (h1.imp fun h => decide_eq_true h) (h2.imp fun h => decide_eq_true h) h
/-- what .blt leads to -/
theorem blt_cases {b : Blt} {w : Bool} (q : Post L E (RvV L X) G H ι μ Q (match bltD T b vs μ with
      | some d => .ok (.d d) μ
      | none => match bltL b vs μ with
        | some ws => newL w ws μ
        | none => match bltK b vs μ with
          | some kvs => newD w kvs μ
          | none => .bad)) : (∃ d, bltD T b vs μ = some d ∧ Post L E (RvV L X) G H ι μ Q (.ok (.d d) μ)) ∨ (bltD T b vs μ = none ∧ ((∃ us, bltL b vs μ = some us ∧ Post L E (RvV L X) G H ι μ Q (newL w us μ)) ∨ ∃ kvs, bltK b vs μ = some kvs)) := by
  split at q
  · rename_i d h; exact .inl ⟨d, h, q⟩
  · rename_i h
    split at q
    · rename_i us h2; exact .inr ⟨h, .inl ⟨us, h2, q⟩⟩
    · split at q
      · rename_i kvs h3; exact .inr ⟨h, .inr ⟨kvs, h3⟩⟩
      · exact q.elim
theorem one_of {α : Type} {f : Val → Option α} {d : α} {k : List Val → Option α} (h : k vs = some d) (h0 : ∀ us, k us = some d → ∃ v, us = [v]) : ∃ v, vs = [v] := h0 vs h
end
/-- the shape of a list of one, of two -/
theorem shape1 {α : Type} {vs : List α} (h0 : vs ≠ []) (h2 : ∀ a b r, vs ≠ a :: b :: r) : ∃ v, vs = [v] := by
  cases vs with
  | nil => exact absurd rfl h0
  | cons a r => cases r with
    | nil => exact ⟨a, rfl⟩
    | cons b r => exact absurd rfl (h2 a b r)
section
variable {L : Lk} {X : Ext} {E : XK} {G H : Hp} {ι : Iot} {μ : Heap} {Q : VK} {ws : List V} {vs : List Val} {T : Tbl} {b : Blt} {w : Bool}
theorem itemsI (h : HR L G H ι μ) {x : V} {v : Val} (r : VR L X G ι x v) {ds : List D} (e : itemsD μ v = some ds) (hl : isL μ v = true) {ns : List Int} (hn : intL ds = some ns) : ∃ a, x = .ref a ∧ SqL L.K H a (ns.map V.int) ∧ ds = ns.map D.int := by
  obtain ⟨a, xs, rfl, s, t⟩ := h.itemsD r e
  obtain ⟨e1, e2⟩ := drs_ints t hn
  rw [e1] at s
  exact ⟨a, rfl, sqa_l s hl, e2⟩
theorem itemsB (h : HR L G H ι μ) {x : V} {v : Val} (r : VR L X G ι x v) {ds : List D} (e : itemsD μ v = some ds) (hl : isL μ v = true) {ns : List Bool} (hn : boolL ds = some ns) : ∃ a, x = .ref a ∧ SqL L.K H a (ns.map V.bl) := by
  obtain ⟨a, xs, rfl, s, t⟩ := h.itemsD r e
  rw [drs_bools t hn] at s
  exact ⟨a, rfl, sqa_l s hl⟩
theorem items_t {v : Val} {us : List Val} (h : items μ v = some us) (e : isL μ v = false) : ∃ ds, v = .d (.tup ds) ∧ us = ds.map .d := by
  cases v with
  | d x =>
    cases x with
    | lst ds => cases e
    | tup ds => cases h; exact ⟨ds, rfl, rfl⟩
    | _ => cases h
  | ref i =>
    rw [items_l h fun ds z => by cases z] at e
    cases e
  | clo f c => cases h
  | exn x => cases h
theorem itemsD_t {v : Val} {ds : List D} (h : itemsD μ v = some ds) (e : isL μ v = false) : v = .d (.tup ds) := by
  unfold itemsD at h
  split at h
  · rename_i us hu
    obtain ⟨ds', rfl, rfl⟩ := items_t hu e
    have := snaps0 h
    have e2 : ds' = ds := by
      have h3 : (ds'.map Val.d).map (fun v => match v with | .d x => x | _ => D.non) = (ds.map Val.d).map (fun v => match v with | .d x => x | _ => D.non) := by rw [this]
      rw [List.map_map, List.map_map] at h3
      have id1 : ((fun v : Val => match v with | .d x => x | _ => D.non) ∘ Val.d) = id := rfl
      rw [id1, List.map_id, List.map_id] at h3
      exact h3
    rw [e2]
  · cases h
theorem blt_ok (hn : (bName b).isSome = true) (h : HR L G H ι μ) (r : VRs L X G ι ws vs) (q : Post L E (RvV L X) G H ι μ Q (match bltD T b vs μ with
      | some d => .ok (.d d) μ
      | none => match bltL b vs μ with
        | some ws => newL w ws μ
        | none => match bltK b vs μ with
          | some kvs => newD w kvs μ
          | none => .bad)) : rBlt L.K b ws H Q := by
  replace q := blt_cases q
  -- the arguments, one by one
  cases r with
  | nil => rcases q with ⟨d, e, q⟩ | ⟨_, ⟨us, e, q⟩ | ⟨kvs, e⟩⟩ <;> (cases b <;> first | (cases e; done) | (cases hn; done))
  | @cons x xs v vs rv rt =>
  cases rt with
  | nil =>
    rcases q with ⟨d, e, q⟩ | ⟨_, ⟨us, e, q⟩ | ⟨kvs, e⟩⟩
    · cases b <;> first | (cases e; done) | (cases hn; done) | (rcases v with x | _ | _ | _ <;> first | (cases e; done) | (cases x <;> cases e; done)) | skip
      case len =>
        by_cases hs : ∃ s, v = .d (.str s)
        · obtain ⟨s, rfl⟩ := hs
          have e : (if small s.length then some (D.int s.length) else none) = some d := e
          split at e
          · rename_i hz
            cases e
            rw [dr_str rv]
            exact .inr ⟨s, rfl, small_le hz, q.okD h (.int _)⟩
          · cases e
        · have e : (match items μ v with
              | some xs => some (D.int xs.length)
              | none => none) = some d := by
            rw [← e]
            cases v with
            | d x => cases x <;> first | rfl | (exact absurd ⟨_, rfl⟩ hs)
            | _ => rfl
          split at e
          · rename_i us hu
            cases e
            obtain ⟨a, ys, rfl, s, t⟩ := h.items rv hu
            exact .inl ⟨a, ys, rfl, s.or, by rw [vrs_len t]; exact q.okD h (.int _)⟩
          · cases e
      case abs =>
        cases v with
        | d x => cases x with
          | int i => cases e; rw [dr_int rv]; exact ⟨i, rfl, q.okD h (.int _)⟩
          | _ => cases e
        | _ => cases e
      case int =>
        cases v with
        | d x => cases x with
          | int i => cases e; rw [dr_int rv]; exact .inl ⟨i, rfl, q.okD h (.int _)⟩
          | bl i => cases e; rw [dr_bl rv]; exact .inr ⟨i, rfl, q.okD h (.int _)⟩
          | _ => cases e
        | _ => cases e
      case str =>
        cases v with
        | d x => cases x with
          | int i =>
            have e : (if i.natAbs.log2 < 1920 then some (D.str (Str.ofString (toString i))) else none) = some d := e
            split at e
            · rename_i hz
              cases e; rw [dr_int rv]; exact ⟨i, rfl, hz, q.okD h (.str _)⟩
            · cases e
          | _ => cases e
        | _ => cases e
      case tuple =>
        have e : (match itemsD μ v with
          | some ds => some (D.tup ds)
          | none => none) = some d := e
        split at e
        · rename_i ds hd
          cases e
          obtain ⟨a, ys, rfl, s, t⟩ := h.itemsD rv hd
          refine ⟨a, ys, rfl, ?_⟩
          cases hl : isL μ v with
          | true =>
            refine .inl ⟨sqa_l s hl, fun l hl => ?_⟩
            obtain ⟨h1, st⟩ := h.grow (p := l) (.tup ys) hl
            exact q.okS st h1 (show Dr _ _ _ _ from .tup (SqT.of upd_same) (drs_ex st.g t))
          | false =>
            have := itemsD_t hd hl
            subst this
            exact .inr ⟨s, q.ok h rv⟩
        · cases e
      case sum =>
        have e : (match itemsD μ v with
          | some ds => if isL μ v then (match intL ds with
            | some ns => some (D.int ns.sum)
            | none => none) else none
          | none => none) = some d := e
        split at e
        · rename_i ds hd
          split at e
          · rename_i hl
            split at e
            · rename_i ns hi
              cases e
              obtain ⟨a, rfl, s, _⟩ := itemsI h rv hd hl hi
              exact ⟨a, ns, rfl, s, q.okD h (.int _)⟩
            · cases e
          · cases e
        · cases e
      case min1 =>
        have e : (match itemsD μ v with
          | some ds => if isL μ v then (match intL ds with
            | some ns => (minL ns).map D.int
            | none => none) else none
          | none => none) = some d := e
        split at e
        · rename_i ds hd
          split at e
          · rename_i hl
            split at e
            · rename_i ns hi
              rw [Option.map_eq_some_iff] at e
              obtain ⟨k, ek, rfl⟩ := e
              obtain ⟨a, rfl, s, _⟩ := itemsI h rv hd hl hi
              cases ns with
              | nil => cases ek
              | cons n ns =>
                cases ek
                obtain ⟨m1, m2⟩ := minL_ok (a := n) (ns := ns)
                refine ⟨a, n :: ns, rfl, s, Nat.zero_lt_succ _, fun m h1 h2 => ?_⟩
                have : m = ns.foldl (fun m x => if x < m then x else m) n := Int.le_antisymm (h2 _ m1) (m2 _ h1)
                rw [this]
                exact q.okD h (.int _)
            · cases e
          · cases e
        · cases e
      case max1 =>
        have e : (match itemsD μ v with
          | some ds => if isL μ v then (match intL ds with
            | some ns => (maxL ns).map D.int
            | none => none) else none
          | none => none) = some d := e
        split at e
        · rename_i ds hd
          split at e
          · rename_i hl
            split at e
            · rename_i ns hi
              rw [Option.map_eq_some_iff] at e
              obtain ⟨k, ek, rfl⟩ := e
              obtain ⟨a, rfl, s, _⟩ := itemsI h rv hd hl hi
              cases ns with
              | nil => cases ek
              | cons n ns =>
                cases ek
                obtain ⟨m1, m2⟩ := maxL_ok (a := n) (ns := ns)
                refine ⟨a, n :: ns, rfl, s, Nat.zero_lt_succ _, fun m h1 h2 => ?_⟩
                have : m = ns.foldl (fun m x => if x > m then x else m) n := Int.le_antisymm (m2 _ h1) (h2 _ m1)
                rw [this]
                exact q.okD h (.int _)
            · cases e
          · cases e
        · cases e
      case all =>
        have e : (match itemsD μ v with
          | some ds => if isL μ v then (match boolL ds with
            | some ns => some (D.bl (ns.all id))
            | none => none) else none
          | none => none) = some d := e
        split at e
        · rename_i ds hd
          split at e
          · rename_i hl
            split at e
            · rename_i ns hi
              cases e
              obtain ⟨a, rfl, s⟩ := itemsB h rv hd hl hi
              exact ⟨a, ns, rfl, s, q.okD h (.bl _)⟩
            · cases e
          · cases e
        · cases e
      case any =>
        have e : (match itemsD μ v with
          | some ds => if isL μ v then (match boolL ds with
            | some ns => some (D.bl (ns.any id))
            | none => none) else none
          | none => none) = some d := e
        split at e
        · rename_i ds hd
          split at e
          · rename_i hl
            split at e
            · rename_i ns hi
              cases e
              obtain ⟨a, rfl, s⟩ := itemsB h rv hd hl hi
              exact ⟨a, ns, rfl, s, q.okD h (.bl _)⟩
            · cases e
          · cases e
        · cases e
    · cases b <;> first | (cases e; done) | (cases hn; done) | skip
      case list =>
        have e : items μ v = some us := e
        obtain ⟨a, ys, rfl, s, t⟩ := h.items rv e
        exact ⟨a, ys, rfl, s.or, fun p hp => q.newL h t hp⟩
      case sorted =>
        have e : (match itemsD μ v with
          | some ds => if isL μ v && (intL ds).isSome then some ((sortD ltB ds).map Val.d) else if isL μ v && sortOk ds then some ((ds.mergeSort leB).map Val.d) else if isL μ v && (strL ds).isSome && decide (ds.length < 64) then some ((ds.mergeSort leB).map Val.d) else if (!isL μ v) && (strL ds).isSome && decide (ds.length < 64) then some ((ds.mergeSort leB).map Val.d) else none
          | none => match pairs μ v with
            | some kvs => if (strL (kvs.map (·.1))).isSome && decide (kvs.length < 64) then some (((kvs.map (·.1)).mergeSort leB).map Val.d) else none
            | none => none) = some us := e
        split at e
        · rename_i ds hd
          split at e
          · rename_i hl
            cases e
            rw [Bool.and_eq_true] at hl
            obtain ⟨ns, hi⟩ := Option.isSome_iff_exists.mp hl.2
            obtain ⟨a, rfl, s, e2⟩ := itemsI h rv hd hl.1 hi
            refine .inl ⟨a, ns, rfl, s, fun ns' p hp hs hfree => ?_⟩
            obtain ⟨ms, e3, e4, e5⟩ := sortD_int ns
            have : ns' = ms := perm_uniq (hp.trans e4.symm) hs e5
            subst this
            rw [e2, e3] at q
            refine q.newL h ?_ hfree
            have dd : ∀ l : List Int, Drs L G (l.map V.int) (l.map D.int) := fun l => by
              induction l with
              | nil => exact .nil
              | cons a r ih => exact .cons (.int a) ih
            exact drs_v (dd ns')
          · split at e
            · rename_i hl
              cases e
              rw [Bool.and_eq_true] at hl
              obtain ⟨a, xs, rfl, s, t⟩ := h.itemsD rv hd
              exact .inr (.inl (sort_data h.gh (sqa_l s hl.1) t hl.2 fun p ys hp r => q.newL h (drs_v r) hp))
            · split at e
              · rename_i hl
                cases e
                rw [Bool.and_eq_true, Bool.and_eq_true, decide_eq_true_eq] at hl
                obtain ⟨a, xs, rfl, s, t⟩ := h.itemsD rv hd
                obtain ⟨ns, hi⟩ := Option.isSome_iff_exists.mp hl.1.2
                obtain ⟨e1, e2⟩ := drs_strs t hi
                subst e1 e2
                refine .inr (.inr (.inl ⟨a, ns, rfl, sqa_l s hl.1.1, by rw [List.length_map] at hl; exact hl.2, fun ys p hp hs hf => q.newL h ?_ hf⟩))
                rw [sort_strs hp hs]
                exact drs_v (strs_drs ys)
              · split at e
                · rename_i hl
                  cases e
                  rw [Bool.and_eq_true, Bool.and_eq_true, decide_eq_true_eq, Bool.not_eq_true'] at hl
                  obtain ⟨a, xs, rfl, s, t⟩ := h.itemsD rv hd
                  obtain ⟨ns, hi⟩ := Option.isSome_iff_exists.mp hl.1.2
                  obtain ⟨e1, e2⟩ := drs_strs t hi
                  subst e1 e2
                  unfold SqA at s
                  rw [hl.1.1, if_neg Bool.false_ne_true] at s
                  refine .inr (.inr (.inr (.inr ⟨a, ns, rfl, s, by rw [List.length_map] at hl; exact hl.2, fun ys p hp hs hf => q.newL h ?_ hf⟩)))
                  rw [sort_strs hp hs]
                  exact drs_v (strs_drs ys)
                · cases e
        · split at e
          · rename_i kvs hp
            split at e
            · rename_i hl
              cases e
              rw [Bool.and_eq_true, decide_eq_true_eq] at hl
              obtain ⟨ns, hi⟩ := Option.isSome_iff_exists.mp hl.1
              obtain ⟨a, ks, ws, vs, rfl, rfl, rd, hkl, t⟩ := h.pairs rv hp
              have hk : (((ks.map kD).zip vs).map (·.1)) = ks.map kD := List.map_fst_zip (by rw [List.length_map]; exact Nat.le_of_eq hkl)
              have hk2 : ((ks.zip ws).map (·.1)) = ks := List.map_fst_zip (by rw [vrs_len t]; exact Nat.le_of_eq hkl)
              rw [hk] at hi hl q
              obtain ⟨e1, e2⟩ := keys_strs hi
              refine .inr (.inr (.inr (.inl ⟨a, ks.zip ws, ns, rfl, rd, by rw [hk2]; exact e1, ?_, fun ys p hp hs hf => q.newL h ?_ hf⟩)))
              · have h1 : ((ks.map kD).zip vs).length = ks.length := by rw [List.length_zip, List.length_map, hkl, Nat.min_self]
                have h2 : ns.length = ks.length := by rw [e1, List.length_map]
                omega
              · rw [e2, sort_strs hp hs]
                exact drs_v (strs_drs ys)
            · cases e
          · cases e
    · cases b <;> first | (cases e; done) | (cases hn; done)
  | @cons x2 xs2 v2 vs2 rv2 rt2 =>
  cases rt2 with
  | nil =>
    rcases q with ⟨d, e, q⟩ | ⟨_, ⟨us, e, q⟩ | ⟨kvs, e⟩⟩
    · cases b <;> first | (cases hn; done) | (cases e; done) | (rcases v with x | _ | _ | _ <;> first | (cases e; done) | (cases x <;> cases e; done)) | skip
      case min2 =>
        cases v with
        | d x => cases x with
          | int i => cases v2 with
            | d x => cases x with
              | int j => cases e; rw [dr_int rv, dr_int rv2]; exact ⟨i, j, rfl, q.okD h (.int _)⟩
              | _ => cases e
            | _ => cases e
          | _ => cases e
        | _ => cases e
      case max2 =>
        cases v with
        | d x => cases x with
          | int i => cases v2 with
            | d x => cases x with
              | int j => cases e; rw [dr_int rv, dr_int rv2]; exact ⟨i, j, rfl, q.okD h (.int _)⟩
              | _ => cases e
            | _ => cases e
          | _ => cases e
        | _ => cases e
    · cases b <;> first | (cases hn; done) | (cases e; done)
    · cases b <;> first | (cases hn; done) | (cases e; done)
  | cons rv3 rt3 =>
    rcases q with ⟨d, e, q⟩ | ⟨_, ⟨us, e, q⟩ | ⟨kvs, e⟩⟩ <;> (cases b <;> first | (cases hn; done) | (cases e; done) | (rcases v with x | _ | _ | _ <;> first | (cases e; done) | (cases x <;> first | (cases e; done) | (rcases v2 with y | _ | _ | _ <;> first | (cases e; done) | (cases y <;> cases e; done)))))
end
end Mp
end
section
set_option Elab.async false
set_option linter.all false
set_option maxRecDepth 100000
set_option maxHeartbeats 2000000
/-! list.remove of data -/
namespace PySem.SeqAt
open AutoSeq1 (wpAny_loadPart')
open MeetsSeq MeetsSeq2 MeetsSeq3 SeqRoads2
theorem remove_loopAt (l : Addr) (items : Array Value) (n : Nat) (x : Value) (e : Nat → Bool) (j : Nat) (hj : j < items.size) (hit : e j = true) (k : Nat) (hs1 : items.size ≤ sizeLine) :
    ∀ i : Nat, j - i = k → i ≤ j → (∀ m, i ≤ m → m < j → e m = false) → Meets (Builtin.«list.remove.loop» ⟨[.ref l, x, rawInt i], []⟩)
      (fun A R s => s.heap.get? l = some { cls := .type "list", dict := none, data := .seq items n, slots := #[] } ∧ (∀ m (hm : m < items.size), EqAt A.in1 s items[m] x (e m)) ∧ R (.ok (.ret .none)) { s with heap := s.heap.update l (Obj.mapSeq fun xs => xs.eraseIdxIfInBounds j) }) := by
  induction k with
  | zero =>
    intro i hk hij hno prog w A R s h
    obtain ⟨hp, g, d, tk, os⟩ := s; obtain ⟨hl, he, h⟩ := h
    have hij' : i = j := by omega
    subst hij'
    wp_walk using wpAny_loadPart' hl
    have hi : items[((i : Nat) : Int).toNat]? = some items[i] := by simp [hj]
    rw [hi]
    refine wpAny_bind (he i hj prog w _ _ ?_)
    rw [hit]
    have hz' : (items.eraseIdxIfInBounds i).size ≤ sizeLine + 1 := Nat.le_trans (size_erased items _) (Nat.le_succ_of_le hs1)
    wp_walk using (wpAny_updateSeq hl rfl (hz := hs1) (_hz' := hz')), wpAny_loadPart' hl
    simpa using h
  | succ k ih =>
    intro i hk hij hno prog w A R s h
    obtain ⟨hp, g, d, tk, os⟩ := s; obtain ⟨hl, he, h⟩ := h
    have hlt : i < items.size := by omega
    wp_walk using wpAny_loadPart' hl
    have hi : items[((i : Nat) : Int).toNat]? = some items[i] := by simp [hlt]
    have hc : ((i : Int) + 1) = ((i + 1 : Nat) : Int) := by push_cast; rfl
    rw [hi]
    refine wpAny_bind (he i hlt prog w _ _ ?_)
    rw [hno i (Nat.le_refl _) (by omega)]
    wp_walk
    rw [hc]
    exact ⟨plainId_quiet plain_remove_loop _, codeAny_builtin entry_remove_loop (by
      rw [Around.under_plainId plain_remove_loop _]
      exact ih (i + 1) (by omega) (by omega) (fun m h1 h2 => hno m (by omega) h2) prog w A R _ ⟨hl, he, h⟩)⟩
theorem list_removeAt (l : Addr) (items : Array Value) (n : Nat) (x : Value) (e : Nat → Bool) (j : Nat) (hj : j < items.size) (hit : e j = true) (hno : ∀ m, m < j → e m = false) (hs1 : items.size ≤ sizeLine) :
    Meets (Builtin.«list.remove» ⟨[.ref l, x], []⟩)
      (fun A R s => s.heap.get? l = some { cls := .type "list", dict := none, data := .seq items n, slots := #[] } ∧ (∀ m (hm : m < items.size), EqAt A.in1 s items[m] x (e m)) ∧ R (.ok (.ret .none)) { s with heap := s.heap.update l (Obj.mapSeq fun xs => xs.eraseIdxIfInBounds j) }) := by
  intro prog w A R s h
  obtain ⟨hp, g, d, tk, os⟩ := s; obtain ⟨hl, he, h⟩ := h
  wp_walk using wpAny_loadPart' hl
  exact ⟨plainId_quiet plain_remove_loop _, codeAny_builtin entry_remove_loop (by
    rw [Around.under_plainId plain_remove_loop _]
    exact remove_loopAt l items n x e j hj hit _ hs1 0 rfl (Nat.zero_le _) (fun m _ h2 => hno m h2) prog w A R _ ⟨hl, he, h⟩)⟩
end PySem.SeqAt
namespace L2
open PySem PySem.Spec PyProof.Rows
open SeqAt (EqAt)
section
variable {X : Cx}
def rRemX (K : PySem.W.Frag) : V → List V → Hp → VK → Prop := fun x vs H Q => ∃ (l : Addr) (xs : List V) (y : V) (ds : List PyData) (de : PyData) (j : Nat) (hj : j < ds.length), x = .ref l ∧ vs = [y] ∧ H l = some (.lst xs) ∧ Dp K H y de ∧ DpAll K H xs ds ∧ (∀ d ∈ ds, min d.depth de.depth ≤ 63) ∧
  PyData.eqv ds[j] de = true ∧ (∀ m (hm : m < ds.length), m < j → PyData.eqv ds[m] de = false) ∧ Q .non (upd H l (.lst (xs.eraseIdx j)))
theorem dpAll_at {K : PySem.W.Frag} {H : Hp} : ∀ {xs : List V} {us : List Value} {ds : List PyData}, Vals xs us → DpAll K H xs ds → ∀ (m : Nat) (h1 : m < us.length) (h2 : m < ds.length), ∃ y, RelV y us[m] ∧ Dp K H y ds[m]
  | _, _, _, .nil, .nil, _, h, _ => absurd h (Nat.not_lt_zero _)
  | _, _, _, .cons r t, .cons h u, 0, _, _ => ⟨_, r, h⟩
  | _, _, _, .cons r t, .cons h u, m + 1, h1, h2 => dpAll_at t u m (Nat.lt_of_succ_lt_succ h1) (Nat.lt_of_succ_lt_succ h2)
theorem mt_remX (hu : X.A.units + 64 < cLine) : MtR X "list.remove" (rRemX X.K) := by
  intro pins s σ H x vs v us Q I rx rv h
  obtain ⟨l, xs, y, ds, de, j, hj, rfl, rfl, hH, hy, t, hd, hit, hno, q⟩ := h
  cases rx
  obtain ⟨u, rfl, ru⟩ := rv.one
  obtain ⟨z, its, n, r, hl, e⟩ := I.lstM hH
  have hn : its.length = ds.length := by rw [← r.length, dpAll_length t]
  refine call_meets PySem.F.slot_list_remove ⟨_, e, rfl⟩ PySem.F.entry_list_remove (PySem.F.args_list_remove_2 _ _)
    (SeqAt.list_removeAt l its.toArray n u (fun m => if h : m < ds.length then PyData.eqv ds[m] de else false) j (by rw [List.size_toArray]; omega) ?_ ?_ (by rw [List.size_toArray, ← r.length]; exact z)) ⟨e, fun m hm => ?_, ?_⟩
  · rw [dif_pos hj, hit]
  · intro m hm
    rw [dif_pos (by omega), hno m (by omega) hm]
  · have hm' : m < its.length := by rwa [List.size_toArray] at hm
    obtain ⟨w, rw_, hw⟩ := dpAll_at r t m hm' (by omega)
    have hd' := hd ds[m] (List.getElem_mem _)
    have hr : X.A.in1.units = X.A.units + 1 := rfl
    rw [dif_pos (show m < ds.length by omega), List.getElem_toArray]
    exact eqAt_dp I ds[m] de X.A.in1 hw hy rw_ ru (by omega)
  · refine ⟨.non, _, I.lset (its' := its.eraseIdx j) (t' := s.toks) hH e ?_ (r.eraseIdx j) ?_, rfl, q⟩
    · show its.toArray.eraseIdxIfInBounds j = (its.eraseIdx j).toArray
      rw [List.eraseIdxIfInBounds_toArray]
    · have := List.length_eraseIdx_le xs j
      omega
end
end L2
end
section
set_option Elab.async false
set_option linter.all false
set_option maxRecDepth 100000
set_option maxHeartbeats 2000000
namespace Mp
open PySem L2 PySem.Spec PyProof.Rows
open Evl (Ex ex_l ex_t fresh_back)
/-- a built-in's name that the module leaves alone -/
structure Free (c : Ctx) (x : Str) : Prop where
  g : c.sc.names.lookup x = some .globalImplicit
  m : c.mg x = none
theorem bName_ok {b : Blt} {x : Str} {f : Value} (h : bName b = some (x, f)) : bootBuiltins x = some f ∧ x ≠ "__name__" ∧ (x == ("__debug__" : Str)) = false ∧ ((∃ s, f = .builtin s) ∨ ∃ s, f = .type s) := by
  cases b <;> first
    | (cases h; done)
    | (cases h; exact ⟨by with_unfolding_all rfl, by decide, by decide, .inl ⟨_, rfl⟩⟩)
    | (cases h; exact ⟨by with_unfolding_all rfl, by decide, by decide, .inr ⟨_, rfl⟩⟩)
section
variable {c : Ctx} {a b d e o : Expr} {es : List Expr} {pos p p2 apos : Pos} {x : Str} {T : Tbl} {R R1 : Run} {ea eb ec eo : E} {ees : Es} {w : Bool}
theorem snd_blt {k : Blt} {f : Value} (hn : bName k = some (x, f)) (F : Free c x) (hc : bCalm k = true → c.calm = true) (ho : (a :: es).all okE = true) (h : SndA c (a :: es) (evs T R R1 ees)) : SndE c (.Call (.Name x p) (a :: es) [] pos) (ev T R R1 (.blt k w ees)) := by
  obtain ⟨h1, h2, h3, h4⟩ := bName_ok hn
  have oa : okE a = true := by rw [List.all_cons, Bool.and_eq_true] at ho; exact ho.1
  have os : es.all okE = true := by rw [List.all_cons, Bool.and_eq_true] at ho; exact ho.2
  refine SndE.mk (t := tCB (rBlt c.L.K k) (tA c (a :: es))) (fun X ft => ?_) fun S Q q => ?_
  · have hr : CallR X f (rBlt c.L.K k) := by rw [← ft.K]; exact call_blt hn (fun z => ft.calm.trans (hc z)) fun z => by have := (ft.room (hc z)).un; omega
    rcases h4 with ⟨s, rfl⟩ | ⟨s, rfl⟩
    · exact pe_callB hr (gl_of ft F.g) (by rw [ft.mg]; exact F.m) h1 (pa_tA ft) h2 h3 (star_ok oa _ _) (plain_args os _ _)
    · exact pe_callTy hr (gl_of ft F.g) (by rw [ft.mg]; exact F.m) h1 (pa_tA ft) h2 h3 (star_ok oa _ _) (plain_args os _ _)
  · rw [ev_blt] at q
    exact h S _ (q.bnd fun xs vs μ1 G1 H1 ι1 st hr rv q => blt_ok (by rw [hn]; rfl) hr rv q)
/-! ### methods of lists -/
/-- the types whose methods are meant, the built-in, its name -/
def mName : Bme → Option (String × String × Str)
  | .append => some ("list", "list.append", "append")
  | .insert => some ("list", "list.insert", "insert")
  | .remove => some ("list", "list.remove", "remove")
  | _ => none
def rIns : V → List V → Hp → VK → Prop := fun x vs H Q => ∃ (l : Addr) (xs : List V) (i : Int) (y : V), x = .ref l ∧ vs = [.int i, y] ∧ H l = some (.lst xs) ∧ xs.length < sizeLine ∧ 0 ≤ i ∧ i < 2 ^ 63 ∧ Q .non (upd H l (.lst (xs.take i.toNat ++ [y] ++ xs.drop i.toNat)))
def rBme (K : PySem.W.Frag) : Bme → V → List V → Hp → VK → Prop
  | .append => rAppend
  | .insert => rIns
  | .remove => rRemX K
  | _ => fun _ _ _ _ => False
theorem mt_bme {X : Cx} (hu : X.A.units + 64 < cLine) {m : Bme} {t i : String} {n : Str} (h : mName m = some (t, i, n)) : MtR X i (rBme X.K m) ∧ PlainAttrs t ∧ Slot t n i ∧ typeOf (.builtin i) = pure (.type "method_descriptor") := by
  cases m <;> first
    | (cases h; done)
    | (cases h; exact ⟨mt_append, PySem.F.plainAttrs_list, PySem.F.slot_list_append, PySem.F.type_list_append⟩)
    | (cases h; exact ⟨mt_insert, PySem.F.plainAttrs_list, PySem.F.slot_list_insert, PySem.F.type_list_insert⟩)
    | (cases h; exact ⟨mt_remX hu, PySem.F.plainAttrs_list, PySem.F.slot_list_remove, PySem.F.type_list_remove⟩)
section
variable {L : Lk} {X : Ext} {E : XK} {G H : Hp} {ι : Iot} {μ : Heap} {Q : VK} {y : V} {ws : List V} {v : Val} {vs : List Val}
theorem HR.isL (h : HR L G H ι μ) (r : VR L X G ι y v) (e : Mp.isL μ v = true) : ∃ p xs, y = .ref p ∧ SqL L.K H p xs := by
  have : ∃ us, Mp.items μ v = some us := by
    cases v with
    | d x => cases x <;> first | exact ⟨_, rfl⟩ | (cases e; done)
    | ref i =>
      rw [isL_ref] at e
      rw [items_ref]
      cases q : μ[i]? with
      | none => rw [q] at e; cases e
      | some c =>
        rw [q] at e
        cases c with
        | lst vs => exact ⟨_, rfl⟩
        | frz d => cases d <;> first | exact ⟨_, rfl⟩ | (cases e; done)
        | _ => cases e
    | clo f c => cases e
    | exn x => cases e
  obtain ⟨us, hu⟩ := this
  obtain ⟨a, xs, rfl, s, _⟩ := h.items r hu
  exact ⟨a, xs, rfl, sqa_l s e⟩
theorem toPys_len : ∀ ds : List D, (toPys ds).length = ds.length
  | [] => rfl
  | d :: ds => by
    show (toPys ds).length + 1 = _
    rw [toPys_len ds]; rfl
theorem pys_eqv : ∀ (ds : List D), plains ds = true → ∀ {x : D}, plain x = true → ∀ (m : Nat) (hm : m < (toPys ds).length) (hm' : m < ds.length), PyData.eqv (toPys ds)[m] (toPy x) = eqv ds[m] x
  | [], _, _, _, m, _, h => absurd h (Nat.not_lt_zero _)
  | d :: ds, h, x, hx, 0, _, _ => by
    have h : (plain d && plains ds) = true := h
    rw [Bool.and_eq_true] at h
    exact eqv_py d x h.1 hx
  | d :: ds, h, x, hx, m + 1, h1, h2 => by
    have h : (plain d && plains ds) = true := h
    rw [Bool.and_eq_true] at h
    exact pys_eqv ds h.2 hx m (Nat.lt_of_succ_lt_succ h1) (Nat.lt_of_succ_lt_succ h2)
theorem bmt_ok {m : Bme} {t i : String} {n : Str} (hm : mName m = some (t, i, n)) (h : HR L G H ι μ) (r : VR L X G ι y v) (e : bmeTy m μ v = true) : tyV L.K t y H := by
  cases m <;> first
    | (cases hm; done)
    | (cases hm; obtain ⟨p, xs, rfl, s⟩ := h.isL r e; exact .inl ⟨rfl, xs, s⟩)
theorem bme_ok {m : Bme} {t i : String} {n : Str} (hm : mName m = some (t, i, n)) (h : HR L G H ι μ) (r : VR L X G ι y v) (rs : VRs L X G ι ws vs) (q : Post L E (RvV L X) G H ι μ Q (bmeV m v vs μ)) : rBme L.K m y ws H Q := by
  cases m <;> first | (cases hm; done) | skip
  case append =>
    cases hm
    cases v with
    | ref a =>
      cases rs with
      | nil => exact q.elim
      | @cons z _ u us ru rus =>
      cases rus with
      | cons _ _ => exact q.elim
      | nil =>
      rw [bme_append] at q
      split at q
      · rename_i xs e
        obtain ⟨p, h1, rfl, ys, a1, a2⟩ := h.ref r e
        obtain ⟨hz, q⟩ := q.need
        rw [Bool.and_eq_true] at hz
        obtain ⟨k1, k2⟩ := h.mutL h1 e (vrs_app a2 (.cons (ru.toNo hz.2) .nil))
        exact ⟨p.1, ys, z, rfl, rfl, a1, by rw [vrs_len a2]; exact small_lt hz.1, q.okS k2 k1 (show Dr _ _ _ _ from .non)⟩
      · exact q.elim
    | _ => exact q.elim
  case insert =>
    cases hm
    cases v with
    | ref a =>
      cases rs with
      | nil => exact q.elim
      | @cons z _ u us ru rus =>
      cases rus with
      | nil => cases u with
        | d x => cases x <;> exact q.elim
        | _ => exact q.elim
      | @cons z2 _ u2 us2 ru2 rus2 =>
      cases rus2 with
      | cons _ _ => cases u with
        | d x => cases x <;> exact q.elim
        | _ => exact q.elim
      | nil =>
      cases u with
      | d x => cases x with
        | int k =>
          have q : Post L E (RvV L X) G H ι μ Q (match μ[a]? with
              | some (.lst xs) => need (small (xs.length + 1) && decide (0 ≤ k ∧ k < 2 ^ 62) && simple u2) (.ok (.d .non) (μ.set a (.lst (xs.take k.toNat ++ u2 :: xs.drop k.toNat))))
              | _ => .bad) := q
          split at q
          · rename_i xs e
            obtain ⟨p, h1, rfl, ys, a1, a2⟩ := h.ref r e
            obtain ⟨hz, q⟩ := q.need
            rw [Bool.and_eq_true, Bool.and_eq_true, decide_eq_true_eq] at hz
            obtain ⟨k1, k2⟩ := h.mutL h1 e (vrs_app (vrs_take k.toNat a2) (.cons (ru2.toNo hz.2) (vrs_drop k.toNat a2)))
            refine ⟨p.1, ys, k, z2, rfl, by rw [dr_int ru], a1, by rw [vrs_len a2]; exact small_lt hz.1.1, hz.1.2.1, by have := hz.1.2.2; omega, ?_⟩
            rw [List.append_assoc]
            exact q.okS k2 k1 (show Dr _ _ _ _ from .non)
          · exact q.elim
        | _ => exact q.elim
      | _ => exact q.elim
    | _ => exact q.elim
  case remove =>
    cases hm
    cases v with
    | ref a =>
      cases rs with
      | nil => exact q.elim
      | @cons z _ u us ru rus =>
      cases rus with
      | cons _ _ => cases u <;> exact q.elim
      | nil =>
      cases u with
      | d x =>
        have q : Post L E (RvV L X) G H ι μ Q (match μ[a]? with
            | some (.lst xs) => match mapO (Mp.snap μ 0) xs with
              | some ds => need (shp x && plains ds && ds.any fun d => eqv d x) (.ok (.d .non) (μ.set a (.lst ((ds.eraseP fun d => eqv d x).map .d))))
              | none => .bad
            | _ => .bad) := q
        split at q
        · rename_i xs e
          split at q
          · rename_i ds hd
            obtain ⟨p, h1, rfl, ys, a1, a2⟩ := h.ref r e
            obtain ⟨hz, q⟩ := q.need
            rw [Bool.and_eq_true, Bool.and_eq_true, List.any_eq_true] at hz
            obtain ⟨⟨z1, z2⟩, d0, m0, z3⟩ := hz
            obtain ⟨s1, d1⟩ := shp_of z1
            obtain ⟨b, l1, l2, n1, n2, rfl, e2⟩ := List.exists_of_eraseP (p := fun d => eqv d x) m0 z3
            have hds := snaps0 hd
            subst hds
            have t := vrs_snap0 a2 hd
            have le : ((l1 ++ b :: l2).eraseP fun d => eqv d x) = (l1 ++ b :: l2).take l1.length ++ (l1 ++ b :: l2).drop (l1.length + 1) := by
              rw [e2, List.take_left, List.drop_append]
              simp
            rw [le] at q
            have hv : VRs L .no G ι (ys.eraseIdx l1.length) (((l1 ++ b :: l2).take l1.length ++ (l1 ++ b :: l2).drop (l1.length + 1)).map .d) := by
              rw [List.eraseIdx_eq_take_drop_succ, List.map_append, List.map_take, List.map_drop]
              exact vrs_app (vrs_take _ a2) (vrs_drop _ a2)
            obtain ⟨k1, k2⟩ := h.mutL h1 e hv
            have at_ : ∀ (m : Nat) (hm : m < (toPys (l1 ++ b :: l2)).length) (hm' : m < (l1 ++ b :: l2).length), PyData.eqv (toPys (l1 ++ b :: l2))[m] (toPy x) = eqv (l1 ++ b :: l2)[m] x := fun m hm hm' => pys_eqv _ z2 s1 m hm hm'
            have hlen : (toPys (l1 ++ b :: l2)).length = (l1 ++ b :: l2).length := toPys_len _
            have hj : l1.length < (l1 ++ b :: l2).length := by rw [List.length_append, List.length_cons]; omega
            refine ⟨p.1, ys, z, toPys (l1 ++ b :: l2), toPy x, l1.length, by omega, rfl, rfl, a1, dr_dp x (h.snap (n := 0) ru (snap_d _ _ _)) s1, drs_dp _ (h.snaps a2 hd) z2, fun d _ => by omega, ?_, fun m hm hm2 => ?_, q.okS k2 k1 (show Dr _ _ _ _ from .non)⟩
            · rw [at_ _ _ hj]
              simpa using n2
            · rw [at_ m hm (by omega)]
              have := n1 (l1[m]) (List.getElem_mem _)
              rw [List.getElem_append_left hm2]
              simpa using this
          · exact q.elim
        · exact q.elim
      | _ => exact q.elim
    | _ => exact q.elim
end
theorem few_ok {n : Nat} {es : List Expr} (ho : es.all okE = true) (hl : es.length < 30) (pos : Pos) (env : Env) : ((backTo pos (starEach es env)).all (fun x => !x.1) && (backToKw pos (keywordEach [] env)).all (fun x => x.1.isSome)
      && decide (es.length + ([] : List Keyword).length + (if ([] : List Keyword).isEmpty then 0 else 1) < 30)) = true := by
  rw [plain_args2 ho, Bool.true_and]
  show (true && decide (es.length + 0 + 0 < 30)) = true
  rw [Bool.true_and]
  exact decide_eq_true (by omega)
theorem snd_bme {m : Bme} {t i : String} (hm : mName m = some (t, i, x)) (hn : nsE o = true) (ho : (a :: es).all okE = true) (hl : (a :: es).length < 30) (hline : (apos.endLine == pos.line) = true) (h1 : SndE c o (ev T R R1 eo)) (h : SndA c (a :: es) (evs T R R1 ees)) :
    SndE c (.Call (.Attribute o x apos) (a :: es) [] pos) (ev T R R1 (.bme m w eo ees)) := by
  have oa : okE a = true := by rw [List.all_cons, Bool.and_eq_true] at ho; exact ho.1
  have os : es.all okE = true := by rw [List.all_cons, Bool.and_eq_true] at ho; exact ho.2
  refine SndE.mk (t := tBM c.L.K t (rBme c.L.K m) (tE c o) (tA c (a :: es))) (fun X ft => ?_) fun S Q q => ?_
  · obtain ⟨m1, m2, m3, m4⟩ := mt_bme (X := X) (room_u ft) hm
    rw [← ft.K]
    exact pe_bm m2 m3 m4 m1 (pe_tE ft) (pa_tA ft) (base_ok hn _ _) (few_ok (n := 0) ho hl _ _) hline (star_ok oa _ _) (plain_args os _ _)
  · rw [ev_bme] at q
    refine h1 S _ (q.bnd fun y v μ1 G1 H1 ι1 st hr rv q => ?_)
    obtain ⟨hb, q⟩ := q.need
    exact ⟨bmt_ok hm hr rv hb, h (S.step st hr) _ (q.bnd fun ys vs μ2 G2 H2 ι2 st2 hr2 rv2 q => bme_ok hm hr2 (rv.mono st2.g st2.pre') rv2 q)⟩
end
end Mp
end
section
set_option Elab.async false
set_option linter.all false
set_option maxRecDepth 100000
set_option maxHeartbeats 2000000
namespace Mp
open PySem L2 PySem.Spec PyProof.Rows
open Evl (Ex ex_l ex_t fresh_back)
/-! ### max(xs, default=i) -/
def maxI (ns : List Int) (d : Int) : Int := match ns with
  | [] => d
  | y :: ys => ys.foldl max y
theorem alike_ints (ns : List Int) : PySem.W.AlikeAll (ns.map PyData.int) := by
  refine ⟨fun x hx y hy => ?_, fun x hx => ?_⟩
  · obtain ⟨i, _, rfl⟩ := List.mem_map.mp hx
    obtain ⟨j, _, rfl⟩ := List.mem_map.mp hy
    rfl
  · obtain ⟨i, _, rfl⟩ := List.mem_map.mp hx
    intro z; cases z
theorem depth_ints (ns : List Int) : PyData.depthAll (ns.map PyData.int) = 0 := by
  induction ns with
  | nil => rfl
  | cons a ns ih => rw [List.map_cons, PyData.depthAll, ih]; rfl
theorem dpAll_intsV {K : PySem.W.Frag} {H : Hp} : ∀ ns : List Int, DpAll K H (ns.map V.int) (ns.map PyData.int)
  | [] => .nil
  | n :: ns => .cons (.int n) (dpAll_intsV ns)
def rMaxDf (K : PySem.W.Frag) : List V → List V → Hp → VK → Prop := fun vs zs H Q => ∃ (a : Addr) (ns : List Int) (d : Int), vs = [.ref a] ∧ zs = [.int d] ∧ SqL K H a (ns.map V.int) ∧ Q (.int (maxI ns d)) H
theorem cr_maxDf {X : Cx} (hc : X.calm = true) (hu : X.A.units + 1 < cLine) : CallRK X (.builtin "max") [Str.ofString "default"] (rMaxDf X.K) := by
  intro pins s σ H vs zs us ws Q I r rz h
  obtain ⟨a, ns, d, rfl, rfl, hs, q⟩ := h
  obtain rfl := Vals.ref1 r
  obtain ⟨w1, rfl, e1⟩ := vals1 rz
  obtain ⟨t, rfl⟩ := e1
  obtain ⟨its, rv, hl, _⟩ := I.list hs
  obtain ⟨as, hr⟩ := Dp.readsAll I (ns.map PyData.int) _ _ (dpAll_intsV ns) rv
  refine PySem.W.max_list_default (I.ok.hd hc) hl.isList hr (alike_ints ns) (by rw [depth_ints]; exact hu) (fun h0 h' tk hk => ?_) fun y ys i v h' tk bs he hv hR hk => ?_
  · have : ns = [] := List.map_eq_nil_iff.mp h0
    subst this
    exact ⟨.int d, H, I.kept hk, ⟨_, rfl⟩, q⟩
  · cases ns with
    | nil => cases he
    | cons n ms =>
      rw [List.map_cons] at he
      injection he with e2 e3
      subst e2; subst e3
      rw [PySem.W.maxD_ints] at hR
      cases hR
      exact ⟨.int _, H, I.kept hk, ⟨_, rfl⟩, q⟩
theorem maxI_eq (ns : List Int) (d : Int) : (maxL ns).getD d = maxI ns d := by
  cases ns with
  | nil => rfl
  | cons a r =>
    show r.foldl (fun m x => if x > m then x else m) a = r.foldl max a
    have : (fun (m x : Int) => if x > m then x else m) = max := by
      funext m x
      show (if x > m then x else m) = max m x
      omega
    rw [this]
section
variable {c : Ctx} {a b : Expr} {pos p p2 : Pos} {x : Str} {T : Tbl} {R R1 : Run} {ea eb : E} {w : Bool}
theorem snd_maxd (hx : x = "max") (F : Free c x) (hc : c.calm = true) (oa : okE a = true) (h1 : SndE c a (ev T R R1 ea)) (h2 : SndE c b (ev T R R1 eb)) : SndE c (.Call (.Name x p) [a] [⟨some "default", b, p2⟩] pos) (ev T R R1 (.blt .maxd w (.cons ea (.cons eb .nil)))) := by
  subst hx
  refine SndE.mk (t := tCKw (rMaxDf c.L.K) (tCons (tE c a) tNil) (tCons (tE c b) tNil)) (fun X f => ?_) fun S Q q => ?_
  · exact pe_callBK (by rw [← f.K]; exact cr_maxDf (f.calm.trans hc) (by have := (f.room hc).un; omega)) (gl_of f F.g) (by rw [f.mg]; exact F.m) (by with_unfolding_all rfl) (pa_cons (pe_tE f) pa_nil (star_ok oa _ _)) (pk_cons (pe_tE f) pk_nil) (by decide) (by decide)
      (by rw [star_ok oa]; with_unfolding_all rfl) (plain_args (by rw [List.all_cons, oa]; rfl) _ _) (by with_unfolding_all rfl) (by with_unfolding_all rfl) (by with_unfolding_all rfl)
  · rw [ev_blt] at q
    simp only [evs_cons, evs_nil, bnd_assoc, bnd_ok] at q
    refine h1 S _ (q.bnd fun y v μ1 G1 H1 ι1 st hr rv q => ?_)
    refine h2 (S.step st hr) _ (q.bnd fun z u μ2 G2 H2 ι2 st2 hr2 ru q => ?_)
    have rv := rv.mono st2.g st2.pre'
    cases e : bltD T .maxd [v, u] μ2 with
    | none =>
      rw [e] at q
      have e1 : bltL .maxd [v, u] μ2 = none := rfl
      have e2 : bltK .maxd [v, u] μ2 = none := rfl
      rw [e1, e2] at q
      exact q.elim
    | some d =>
      rw [e] at q
      cases u with
      | d k0 =>
        cases k0 with
        | int k =>
          have e : (match itemsD μ2 v with
            | some ds => if isL μ2 v then (match intL ds with
              | some ns => some (D.int ((maxL ns).getD k))
              | none => none) else none
            | none => none) = some d := e
          split at e
          · rename_i ds hd
            split at e
            · rename_i hl
              split at e
              · rename_i ns hi
                cases e
                obtain ⟨a', rfl, s, _⟩ := itemsI hr2 rv hd hl hi
                refine ⟨a', ns, k, rfl, by rw [dr_int ru], s, ?_⟩
                rw [← maxI_eq]
                exact q.okD hr2 (.int _)
              · cases e
            · cases e
          · cases e
        | _ => cases e
      | _ => cases e
end
end Mp
end
section
set_option Elab.async false
set_option linter.all false
set_option maxRecDepth 100000
set_option maxHeartbeats 2000000
namespace Mp
open PySem L2 PySem.Spec PyProof.Rows
open Evl (Ex ex_l ex_t fresh_back)
/-! ### displays of dicts -/
/-- a table's pairs, pair by pair -/
inductive KR (L : Lk) (X : Ext) (G : Hp) (ι : Iot) : List (Key × V) → List (D × Val) → Prop
  | nil : KR L X G ι [] []
  | cons {k : Key} {w : V} {u : Val} {a : List (Key × V)} {b : List (D × Val)} : VR L X G ι w u → KR L X G ι a b → KR L X G ι ((k, w) :: a) ((kD k, u) :: b)
section
variable {L : Lk} {X : Ext} {G : Hp} {ι : Iot}
theorem KR.zips : ∀ {a : List (Key × V)} {b : List (D × Val)}, KR L X G ι a b → b.map (·.1) = (a.map (·.1)).map kD ∧ VRs L X G ι (a.map (·.2)) (b.map (·.2))
  | _, _, .nil => ⟨rfl, .nil⟩
  | _, _, .cons h t => by
    obtain ⟨h1, h2⟩ := KR.zips t
    exact ⟨by rw [List.map_cons, List.map_cons, List.map_cons, h1], .cons h h2⟩
theorem zip_self' {α β : Type} (a : List (α × β)) : (a.map (·.1)).zip (a.map (·.2)) = a := by
  induction a with
  | nil => rfl
  | cons x r ih => rw [List.map_cons, List.map_cons, List.zip_cons_cons, ih]
theorem map_put_id {k : Key} {w : V} : ∀ {a : List (Key × V)}, k ∉ a.map (·.1) → a.map (fun kv => if kv.1 = k then (kv.1, w) else kv) = a
  | [], _ => rfl
  | x :: a, h => by
    rw [List.map_cons, List.mem_cons, not_or] at h
    rw [List.map_cons, if_neg (fun z => h.1 z.symm), map_put_id h.2]
theorem KR.put {k : Key} {w : V} {u : Val} (hv : VR L X G ι w u) : ∀ {a : List (Key × V)} {b : List (D × Val)}, KR L X G ι a b → (a.map (·.1)).Nodup → KR L X G ι (putK a k w) (putD (kD k) u b) ∧ ((putK a k w).map (·.1)).Nodup ∧ ∀ j, j ∈ (putK a k w).map (·.1) ↔ j = k ∨ j ∈ a.map (·.1)
  | _, _, .nil, _ => by
    have e : putK ([] : List (Key × V)) k w = [(k, w)] := rfl
    rw [e]
    exact ⟨.cons hv .nil, by simp, fun j => by simp⟩
  | _, _, .cons (k := j) (w := w0) (u := u0) (a := a) (b := b) h t, hn => by
    rw [List.map_cons, List.nodup_cons] at hn
    have eD : putD (kD k) u ((kD j, u0) :: b) = if decide (j = k) = true then (kD j, u) :: b else (kD j, u0) :: putD (kD k) u b := by
      show (if eqv (kD j) (kD k) = true then _ else _) = _
      rw [eqv_kD]
    by_cases q : j = k
    · subst q
      rw [eD, if_pos (decide_eq_true rfl)]
      have e : putK ((j, w0) :: a) j w = (j, w) :: a := by
        unfold putK
        rw [List.any_cons, decide_eq_true (show (j, w0).1 = j from rfl), Bool.true_or, if_pos rfl, List.map_cons, if_pos rfl, map_put_id hn.1]
      rw [e]
      refine ⟨.cons hv t, by rw [List.map_cons, List.nodup_cons]; exact hn, fun i => ?_⟩
      rw [List.map_cons, List.map_cons, List.mem_cons]
      exact ⟨fun z => z.elim .inl fun z => .inr (.inr z), fun z => z.elim .inl id⟩
    · rw [eD, if_neg (by rw [decide_eq_false q]; decide)]
      obtain ⟨h1, h2, h3⟩ := KR.put hv t hn.2
      have e : putK ((j, w0) :: a) k w = (j, w0) :: putK a k w := by
        unfold putK
        rw [List.any_cons, decide_eq_false (show ¬ (j, w0).1 = k from q), Bool.false_or]
        by_cases z : (a.any fun kv => decide (kv.1 = k)) = true
        · rw [if_pos z, if_pos z, List.map_cons, if_neg (show ¬ (j, w0).1 = k from q)]
        · rw [if_neg z, if_neg z]; rfl
      rw [e]
      refine ⟨.cons h h1, ?_, fun i => ?_⟩
      · rw [List.map_cons, List.nodup_cons]
        exact ⟨fun z => ((h3 j).mp z).elim q hn.1, h2⟩
      · rw [List.map_cons, List.map_cons, List.mem_cons, List.mem_cons, h3 i]
        exact ⟨fun z => z.elim (fun z => .inr (.inl z)) fun z => z.elim .inl fun z => .inr (.inr z), fun z => z.elim (fun z => .inr (.inl z)) fun z => z.elim .inl fun z => .inr (.inr z)⟩
theorem KR.merge : ∀ {m : List (Key × V)} {n : List (D × Val)}, KR L X G ι m n → ∀ {a : List (Key × V)} {b : List (D × Val)}, KR L X G ι a b → (a.map (·.1)).Nodup → KR L X G ι (mergeK a m) (n.foldl (fun acc p => putD p.1 p.2 acc) b)
  | _, _, .nil, _, _, h, _ => h
  | _, _, .cons (k := k) (w := w) hv t, a, b, h, hn => by
    obtain ⟨h1, h2, _⟩ := KR.put (k := k) hv h hn
    exact KR.merge t h1 h2
theorem pair_split : ∀ {ps : List (V × V)} {vs : List Val} {ps' : List (D × Val)}, pairUp vs = some ps' → (ps'.all fun p => isKey0 p.1) = true → VRs L X G ι (ps.flatMap fun p => [p.1, p.2]) vs → ∃ kw : List (Key × V), ps = kw.map (fun kv => (kV kv.1, kv.2)) ∧ KR L X G ι kw ps'
  | [], vs, ps', h, _, r => by
    cases r
    cases h
    exact ⟨[], rfl, .nil⟩
  | (x, y) :: ps, vs, ps', h, hk, r => by
    rw [List.flatMap_cons] at r
    cases r with
    | @cons _ _ u us r1 r2 =>
      cases r2 with
      | @cons _ _ u2 us2 r3 r4 =>
        cases u with
        | d dk =>
          unfold pairUp at h
          split at h
          · rename_i ps2 h2
            cases h
            rw [List.all_cons, Bool.and_eq_true] at hk
            obtain ⟨k, rfl⟩ := isKey0_k hk.1
            obtain ⟨kw, rfl, q⟩ := pair_split h2 hk.2 r4
            exact ⟨(k, y) :: kw, by rw [List.map_cons, show x = kV k from dr_k r1], .cons r3 q⟩
          · cases h
        | _ => cases h
end
section
variable {c : Ctx} {T : Tbl} {R R1 : Run} {pos : Pos}
inductive PrS (c : Ctx) (T : Tbl) (R R1 : Run) : List (Option Expr) → List Expr → Es → Prop
  | nil : PrS c T R R1 [] [] .nil
  | cons {a b : Expr} {ea eb : E} {ks : List (Option Expr)} {vs : List Expr} {es : Es} : SndE c a (ev T R R1 ea) → SndE c b (ev T R R1 eb) → PrS c T R R1 ks vs es → PrS c T R R1 (some a :: ks) (b :: vs) (.cons ea (.cons eb es))
def trs (c : Ctx) : List (Option Expr) → List Expr → List (TE × TE)
  | some a :: ks, b :: vs => (tE c a, tE c b) :: trs c ks vs
  | _, _ => []
theorem pps_trs {X : Cx} (f : Fits c X) : ∀ {ks : List (Option Expr)} {vs : List Expr} {es : Es}, PrS c T R R1 ks vs es → PPs X pos ks vs (trs c ks vs)
  | _, _, _, .nil => pps_nil
  | _, _, _, .cons _ _ t => pps_cons (pe_tE f) (pe_tE f) (pps_trs f t)
theorem PrS.all : ∀ {ks : List (Option Expr)} {vs : List Expr} {es : Es}, PrS c T R R1 ks vs es → ks.all (·.isSome) = true ∧ ks.length = vs.length
  | _, _, _, .nil => ⟨rfl, rfl⟩
  | _, _, _, .cons _ _ t => by
    obtain ⟨h1, h2⟩ := PrS.all t
    exact ⟨by rw [List.all_cons, h1]; rfl, by rw [List.length_cons, List.length_cons, h2]⟩
abbrev RvP (L : Lk) (X : Ext) : Hp → Hp → Iot → Heap → List (V × V) → List Val → Prop := fun G _ ι _ ps vs => VRs L X G ι (ps.flatMap fun p => [p.1, p.2]) vs
theorem tp_ok : ∀ {ks : List (Option Expr)} {vs : List Expr} {es : Es}, PrS c T R R1 ks vs es → ∀ {G H : Hp} {σ : L2.St} {ι : Iot} {δ : Slots} {μ : Heap} (S : St c G H σ ι δ μ) {Qp : List (V × V) → Hp → Prop}, Post c.L (c.E σ) (RvP c.L c.X) G H ι μ Qp (evs T R R1 es δ μ) → tPairs (trs c ks vs) σ H Qp
  | _, _, _, .nil, G, H, σ, ι, δ, μ, S, Qp, q => by
    rw [evs_nil] at q
    exact q.ok S.hr .nil
  | _, _, _, .cons h1 h2 t, G, H, σ, ι, δ, μ, S, Qp, q => by
    simp only [evs_cons, bnd_assoc, bnd_ok] at q
    refine h1 S _ (q.bnd fun x v μ1 G1 H1 ι1 st hr rv q => ?_)
    refine h2 (S.step st hr) _ (q.bnd fun y u μ2 G2 H2 ι2 st2 hr2 ru q => ?_)
    refine tp_ok t ((S.step st hr).step st2 hr2) (q.bnd fun ps vs μ3 G3 H3 ι3 st3 hr3 rp q => ?_)
    exact q.ok hr3 (.cons (rv.mono (st2.g.trans st3.g) (st2.pre'.trans st3.pre')) (.cons (ru.mono st3.g st3.pre') rp))
theorem flat_two : ∀ ps : List (V × V), (ps.flatMap fun p => [p.1, p.2]).length = 2 * ps.length
  | [] => rfl
  | p :: ps => by rw [List.flatMap_cons, List.length_append, flat_two ps, List.length_cons, List.length_cons, List.length_cons, List.length_nil]; omega
theorem bnd_inv {α β : Type} {r : Res α} {f : α → Heap → Res β} {b : β} {μ : Heap} (h : r.bnd f = .ok b μ) : ∃ a μ', r = .ok a μ' ∧ f a μ' = .ok b μ := by
  cases r with
  | ok a μ' => exact ⟨a, μ', rfl, h⟩
  | ex x μ' => cases h
  | bad => cases h
theorem prs_len : ∀ {ks : List (Option Expr)} {vs' : List Expr} {es : Es}, PrS c T R R1 ks vs' es → ∀ {δ : Slots} {μ μ2 : Heap} {vs : List Val}, evs T R R1 es δ μ = .ok vs μ2 → vs.length = 2 * ks.length
  | _, _, _, .nil, δ, μ, μ2, vs, h => by rw [evs_nil] at h; cases h; rfl
  | _, _, _, .cons _ _ t, δ, μ, μ2, vs, h => by
    simp only [evs_cons, bnd_assoc, bnd_ok] at h
    obtain ⟨a, μ3, _, h⟩ := bnd_inv h
    obtain ⟨b, μ4, _, h⟩ := bnd_inv h
    obtain ⟨us, μ5, e, h⟩ := bnd_inv h
    cases h
    rw [List.length_cons, List.length_cons, prs_len t e, List.length_cons]; omega
/-- a display whose dict is never written: locked at once -/
def lkQ (Q : VK) : VK := fun v H' => ∃ p kvs, v = .ref p ∧ H' p = some (.dK kvs) ∧ ∀ od, Q (.ref p) (upd H' p (.frz od (.dK kvs)))
def tLk (t : TE) : TE := fun σ H Q => t σ H (lkQ Q)
theorem upd_upd' (H : Hp) (p : Addr) (a b : HO) : upd (upd H p a) p b = upd H p b := by
  funext x
  by_cases h : x = p
  · subst h; rw [upd_same, upd_same]
  · rw [upd_ne h, upd_ne h, upd_ne h]
theorem pe_lk {X : Cx} {e : Expr} {t : TE} (h : PE X e t) : PE X e (tLk t) := by
  refine ⟨fun pins s σ H Q I q => ?_⟩
  refine thn (h.run pins s σ H (lkQ Q) I q) fun v s1 ⟨x, H1, I1, r, p, kvs, e, hp, q⟩ => ?_
  subst e
  obtain ⟨od, I2⟩ := I1.lock hp trivial
  exact ⟨.ref p, _, I2, r, q od⟩
theorem snd_dsp {keys : List (Option Expr)} {values : List Expr} {kvs : Es} (hk : PrS c T R R1 keys values kvs) (h0 : keys ≠ []) (h15 : keys.length ≤ 15) : SndE c (.Dict keys values pos) (ev T R R1 (.dsp false kvs)) :=
  SndE.mk (t := tLk (tDisp (trs c keys values))) (fun X f => pe_lk (pe_disp (pps_trs f hk) hk.all.1 hk.all.2 h0 h15)) fun {G H σ ι δ μ} S Q q => by
    intro p hp
    have gp : G p = none := by
      cases e : G p with
      | none => rfl
      | some o => have := S.hr.gh p o e; rw [hp] at this; cases this
    have nf : ¬ Foot ι μ p := fun f => (S.hr.own p f).2 hp
    have S1 : St c G (upd H p (.dK [])) σ ι δ μ := ⟨S.hr.keep (.refl G) (fun a o e => by
      by_cases z : a = p
      · subst z; rw [gp] at e; cases e
      · rw [upd_ne z]; exact S.hr.gh a o e) fun a f => ⟨(S.hr.own a f).1, upd_ne fun z => nf (z ▸ f)⟩, S.len, S.sl⟩
    refine tp_ok hk S1 ?_
    rw [ev_dsp] at q
    cases hev : evs T R R1 kvs δ μ with
    | bad => rw [hev] at q; exact q.elim
    | ex x μ2 => rw [hev] at q; exact q.elim
    | ok vs μ2 =>
      rw [hev] at q
      simp only [nox_ok, bnd_ok] at q
      intro ps G2 H2 ι2 st hr2 rp
      have hp2 : H2 p = some (.dK []) := st.keep p _ upd_same nf
      refine ⟨hp2, ?_⟩
      split at q
      · rename_i ps' hpu
        obtain ⟨hk0, q⟩ := q.need
        obtain ⟨kw, rfl, kr⟩ := pair_split hpu hk0 rp
        have km := KR.merge kr .nil List.nodup_nil
        obtain ⟨hz, q⟩ := q.need
        simp only at q
        split at q
        · rename_i ds hd
          have gp2 : G2 p = none := by
            rw [st.old p (by rw [upd_same]; intro z; cases z) nf]; exact gp
          have nf2 : ¬ Foot ι2 μ2 p := fun f => (st.live p f).elim nf fun z => by rw [upd_same] at z; cases z
          have hlen : kw.length ≤ 15 := by
            have h1 := vrs_len rp
            have h2 := prs_len hk hev
            rw [flat_two, List.length_map] at h1
            omega
          refine ⟨kw, rfl, hlen, p, _, rfl, upd_same, fun od => ?_⟩
          rw [upd_upd']
          have eg : Ex G2 (upd G2 p (.frz od (.dK (mergeK [] kw)))) := Ex.new gp2
          obtain ⟨k1, k2⟩ := km.zips
          have k3 := vrs_snap0 k2 hd
          refine q _ (upd G2 p (.frz od (.dK (mergeK [] kw)))) _ ι2 ⟨st.g.trans eg, st.pre, st.le, fun a o e f => ?_, fun a e f => ?_, fun a f => ?_⟩ (hr2.keep eg ?_ fun a f => ?_) ?_
          · have : a ≠ p := fun z => by subst z; rw [hp] at e; cases e
            rw [upd_ne this]
            exact st.keep a o (by rw [upd_ne this]; exact e) f
          · have : a ≠ p := fun z => by subst z; exact e hp
            rw [upd_ne this]
            exact st.old a (by rw [upd_ne this]; exact e) f
          · rcases st.live a f with z | z
            · exact .inl z
            · right
              by_cases e : a = p
              · subst e; rw [upd_same] at z; cases z
              · rw [upd_ne e] at z; exact z
          · intro a o e
            by_cases z : a = p
            · subst z; rw [upd_same] at e ⊢; exact e
            · rw [upd_ne z] at e ⊢; exact hr2.gh a o e
          · have : a ≠ p := fun z => nf2 (z ▸ f)
            exact ⟨by rw [upd_ne this]; exact (hr2.own a f).1, upd_ne this⟩
          · show Dr c.L _ (.ref p) (.dct _)
            rw [k1]
            refine .dct (ks := (mergeK [] kw).map (·.1)) (vs := (mergeK [] kw).map (·.2)) (by rw [zip_self', upd_same]) (by rw [List.length_map, List.length_map]) (drs_ex eg k3)
        · exact q.elim
      · exact q.elim
theorem snd_dspE : SndE c (.Dict [] [] pos) (ev T R R1 (.dsp true .nil)) :=
  SndE.mk (t := tDNewK) (fun X f => pe_dnewK) fun {G H σ ι δ μ} S Q q => by
    intro p hp
    rw [ev_dsp, evs_nil] at q
    have q : Post c.L (c.E σ) (RvV c.L c.X) G H ι μ Q (.ok (.ref μ.length) (μ ++ [.dct []])) := q
    obtain ⟨h1, s1⟩ := S.hr.new (p := (p, p)) (c := .dct []) (H' := upd H p (.dK [])) (fun a ha => by rw [List.mem_singleton.mp ha, upd_same]; exact ⟨hp, fun z => nomatch z⟩) (fun a ha => upd_ne fun z => ha (by rw [z]; exact List.mem_singleton.mpr rfl)) ⟨[], [], [], rfl, rfl, .nil, [], rfl, upd_same⟩
    exact q.okS s1 h1 ⟨(p, p), by rw [← S.hr.len]; exact List.getElem?_concat_length, rfl⟩
theorem snd_dsp0 : SndE c (.Dict [] [] pos) (ev T R R1 (.dsp false .nil)) :=
  SndE.mk (t := tLk tDNewK) (fun X f => pe_lk pe_dnewK) fun {G H σ ι δ μ} S Q q => by
    intro p hp
    refine ⟨p, [], rfl, upd_same, fun od => ?_⟩
    rw [upd_upd']
    rw [ev_dsp, evs_nil] at q
    have q : Post c.L (c.E σ) (RvV c.L c.X) G H ι μ Q (.ok (.d (.dct [])) μ) := q
    obtain ⟨h1, s1⟩ := S.hr.grow (p := p) (.frz od (.dK [])) hp
    exact q.okS s1 h1 (.dct (ks := []) (vs := []) (ds := []) upd_same rfl .nil)
end
end Mp
end
section
set_option Elab.async false
set_option linter.all false
set_option maxRecDepth 100000
set_option maxHeartbeats 2000000
namespace L2
open PySem PySem.Spec PyProof.Rows
section
variable {X : Cx} {CX : CXT} {k : Nat} {f C : Addr} {fd : FuncData} {ps : List Str} {sp : Sp} {E : St → XK} {x m : Str} {p pos apos : Pos} {e o : Expr} {es : List Expr} {ta : TE} {t : TA}
def tMakeE (C : Addr) (sp : Sp) (E : St → XK) (t : TA) : TE := fun σ H Q => t σ H fun vs H1 => ∀ x dx, H1 x = none → H1 dx = none → dx ≠ x →
  sp (.ref x :: vs) (upd (upd H1 dx (.own x)) x (.ins C dx [])) (fun v H2 => v = .non ∧ Q (.ref x) H2) (E σ)
theorem run_makeE {pins : List (Addr × Obj)} {σ : St} {H : Hp} {s : Shared} {Q : VK} {us : List Value} {vs : List V} (M : Mk X.K C f) (F : FnOk X.prog X.w X.K X.mg X.base CX k f fd ps sp) (hr : Room (k + 1) X.A) (hb : Binds X.K fd ps [])
    (hx : PassesAt CX X σ (E σ)) (I : Inv X pins σ H s) (r : Vals vs us)
    (h : ∀ x dx, H x = none → H dx = none → dx ≠ x → sp (.ref x :: vs) (upd (upd H dx (.own x)) x (.ins C dx [])) (fun v H2 => v = .non ∧ Q (.ref x) H2) (E σ)) :
    wpAny (model X.prog X.w) X.A (call (.ref C) us) (EP X pins σ Q) X.xe s := by
  have hq := h (s.heap.objs.size + 1) s.heap.objs.size (I.hok.fresh (Nat.le_succ _)) (I.hok.fresh (Nat.le_refl _)) (Nat.ne_of_lt (Nat.lt_succ_self _))
  have I2 := Inv.made (C := C) I
  have r2 : Vals (V.ref (s.heap.objs.size + 1) :: vs) (Value.ref (s.heap.objs.size + 1) :: us) := .cons rfl r
  have hl : (Value.ref (s.heap.objs.size + 1) :: us).length = ps.length := by
    have e := r2.length
    rw [F.len _ _ _ _ hq] at e
    exact e.symm
  have b := hb _ (Value.ref (s.heap.objs.size + 1) :: us) I2.kIn (by rw [List.append_nil]; exact hl)
  rw [List.append_nil] at b
  refine wpAny_call (make_map (f := f) I.kIn M.makes M.init (beq_iff_eq.mp M.fn) (codeAny_mono (F.run _ X.stack _ _ ⟨Value.ref (s.heap.objs.size + 1) :: us, []⟩ (Value.ref (s.heap.objs.size + 1) :: us) _ _ (E σ) (hr.make C us [])
    (I2.env0.make C us []) b r2 hq) fun r s' hq' => ?_))
  cases r with
  | error e => exact hx pins _ _ e s' I2 hq'
  | ok fl =>
    cases fl with
    | ret u =>
      obtain ⟨v, H', I3, rv, ev, q3⟩ := I2.after hq'
      subst ev
      exact ⟨rv, ⟨V.ref (s.heap.objs.size + 1), H', I3, rfl, q3⟩⟩
    | next => exact False.elim hq'
    | brk => exact False.elim hq'
    | cont => exact False.elim hq'
theorem pe_makeE (M : Mk X.K C f) (F : FnOk X.prog X.w X.K X.mg X.base CX k f fd ps sp) (hr : Room (k + 1) X.A) (hg : Gl X x) (hm : X.mg x = some (.ref C)) (hb : Binds X.K fd ps []) (hx : ∀ σ, PassesAt CX X σ (E σ))
    (ha : PA X (e :: es) t) (hdb : (x == ("__debug__" : Str)) = false) (he : starEach (e :: es) X.env = (false, eval e X.env) :: starEach es X.env) (hpl : (backTo pos (starEach es X.env)).any (·.1) = false) :
    PE X (.Call (.Name x p) (e :: es) [] pos) (tMakeE C sp E t) := by
  refine ⟨fun pins s σ H Q I h => ?_⟩
  refine wpAny_Call_Name_kw (ld_glob I hg hm ?_ hdb)
  refine PySem.W.callWith_K (h₀ := X.base) I.ok.mod.kin M.kp (thn (ha.run pos pins s σ H _ I h) fun us s1 ⟨vs, H1, I1, r, q⟩ => ⟨I1.kIn, ?_⟩) he hpl
  exact run_makeE M F hr hb (hx σ) I1 r q
end
end L2
namespace Mp
open PySem L2 PySem.Spec PyProof.Rows
open Evl (Ex ex_l ex_t fresh_back)
/-! ### calls -/
/-- what a def promises: what its text does in the small semantics -/
def spZ (L : Lk) (T : Tbl) (f k : Nat) : Sp := fun vs H Q E => ∃ (G : Hp) (ι : Iot) (μ : Heap) (args : List Val), HR L G H ι μ ∧ VRs L .no G ι vs args ∧ Post L E (RvV L .no) G H ι μ Q (run T k f args μ)
/-- the def f keeps its promise, with k calls within one another -/
structure FnAt (P : Program) (w : World) (L : Lk) (mg : Str → Option Value) (base : PySem.Heap) (T : Tbl) (k f : Nat) : Prop where
  ex : ∃ fd ps, FnOk P w L.K mg base (L2.CX P w) (k + 2) (L.fnA f) fd ps (spZ L T f k) ∧ PySem.W.keepIn L.K (.ref (L.fnA f)) = true ∧ Binds L.K fd ps []
abbrev Ctx.FnAt (c : Ctx) (k f : Nat) : Prop := Mp.FnAt c.P c.w c.L c.mg c.base c.T k f
section
variable {L : Lk} {X : Ext} {E : XK} {G H G1 G' H' : Hp} {ι ι' : Iot} {μ μ0 : Heap} {Q : VK} {ws : List V} {vs : List Val} {R : Run} {f : Nat}
theorem noFoot (a : Addr) : ¬ Foot [] [] a := fun ⟨i, p, c, h, _⟩ => (by cases h)
theorem HR.nil (gh : Ex G H) : HR L G H [] [] := ⟨gh, rfl, fun _ _ _ h => (by cases h), fun a f => absurd f (noFoot a), fun _ _ _ _ _ _ _ h => (by cases h)⟩
/-- behind a call that saw nothing that changes -/
theorem HR.pure {Gs : Hp} (h : HR L G H ι μ) (st : Stp 0 Gs H [] [] G' H' ι' μ0) (e1 : Ex G G1) (e2 : Ex G1 H') (e3 : ∀ a, H a ≠ none → G1 a = G a) : HR L G1 H' ι μ ∧ Stp ι.length G H ι μ G1 H' ι μ := by
  have kk : ∀ a u, H a = some u → H' a = some u := fun a u q => st.keep a u q (noFoot a)
  refine ⟨h.keep e1 e2 fun a z => ⟨(e3 a (h.own a z).2).trans (h.own a z).1, ?_⟩, e1, fun _ _ => rfl, Nat.le_refl _, fun a u q _ => kk a u q, fun a q _ => e3 a q, fun a z => .inl z⟩
  obtain ⟨u, hu⟩ := some_of_ne (h.own a z).2
  rw [hu, kk a u hu]
theorem vrs_alld : ∀ {ws : List V} {vs : List Val} {ds : List D}, VRs L X G ι ws vs → vs.all isD = true → mapO (snap μ 8) vs = some ds → Drs L G ws ds
  | _, _, _, .nil, _, h => by cases h; exact .nil
  | _, _, _, .cons (v := v) a t, s, h => by
    rw [List.all_cons, Bool.and_eq_true] at s
    obtain ⟨b, r, h1, h2, rfl⟩ := mapO_cons_some h
    cases v with
    | d x => cases h1; exact .cons a (vrs_alld t s.2 h2)
    | _ => cases s.1
theorem pure_ok {k : Nat} {T : Tbl} (h : HR L G H ι μ) (r : VRs L X G ι ws vs) (q : Post L E (RvV L X) G H ι μ Q (pureCall (run T k) f vs μ)) : spZ L T f k ws H Q E := by
  unfold pureCall at q
  split at q
  · rename_i ds hd
    by_cases hall : vs.all isD = true
    · have r' := vrs_alld r hall hd
      refine ⟨G, [], [], ds.map .d, HR.nil h.gh, drs_v r', ?_⟩
      rw [hall] at q
      have go : ∀ {G' H' ι' μ0}, Stp 0 G H [] [] G' H' ι' μ0 → HR L G' H' ι' μ0 → HR L G' H' ι μ ∧ Stp ι.length G H ι μ G' H' ι μ := fun {G' H' ι' μ0} st hr' =>
        h.pure st st.g hr'.gh fun a ha => st.old a ha (noFoot a)
      cases e : run T k f (ds.map .d) [] with
      | ok v μ0 =>
        rw [e] at q
        cases v with
        | d x =>
          intro w G' H' ι' st hr' rv
          obtain ⟨k1, k2⟩ := go st hr'
          exact q.okS k2 k1 rv
        | _ => exact q.elim
      | ex x μ0 =>
        rw [e] at q
        intro G' H' ι' st hr'
        obtain ⟨k1, k2⟩ := go st hr'
        cases x with
        | pl c => exact q G' H' ι k2 k1
        | fld c g d => exact (q G' H' ι k2 k1).mono fun a z => .inl (z.elim id fun z => absurd z (noFoot a))
      | bad => rw [e] at q; exact q.elim
    · have r' := h.snaps r hd
      refine ⟨H, [], [], ds.map .d, HR.nil (Ex.refl H), drs_v r', ?_⟩
      have hall : vs.all isD = false := by
        cases q2 : vs.all isD with
        | true => exact absurd q2 hall
        | false => rfl
      rw [hall] at q
      have go : ∀ {G' H' ι' μ0}, Stp 0 H H [] [] G' H' ι' μ0 → HR L G' H' ι' μ0 → HR L G H' ι μ ∧ Stp ι.length G H ι μ G H' ι μ := fun {G' H' ι' μ0} st hr' =>
        h.pure st (Ex.refl G) (fun a u q => st.keep a u (h.gh a u q) (noFoot a)) fun _ _ => rfl
      cases e : run T k f (ds.map .d) [] with
      | ok v μ0 =>
        rw [e] at q
        cases v with
        | d x =>
          obtain ⟨hf, q⟩ := q.need
          intro w G' H' ι' st hr' rv
          obtain ⟨k1, k2⟩ := go st hr'
          exact q.okS k2 k1 (show Dr _ _ _ _ from dr_flat rv hf)
        | _ => exact q.elim
      | ex x μ0 =>
        rw [e] at q
        intro G' H' ι' st hr'
        obtain ⟨k1, k2⟩ := go st hr'
        cases x with
        | pl c => exact q G H' ι k2 k1
        | fld c g d =>
          obtain ⟨hf, q⟩ := q.need
          intro hx dd v fr h1 h2
          exact q G H' ι k2 k1 hx dd v (.inl (fr.elim id fun z => absurd z (noFoot dd))) h1 (dr_flat h2 hf)
      | bad => rw [e] at q; exact q.elim
  · exact q.elim
/-- a call that sees all -/
theorem Post.noX {r : Res Val} (q : Post L E (RvV L X) G H ι μ Q r) : Post L E (RvV L .no) G H ι μ Q r := by
  cases r with
  | ok v μ' => exact fun w G' H' ι' st hr rv => q w G' H' ι' st hr rv.no
  | ex x μ' => exact q
  | bad => exact q
theorem imp_ok {k : Nat} {T : Tbl} (h : HR L G H ι μ) (r : VRs L X G ι ws vs) (hs : vs.all simple = true) (q : Post L E (RvV L X) G H ι μ Q (run T k f vs μ)) : spZ L T f k ws H Q E := ⟨G, ι, μ, vs, h, r.ext hs, q.noX⟩
end
section
variable {c : Ctx} {a b d e o : Expr} {es : List Expr} {pos p p2 apos : Pos} {x : Str} {ea eb ec eo : E} {ees : Es} {w : Bool} {f : Nat}
/-- a def of the module by its name -/
structure DefAt (c : Ctx) (x : Str) (f : Nat) : Prop where
  g : c.sc.names.lookup x = some .globalImplicit
  m : c.mg x = some (.ref (c.L.fnA f))
  d : (x == ("__debug__" : Str)) = false
  f : c.FnAt c.k f
theorem pe_def {X : Cx} (D : DefAt c x f) (hc : c.calm = true) (ho : (a :: es).all okE = true) (ft : Fits c X) : PE X (.Call (.Name x p) (a :: es) [] pos) (tCallS (spZ c.L c.T f c.k) (WE c.W) (tA c (a :: es))) := by
  have oa : okE a = true := by rw [List.all_cons, Bool.and_eq_true] at ho; exact ho.1
  have os : es.all okE = true := by rw [List.all_cons, Bool.and_eq_true] at ho; exact ho.2
  obtain ⟨fd, ps, F, hk, hb⟩ := D.f.ex
  have F' : FnOk X.prog X.w X.K X.mg X.base (L2.CX X.prog X.w) (c.k + 2) (c.L.fnA f) fd ps (spZ c.L c.T f c.k) := by rw [ft.p, ft.w, ft.K, ft.mg, ft.base]; exact F
  exact pe_callS F' (ft.room hc) (gl_of ft D.g) (by rw [ft.mg]; exact D.m) (by rw [ft.K]; exact hk) (by rw [ft.K]; exact hb) (fun σ => passAt ft.take σ) (pa_tA ft) D.d (star_ok oa _ _) (plain_args os _ _)
theorem snd_cal (D : DefAt c x f) (hc : c.calm = true) (ho : (a :: es).all okE = true) (h : SndA c (a :: es) (evs c.T c.R c.R1 ees)) : SndE c (.Call (.Name x p) (a :: es) [] pos) (ev c.T c.R c.R1 (.cal f ees)) := by
  refine SndE.mk (t := tCallS (spZ c.L c.T f c.k) (WE c.W) (tA c (a :: es))) (fun X ft => pe_def D hc ho ft) fun S Q q => ?_
  rw [ev_cal] at q
  exact h S _ (q.bnd fun ws vs μ1 G1 H1 ι1 st hr rv q => pure_ok hr rv q)
/-- a def without parameters -/
theorem pe_def0 {X : Cx} (D : DefAt c x f) (hc : c.calm = true) (ft : Fits c X) : PE X (.Call (.Name x p) [] [] pos) (tCallS (spZ c.L c.T f c.k) (WE c.W) tNil) := by
  obtain ⟨fd, ps, F, hk, hb⟩ := D.f.ex
  have F' : FnOk X.prog X.w X.K X.mg X.base (L2.CX X.prog X.w) (c.k + 2) (c.L.fnA f) fd ps (spZ c.L c.T f c.k) := by rw [ft.p, ft.w, ft.K, ft.mg, ft.base]; exact F
  refine ⟨fun pins s σ H Q I h => ?_⟩
  refine wpAny_Call_Name_kw (ld_glob I (gl_of ft D.g) (by rw [ft.mg]; exact D.m) ?_ D.d)
  exact PySem.W.callWith_K0 I.kIn (by rw [ft.K]; exact hk) (run_fnS (us := []) F' (ft.room hc) (by rw [ft.K]; exact hb) (passAt ft.take σ) I .nil h)
theorem snd_cal0 (D : DefAt c x f) (hc : c.calm = true) : SndE c (.Call (.Name x p) [] [] pos) (ev c.T c.R c.R1 (.cal f .nil)) := by
  refine SndE.mk (t := tCallS (spZ c.L c.T f c.k) (WE c.W) tNil) (fun X ft => pe_def0 D hc ft) fun S Q q => ?_
  rw [ev_cal, evs_nil, bnd_ok] at q
  exact pure_ok S.hr .nil q
theorem snd_cai (D : DefAt c x f) (hc : c.calm = true) (ho : (a :: es).all okE = true) (h : SndA c (a :: es) (evs c.T c.R c.R1 ees)) : SndE c (.Call (.Name x p) (a :: es) [] pos) (ev c.T c.R c.R1 (.cai f ees)) := by
  refine SndE.mk (t := tCallS (spZ c.L c.T f c.k) (WE c.W) (tA c (a :: es))) (fun X ft => pe_def D hc ho ft) fun S Q q => ?_
  rw [ev_cai] at q
  refine h S _ (q.bnd fun ws vs μ1 G1 H1 ι1 st hr rv q => ?_)
  obtain ⟨hs, q⟩ := q.need
  exact imp_ok hr rv hs q
/-! ### methods -/
theorem meth_eq {m : Str} {args : List Expr} (hn : nsE o = true) (ho : args.all okE = true) (hl : args.length < 30) (hline : (apos.endLine == pos.line) = true) (env : Env) :
    eval (.Call (.Attribute o m apos) args [] pos) env = (do
      let ov ← eval o env
      standAt apos.atName
      let (f, first) ← holding [ov] (getMethod ov m (do return (← importBound o env).getD true))
      callWith pos f first (backTo pos (starEach args env)) (backToKw pos (keywordEach [] env))) := by
  have hf : methodCallForm (args.length + 0) (backTo pos (starEach args env)) (backToKw pos (keywordEach [] env)) = true := by
    unfold methodCallForm
    rw [plain_args2 ho, Bool.true_and]
    show (true && decide (args.length + 0 + 0 < 30)) = true
    rw [Bool.true_and]
    exact decide_eq_true (by omega)
  rw [eval.eq_def]
  simp only
  rw [base_ok hn]
  unfold methodCall methodCallPos calleeOf
  simp only [hf, List.length_nil, hline]
  rfl
end
section
variable {X : Cx} {c : Ctx} {a o : Expr} {es : List Expr} {pos p apos : Pos} {x m : Str} {ta : TE} {t : TA}
/-- o.m(..), whatever the class -/
def tMetZ (c : Ctx) (m : Str) (E : L2.St → XK) (ta : TE) (t : TA) : TE := fun σ H Q => ta σ H fun x H1 => ∃ a C dx fs f, x = .ref a ∧ H1 a = some (.ins C dx fs) ∧ Cls c.L.K C ∧ Meth c.L.K C m (c.L.fnA f) ∧ c.FnAt c.k f ∧ fs.lookup m = none ∧ t σ H1 fun vs H2 => spZ c.L c.T f c.k (x :: vs) H2 Q (E σ)
theorem pe_metZ {pl : Sem Bool} (ft : Fits c X) (hc : c.calm = true) (he : PE X o ta) (ha : PA X (a :: es) t) (hst : starEach (a :: es) X.env = (false, eval a X.env) :: starEach es X.env) (hpl : (backTo pos (starEach es X.env)).any (·.1) = false)
    (ht : eval (.Call (.Attribute o m apos) (a :: es) [] pos) X.env = (do
      let ov ← eval o X.env
      standAt apos.atName
      let (f, first) ← holding [ov] (getMethod ov m pl)
      callWith pos f first (backTo pos (starEach (a :: es) X.env)) (backToKw pos (keywordEach [] X.env)))) :
    PE X (.Call (.Attribute o m apos) (a :: es) [] pos) (tMetZ c m (WE c.W) ta t) := by
  refine ⟨fun pins s σ H Q I h => ?_⟩
  refine PySem.W.methodCall_KW (pl := pl) (thn (he.run pins s σ H _ I h) fun u s1 ⟨x, H1, I1, rx, r, C, dx, fs, f, ex, ea, cl, hm, F, l, q⟩ => ?_) ht
  subst ex
  obtain rfl : u = Value.ref r := rx
  rw [← ft.K] at cl hm
  refine getmeth_ok I1 ea cl hm l ?_
  obtain ⟨fd, ps, F, hk, hb⟩ := F.ex
  have F' : FnOk X.prog X.w X.K X.mg X.base (L2.CX X.prog X.w) (c.k + 2) (c.L.fnA f) fd ps (spZ c.L c.T f c.k) := by rw [ft.p, ft.w, ft.K, ft.mg, ft.base]; exact F
  refine PySem.W.callWith_K (first := [.ref r]) (h₀ := X.base) I.ok.mod.kin hm.kp (thn (ha.run pos pins s1 σ H1 _ I1 q) fun us s2 ⟨vs, H2, I2, rr, q2⟩ => ⟨I2.kIn, ?_⟩) hst hpl
  exact run_fnS (us := .ref r :: us) (vs := .ref r :: vs) F' (ft.room hc) (by rw [ft.K]; exact hb) (passAt ft.take σ) I2 (.cons rfl rr) q2
theorem pe_metZ0 {pl : Sem Bool} (ft : Fits c X) (hc : c.calm = true) (he : PE X o ta)
    (ht : eval (.Call (.Attribute o m apos) [] [] pos) X.env = (do
      let ov ← eval o X.env
      standAt apos.atName
      let (f, first) ← holding [ov] (getMethod ov m pl)
      callWith pos f first (backTo pos (starEach [] X.env)) (backToKw pos (keywordEach [] X.env)))) :
    PE X (.Call (.Attribute o m apos) [] [] pos) (tMetZ c m (WE c.W) ta tNil) := by
  refine ⟨fun pins s σ H Q I h => ?_⟩
  refine PySem.W.methodCall_KW (pl := pl) (thn (he.run pins s σ H _ I h) fun u s1 ⟨x, H1, I1, rx, r, C, dx, fs, f, ex, ea, cl, hm, F, l, q⟩ => ?_) ht
  subst ex
  obtain rfl : u = Value.ref r := rx
  rw [← ft.K] at cl hm
  refine getmeth_ok I1 ea cl hm l ?_
  obtain ⟨fd, ps, F, hk, hb⟩ := F.ex
  have F' : FnOk X.prog X.w X.K X.mg X.base (L2.CX X.prog X.w) (c.k + 2) (c.L.fnA f) fd ps (spZ c.L c.T f c.k) := by rw [ft.p, ft.w, ft.K, ft.mg, ft.base]; exact F
  exact PySem.W.callWith_K0 (first := [.ref r]) I1.kIn hm.kp (run_fnS (us := [.ref r]) (vs := [.ref r]) F' (ft.room hc) (by rw [ft.K]; exact hb) (passAt ft.take σ) I1 (.cons rfl .nil) q)
end
/-- what the module says of a method's name -/
structure MetAt (c : Ctx) (m : Str) : Prop where
  ok : ∀ k f, c.L.isO k = true → c.T.meth k m = some f → Cls c.L.K (c.L.clA k) ∧ Meth c.L.K (c.L.clA k) m (c.L.fnA f) ∧ c.FnAt c.k f
section
variable {c : Ctx} {a b d e o : Expr} {es : List Expr} {pos p p2 apos : Pos} {x m : Str} {ea eb ec eo : E} {ees : Es} {w : Bool} {f : Nat}
theorem met_ok {t : TA} (M : MetAt c m) (h1 : SndE c o (ev c.T c.R c.R1 eo)) {G H : Hp} {σ : L2.St} {ι : Iot} {δ : Slots} {μ : Heap} (S : St c G H σ ι δ μ) {Q : VK} (h : ∀ {G H ι μ}, St c G H σ ι δ μ → ∀ Q, Post c.L (c.E σ) (RvVs c.L c.X) G H ι μ Q (evs c.T c.R c.R1 ees δ μ) → t σ H Q)
    (q : Post c.L (c.E σ) (RvV c.L c.X) G H ι μ Q (ev c.T c.R c.R1 (.met m eo ees) δ μ)) : tMetZ c m (WE c.W) (tE c o) t σ H Q := by
  rw [ev_met] at q
  refine h1 S _ (q.bnd fun y v μ1 G1 H1 ι1 st hr rv q => ?_)
  unfold metF at q
  split at q
  · rename_i f hf
    split at hf
    · rename_i i
      split at hf
      · rename_i k fs hi
        split at hf
        · rename_i hl
          obtain ⟨pp, h2, rfl, ns, ws, vs, rfl, hl2, a2, a3, a4, a5⟩ := hr.ref rv hi
          obtain ⟨k1, k2, k3⟩ := M.ok k f a5 hf
          refine ⟨_, _, _, _, f, rfl, a3, k1, k2, k3, ?_, ?_⟩
          · cases z : (ns.zip ws).lookup m with
            | none => rfl
            | some u =>
              obtain ⟨v', e1, _⟩ := look_zip (vs := ws) (ws := vs) (P := fun _ _ => True) (by rw [vrs_len a2]; exact hl2) (vrs_len a2).symm (fun _ _ _ _ _ => trivial) z
              rw [e1] at hl; cases hl
          · refine (h (S.step st hr) _ (q.bnd fun us vs μ2 G2 H2 ι2 st2 hr2 rv2 q => ?_))
            obtain ⟨hs, q⟩ := q.need
            have rv' := VR.mono (X := c.X) (L := c.L) (G := G1) (ι := ι1) (v := .ref i) st2.g st2.pre' rv
            exact ⟨G2, ι2, μ2, _, hr2, .cons (rv'.toNo rfl) (rv2.ext hs), q.noX⟩
        · cases hf
      · cases hf
    · cases hf
  · exact q.elim
theorem snd_met (M : MetAt c m) (hc : c.calm = true) (hn : nsE o = true) (ho : (a :: es).all okE = true) (hl : (a :: es).length < 30) (hline : (apos.endLine == pos.line) = true) (h1 : SndE c o (ev c.T c.R c.R1 eo)) (h : SndA c (a :: es) (evs c.T c.R c.R1 ees)) :
    SndE c (.Call (.Attribute o m apos) (a :: es) [] pos) (ev c.T c.R c.R1 (.met m eo ees)) := by
  have oa : okE a = true := by rw [List.all_cons, Bool.and_eq_true] at ho; exact ho.1
  have os : es.all okE = true := by rw [List.all_cons, Bool.and_eq_true] at ho; exact ho.2
  exact SndE.mk (t := tMetZ c m (WE c.W) (tE c o) (tA c (a :: es))) (fun X ft => pe_metZ ft hc (pe_tE ft) (pa_tA ft) (star_ok oa _ _) (plain_args os _ _) (meth_eq hn ho hl hline _)) fun S Q q => met_ok M h1 S (fun S Q q => h S Q q) q
theorem snd_met0 (M : MetAt c m) (hc : c.calm = true) (hn : nsE o = true) (hline : (apos.endLine == pos.line) = true) (h1 : SndE c o (ev c.T c.R c.R1 eo)) :
    SndE c (.Call (.Attribute o m apos) [] [] pos) (ev c.T c.R c.R1 (.met m eo .nil)) :=
  SndE.mk (t := tMetZ c m (WE c.W) (tE c o) tNil) (fun X ft => pe_metZ0 ft hc (pe_tE ft) (meth_eq hn rfl (by decide) hline _)) fun S Q q => met_ok M h1 S (fun S Q q => by rw [evs_nil] at q; exact q.ok S.hr .nil) q
/-! ### new instances -/
/-- what the module says of a class that is made -/
structure MkAt (c : Ctx) (x : Str) (k : Nat) : Prop where
  g : c.sc.names.lookup x = some .globalImplicit
  m : c.mg x = some (.ref (c.L.clA k))
  d : (x == ("__debug__" : Str)) = false
  o : c.L.isO k = true
  i : ∃ f, c.T.init k = some f ∧ Mk c.L.K (c.L.clA k) (c.L.fnA f) ∧ (∃ fd ps, Binds c.L.K fd ps []) ∧ ∀ j, c.k = j + 1 → c.FnAt j f
theorem mk_new {L : Lk} {G H : Hp} {ι : Iot} {μ : Heap} {y dx : Addr} {k : Nat} (h : HR L G H ι μ) (hy : H y = none) (hd : H dx = none) (hne : dx ≠ y) (ho : L.isO k = true) :
    HR L G (upd (upd H dx (.own y)) y (.ins (L.clA k) dx [])) (ι ++ [(y, dx)]) (μ ++ [.obj k []]) ∧ Stp ι.length G H ι μ G (upd (upd H dx (.own y)) y (.ins (L.clA k) dx [])) (ι ++ [(y, dx)]) (μ ++ [.obj k []]) := by
  have m1 : ∀ a, a ∈ Mp.foot (y, dx) (.obj k []) → a = y ∨ a = dx := fun a ha => (List.mem_cons.mp ha).imp (fun z => z) fun z => List.mem_singleton.mp z
  refine h.new (fun a ha => ?_) (fun a ha => ?_) ⟨[], [], [], rfl, rfl, .nil, upd_same, by rw [upd_ne hne, upd_same], ho⟩
  · rcases m1 a ha with rfl | rfl
    · exact ⟨hy, by rw [upd_same]; exact fun z => nomatch z⟩
    · exact ⟨hd, by rw [upd_ne hne, upd_same]; exact fun z => nomatch z⟩
  · have h1 : a ≠ y := fun z => ha (by rw [z]; exact List.mem_cons_self)
    have h2 : a ≠ dx := fun z => ha (by rw [z]; exact List.mem_cons_of_mem _ (List.mem_singleton.mpr rfl))
    rw [upd_ne h1, upd_ne h2]
theorem snd_mk {k : Nat} (M : MkAt c x k) (hc : c.calm = true) (ho : (a :: es).all okE = true) (h : SndA c (a :: es) (evs c.T c.R c.R1 ees)) : SndE c (.Call (.Name x p) (a :: es) [] pos) (ev c.T c.R c.R1 (.mk k ees)) := by
  have oa : okE a = true := by rw [List.all_cons, Bool.and_eq_true] at ho; exact ho.1
  have os : es.all okE = true := by rw [List.all_cons, Bool.and_eq_true] at ho; exact ho.2
  obtain ⟨f, hi, m1, ⟨fd0, ps0, hb0⟩, m2⟩ := M.i
  cases hk : c.k with
  | zero =>
    refine SndE.mk (t := fun σ H Q => tA c (a :: es) σ H fun _ _ => False) (fun X ft => ⟨fun pins s σ H Q I h => ?_⟩) fun S Q q => ?_
    · refine wpAny_Call_Name_kw (ld_glob I (gl_of ft M.g) (by rw [ft.mg]; exact M.m) ?_ M.d)
      exact PySem.W.callWith_K (h₀ := X.base) I.ok.mod.kin (by rw [ft.K]; exact m1.kp) (thn ((pa_tA ft).run pos pins s σ H _ I h) fun us s1 ⟨vs, H1, I1, r, q⟩ => q.elim) (star_ok oa _ _) (plain_args os _ _)
    · rw [ev_mk] at q
      refine h S _ (q.bnd fun ws vs μ1 G1 H1 ι1 st hr rv q => ?_)
      unfold mkCall at q
      rw [hi] at q
      obtain ⟨hs, q⟩ := q.need
      have e1 : ∀ a b d, c.R1 a b d = .bad := fun a b d => by show run1 c.T c.k a b d = _; rw [hk]; rfl
      rw [e1] at q
      exact q.elim
  | succ j =>
      obtain ⟨fd, ps, F, hkp, hb⟩ := (m2 j hk).ex
      refine SndE.mk (t := tMakeE (c.L.clA k) (spZ c.L c.T f j) (WE c.W) (tA c (a :: es))) (fun X ft => ?_) fun S Q q => ?_
      · have F' : FnOk X.prog X.w X.K X.mg X.base (L2.CX X.prog X.w) (j + 2) (c.L.fnA f) fd ps (spZ c.L c.T f j) := by rw [ft.p, ft.w, ft.K, ft.mg, ft.base]; exact F
        refine pe_makeE (by rw [ft.K]; exact m1) F' ((ft.room hc).mono (by omega)) (gl_of ft M.g) (by rw [ft.mg]; exact M.m) (by rw [ft.K]; exact hb) (fun σ => passAt ft.take σ) (pa_tA ft) M.d (star_ok oa _ _) (plain_args os _ _)
      · rw [ev_mk] at q
        refine h S _ (q.bnd fun ws vs μ1 G1 H1 ι1 st hr rv q => fun y dx hy hd hne => ?_)
        obtain ⟨k1, k2⟩ := mk_new (k := k) hr hy hd hne M.o
        unfold mkCall at q
        rw [hi] at q
        obtain ⟨hs, q⟩ := q.need
        refine ⟨G1, _, _, .ref μ1.length :: vs, k1, .cons ⟨(y, dx), by rw [← hr.len]; exact List.getElem?_concat_length, rfl⟩ ((rv.ext hs).mono k2.g k2.pre'), ?_⟩
        have e1 : c.R1 = run c.T j := by show run1 c.T c.k = _; rw [hk]; rfl
        rw [e1] at q
        cases e : run c.T j f (.ref μ1.length :: vs) (μ1 ++ [.obj k []]) with
        | ok v μ' =>
          rw [e] at q
          intro w G' H' ι' st2 hr2 rv2
          cases v with
          | d x => cases x with
            | non =>
              refine ⟨dr_non rv2, q.okS (k2.go st2) hr2 ⟨(y, dx), ?_, rfl⟩⟩
              rw [st2.pre _ (by rw [List.length_append, List.length_singleton, hr.len]; omega), ← hr.len]
              exact List.getElem?_concat_length
            | _ => exact q.elim
          | _ => exact q.elim
        | ex x μ' =>
          rw [e] at q
          exact fun G' H' ι' st2 hr2 => (q G' H' ι' (k2.go st2) hr2).mono fun _ z => k2.frs z
        | bad => rw [e] at q; exact q.elim
end
end Mp
end
section
set_option Elab.async false
set_option linter.all false
set_option maxRecDepth 100000
set_option maxHeartbeats 2000000
namespace L2
open PySem PySem.Spec PyProof.Rows
/-! ### ranges of any size -/
theorem turn_long {P : Program} {w : World} {K : PySem.W.Frag} {tg : Expr} (it : Addr) (lo : Int) (n : Nat) : Turn P w K tg (Itr lo n) [it] it (fun i h => IsLongIter h it (lo + (i : Nat) * 1) ((n : Int) - (i : Nat)) 1) where
  mem := by simp
  obj := fun i h st b hb => by
    have e : b = it := by simpa using hb
    subst e
    exact ⟨_, st, fun v z => by
      have z' : Data.fields _ = Data.cell v := z
      cases z'⟩
  keep := fun i h h' st k => k it (by simp) _ st
  item := by
    intro X hP hw hK hc i pins s σ H E I hf st hg
    subst hP hw hK
    obtain ⟨f0, f1, f2, f3, f4, f5⟩ := hf it (by simp)
    have W := Walks.longrange (prog := X.prog) (w := X.w) (I.ok.hd hc) it lo 1 n
    refine W.item i s _ _ hg st fun v h' tk hv st' kk => ?_
    obtain ⟨t, rfl⟩ := hv
    have I1 : Inv X pins σ H { s with heap := h', toks := tk } := I.turned (fun b o hb e => kk b o (by simpa using hb) e) f0 f1 f3 f4 f5
    refine ⟨_, rfl, go_of (s := { s with heap := h', toks := tk }) (n := "longrange_iterator") st' rfl rfl (by decide) ⟨.int (lo + i), H, I1, ⟨t, ?_⟩, ⟨rfl, rfl⟩, st', fun b hb => (hf b hb).1⟩⟩
    rw [Int.mul_one]
  done := by
    intro X hP hw hK hc i pins s σ H E I hf st hg
    subst hP hw hK
    obtain ⟨f0, f1, f2, f3, f4, f5⟩ := hf it (by simp)
    exact wpAny_pyNext_long_end (I.ok.hd hc) st (by have : n ≤ i := hg; omega) fun h' eb => ⟨rfl, I.turned (t' := s.toks) (fun b o hb e => eb b o (by simpa using hb) e) f0 f1 f3 f4 f5⟩
  self := fun _ _ _ _ _ st h => wpAny_pyIter_longiter st h
section
variable {X : Cx} {tg : Expr}
theorem range_itB {pins : List (Addr × Obj)} {σ : L2.St} {H : Hp} {s : Shared} {R : L2.It → Hp → Prop} {E : Value → Shared → Prop} {lo hi : Int} {t u v : Tok} {tk : Nat} (I : Inv X pins σ H s)
    (q : R (Itr lo (hi - lo).toNat) H) : wpAny (model X.prog X.w) X.A (pyIter (.ref s.heap.objs.size)) (PIE X pins σ tg R) E { s with heap := s.heap.push { cls := .type "range", data := .fields #[.int lo t, .int hi u, .int 1 v] }, toks := tk } := by
  have I1 : Inv X pins σ H { s with heap := s.heap.push { cls := .type "range", data := .fields #[.int lo t, .int hi u, .int 1 v] }, toks := tk } := I.kept fun b o e => Heap.get?_push_of_some _ e
  have e1 : lo + ((0 : Nat) : Int) * 1 = lo := by simp
  have e2 : (((hi - lo).toNat : Nat) : Int) - ((0 : Nat) : Int) = Builtin.Range.rangeSize lo hi 1 := by rw [rangeSize_one]; split <;> omega
  cases hs : Builtin.Range.small lo hi 1 with
  | true =>
    refine wpAny_pyIter_range (IsRange.new ..) hs ?_
    refine ⟨(s.heap.push { cls := .type "range", data := .fields #[.int lo t, .int hi u, .int 1 v] }).objs.size, [(s.heap.push { cls := .type "range", data := .fields #[.int lo t, .int hi u, .int 1 v] }).objs.size], _, _, H, rfl,
      I1.kept (t' := tk) fun b o e => Heap.get?_push_of_some _ e, turn_range _ lo (hi - lo).toNat, ?_, fun b hb => ?_, q⟩
    · show IsRangeIter _ _ (lo + ((0 : Nat) : Int) * 1) ((((hi - lo).toNat : Nat) : Int) - ((0 : Nat) : Int)) 1
      rw [e1, e2]
      exact Heap.get?_push_size _ rfl
    · have e : b = (s.heap.push { cls := .type "range", data := .fields #[.int lo t, .int hi u, .int 1 v] }).objs.size := by simpa using hb
      subst e
      exact I1.fpOk (Nat.le_refl _) (I1.hok.fresh (Nat.le_refl _))
  | false =>
    refine wpAny_pyIter_longrange (IsRange.new ..) hs ?_
    refine ⟨(s.heap.push { cls := .type "range", data := .fields #[.int lo t, .int hi u, .int 1 v] }).objs.size, [(s.heap.push { cls := .type "range", data := .fields #[.int lo t, .int hi u, .int 1 v] }).objs.size], _, _, H, rfl,
      I1.kept (t' := tk) fun b o e => Heap.get?_push_of_some _ e, turn_long _ lo (hi - lo).toNat, ?_, fun b hb => ?_, q⟩
    · show IsLongIter _ _ (lo + ((0 : Nat) : Int) * 1) ((((hi - lo).toNat : Nat) : Int) - ((0 : Nat) : Int)) 1
      rw [e1, e2]
      exact Heap.get?_push_size _ rfl
    · have e : b = (s.heap.push { cls := .type "range", data := .fields #[.int lo t, .int hi u, .int 1 v] }).objs.size := by simpa using hb
      subst e
      exact I1.fpOk (Nat.le_refl _) (I1.hok.fresh (Nat.le_refl _))
def iRgB1 (ta : TA) : TI := fun σ H R => ta σ H fun vs H1 => ∃ j : Int, vs = [.int j] ∧ R (Itr 0 j.toNat) H1
def iRgB2 (ta : TA) : TI := fun σ H R => ta σ H fun vs H1 => ∃ i j : Int, vs = [.int i, .int j] ∧ R (Itr i (j - i).toNat) H1
theorem pi_rgB1 {a : Expr} {ta : TA} {p pos : Pos} (hg : Gl X "range") (hm : X.mg "range" = none) (ha : PA X [a] ta) (hs : starEach [a] X.env = [(false, eval a X.env)]) : PI X tg (.Call (.Name "range" p) [a] [] pos) (iRgB1 ta) := by
  refine ⟨fun pins s σ H R I h => ?_⟩
  refine Call_ (ld_blt I hg hm boot_range (PyProof.Rows.callWith_type1 (thn (ha.run pos pins s σ H _ I h) fun us s1 ⟨vs, H1, I1, r1, q1⟩ => ?_) hs rfl))
  obtain ⟨j, e, q⟩ := q1
  subst e
  cases r1 with
  | cons r rr =>
    cases rr
    obtain ⟨t, rfl⟩ := r
    exact call_range_1 (range_itB I1 (by simpa using q))
theorem pi_rgB2 {a b : Expr} {ta : TA} {p pos : Pos} (hg : Gl X "range") (hm : X.mg "range" = none) (ha : PA X [a, b] ta) (hs : starEach [a, b] X.env = [(false, eval a X.env), (false, eval b X.env)]) (hs2 : starEach [b] X.env = [(false, eval b X.env)]) :
    PI X tg (.Call (.Name "range" p) [a, b] [] pos) (iRgB2 ta) := by
  refine ⟨fun pins s σ H R I h => ?_⟩
  refine Call_ (ld_blt I hg hm boot_range (PyProof.Rows.callWith_type1 (thn (ha.run pos pins s σ H _ I h) fun us s1 ⟨vs, H1, I1, r1, q1⟩ => ?_) (by rw [hs, hs2]) (by rw [hs2]; rfl)))
  obtain ⟨i, j, e, q⟩ := q1
  subst e
  cases r1 with
  | cons r rr =>
    cases rr with
    | cons r' rr =>
      cases rr
      obtain ⟨t, rfl⟩ := r
      obtain ⟨t', rfl⟩ := r'
      exact call_range_2 (range_itB I1 q)
end
end L2
namespace Mp
open PySem L2 PySem.Spec PyProof.Rows
open Evl (Ex ex_l ex_t fresh_back)
/-! ### what is walked -/
/-- the iterator yields what the walk says -/
def WR (L : Lk) (X : Ext) (G1 : Hp) (ι1 : Iot) (J : L2.It) (wk : Walk) : Prop := ∀ (i : Nat) {G H : Hp} {ι : Iot} {μ : Heap}, HR L G H ι μ → Ex G1 G → Pre ι1 ι → guardOk wk.2 μ →
  (wk.1.length ≤ i → J.stop i H) ∧ ∀ v, wk.1[i]? = some v → J.go i H ∧ ∀ x H', J.yld i H x H' → ∃ G', HR L G' H' ι μ ∧ Stp ι.length G H ι μ G' H' ι μ ∧ VR L X G' ι x v
abbrev RvW (L : Lk) (X : Ext) : Hp → Hp → Iot → Heap → L2.It → Walk → Prop := fun G _ ι _ J wk => WR L X G ι J wk
structure SndI (c : Ctx) (tg a : Expr) (m : Slots → Heap → Res Walk) : Prop where
  intro ::
  run : ∀ {G H σ ι δ μ}, St c G H σ ι δ μ → ∀ R, Post c.L (c.E σ) (RvW c.L c.X) G H ι μ R (m δ μ) → tI c tg a σ H R
instance {c : Ctx} {tg a : Expr} {m : Slots → Heap → Res Walk} : CoeFun (SndI c tg a m) fun _ => ∀ {G H σ ι δ μ}, St c G H σ ι δ μ → ∀ R, Post c.L (c.E σ) (RvW c.L c.X) G H ι μ R (m δ μ) → tI c tg a σ H R := ⟨SndI.run⟩
section
variable {L : Lk} {X : Ext} {E : XK} {G H : Hp} {ι : Iot} {μ : Heap} {w : V} {v : Val} {R : L2.It → Hp → Prop}
/-- what stands still while the guard holds -/
structure SW (L : Lk) (X : Ext) (G : Hp) (ι : Iot) (b : Bool) (a : Addr) (wk : Walk) : Prop where
  at_ : ∀ {G' H' ι' μ'}, HR L G' H' ι' μ' → Ex G G' → Pre ι ι' → guardOk wk.2 μ' → ∃ xs, SqA L.K H' b a xs ∧ VRs L X G' ι' xs wk.1
theorem sw_of (h : HR L G H ι μ) (r : VR L X G ι w v) {wk : Walk} {μ1 : Heap} (q : seqWalk v μ = .ok wk μ1) : μ1 = μ ∧ ∃ a, w = .ref a ∧ SW L X G ι (isL μ v) a wk ∧ (∃ xs, SqA L.K H (isL μ v) a xs ∧ xs.length = wk.1.length) ∧ guardOk wk.2 μ := by
  cases v with
  | d x =>
    cases x with
    | lst ds =>
      cases q
      obtain ⟨a, xs, rfl, s, t⟩ := dr_lst r
      exact ⟨rfl, a, rfl, ⟨fun h' e p g => ⟨xs, ex_l (e.trans h'.gh) s, drs_v (drs_ex e t)⟩⟩, ⟨xs, ex_l h.gh s, by rw [List.length_map]; exact drs_len t⟩, trivial⟩
    | tup ds =>
      cases q
      obtain ⟨a, xs, rfl, s, t⟩ := dr_tup r
      exact ⟨rfl, a, rfl, ⟨fun h' e p g => ⟨xs, ex_t (e.trans h'.gh) s, drs_v (drs_ex e t)⟩⟩, ⟨xs, ex_t h.gh s, by rw [List.length_map]; exact drs_len t⟩, trivial⟩
    | _ => cases q
  | ref i =>
    rw [seqWalk_ref] at q
    rw [isL_ref]
    cases e : μ[i]? with
    | none => rw [e] at q; cases q
    | some c =>
      rw [e] at q
      obtain ⟨p, h1, rfl, cr⟩ := h.ref r e
      cases c with
      | lst vs =>
        cases q
        obtain ⟨xs, a1, a2⟩ := cr
        refine ⟨rfl, p.1, rfl, ⟨fun {G' H' ι' μ'} h' e p' g => ?_⟩, ⟨xs, SqL.of a1, vrs_len a2⟩, e, trivial⟩
        obtain ⟨xs', b1, b2⟩ := h'.cell i p _ (p' i p h1) g.1
        exact ⟨xs', SqL.of b1, b2.no⟩
      | frz d =>
        cases d with
        | lst ds =>
          cases q
          obtain ⟨a, xs, e2, s, t⟩ := dr_lst cr
          exact ⟨rfl, a, e2, ⟨fun h' e p g => ⟨xs, ex_l (e.trans h'.gh) s, drs_v (drs_ex e t)⟩⟩, ⟨xs, ex_l h.gh s, by rw [List.length_map]; exact drs_len t⟩, trivial⟩
        | _ => cases q
      | _ => cases q
  | clo f c => cases q
  | exn x => cases q
theorem WR.seq {b : Bool} {a : Addr} {wk : Walk} (s : SW L X G ι b a wk) : WR L X G ι (if b then Itl L.K a else Itt L.K a) wk := fun i {G' H' ι' μ'} h e p g => by
  obtain ⟨xs, s1, t1⟩ := s.at_ h e p g
  cases b with
  | true =>
    refine ⟨fun hi => ⟨xs, s1, by rw [vrs_len t1]; exact hi⟩, fun v hv => ?_⟩
    obtain ⟨x, h1, h2⟩ := vrs_get t1 hv
    refine ⟨⟨xs, x, s1, h1⟩, fun y H2 ⟨e2, hy⟩ => ?_⟩
    subst e2
    have := hy xs s1
    rw [h1] at this; cases this
    exact ⟨G', h, .refl (Nat.le_refl _), h2⟩
  | false =>
    refine ⟨fun hi => ⟨xs, s1, by rw [vrs_len t1]; exact hi⟩, fun v hv => ?_⟩
    obtain ⟨x, h1, h2⟩ := vrs_get t1 hv
    refine ⟨⟨xs, x, s1, h1⟩, fun y H2 ⟨e2, hy⟩ => ?_⟩
    subst e2
    have := hy xs s1
    rw [h1] at this; cases this
    exact ⟨G', h, .refl (Nat.le_refl _), h2⟩
theorem rng_get {lo : Int} {n i : Nat} {v : Val} (h : (rngVals lo n)[i]? = some v) : i < n ∧ v = .d (.int (lo + i)) := by
  unfold rngVals at h
  rw [List.getElem?_map, Option.map_eq_some_iff] at h
  obtain ⟨k, h1, rfl⟩ := h
  have := List.getElem?_eq_some_iff.mp h1
  obtain ⟨h2, h3⟩ := this
  rw [List.length_range] at h2
  rw [List.getElem_range] at h3
  exact ⟨h2, by rw [h3]⟩
theorem WR.rng (lo : Int) (n : Nat) : WR L X G ι (Itr lo n) (rngVals lo n, []) := fun i {G' H' ι' μ'} h e p g => by
  refine ⟨fun hi => ?_, fun v hv => ?_⟩
  · have : (rngVals lo n).length = n := by unfold rngVals; rw [List.length_map, List.length_range]
    rw [this] at hi
    exact hi
  · obtain ⟨h1, rfl⟩ := rng_get hv
    refine ⟨h1, fun y H2 ⟨e2, hy⟩ => ?_⟩
    subst e2 hy
    exact ⟨G', h, .refl (Nat.le_refl _), Dr.int _⟩
theorem zip_get {α β : Type} {x : α} {y : β} : ∀ {as : List α} {bs : List β} {i : Nat}, (as.zip bs)[i]? = some (x, y) → as[i]? = some x ∧ bs[i]? = some y
  | [], _, i, h => by simp at h
  | _ :: _, [], i, h => by simp at h
  | a :: as, b :: bs, 0, h => by cases h; exact ⟨rfl, rfl⟩
  | a :: as, b :: bs, i + 1, h => zip_get (as := as) (bs := bs) (i := i) h
theorem guard_app {g1 g2 : List (Nat × Cell)} {μ : Heap} : guardOk (g1 ++ g2) μ → guardOk g1 μ ∧ guardOk g2 μ := by
  induction g1 with
  | nil => exact fun h => ⟨trivial, h⟩
  | cons p r ih => exact fun h => ⟨⟨h.1, (ih h.2).1⟩, (ih h.2).2⟩
theorem WR.zip {b : Bool} {a1 a2 : Addr} {w1 w2 : Walk} {d1 d2 : List D} (s1 : SW L X G ι b a1 w1) (s2 : SW L X G ι b a2 w2) (e1 : mapO (snap μ 0) w1.1 = some d1) (e2 : mapO (snap μ 0) w2.1 = some d2) :
    WR L X G ι (if b then Itz L.K a1 a2 else RZ.ItzT L.K a1 a2) ((d1.zip d2).map fun p => .d (.tup [p.1, p.2]), w1.2 ++ w2.2) := fun i {G' H' ι' μ'} h e p g => by
  obtain ⟨g1, g2⟩ := guard_app g
  obtain ⟨xs, q1, t1⟩ := s1.at_ h e p g1
  obtain ⟨ys, q2, t2⟩ := s2.at_ h e p g2
  have r1 := vrs_snap0 t1 e1
  have r2 := vrs_snap0 t2 e2
  have stop : ((d1.zip d2).map fun p => Val.d (.tup [p.1, p.2])).length ≤ i → xs.length ≤ i ∨ ys.length ≤ i := fun hi => by
    rw [List.length_map, List.length_zip] at hi
    rw [drs_len r1, drs_len r2]
    omega
  have go : ∀ v, ((d1.zip d2).map fun p => Val.d (.tup [p.1, p.2]))[i]? = some v → ∃ x y a b, xs[i]? = some x ∧ ys[i]? = some y ∧ Dr L G' x a ∧ Dr L G' y b ∧ v = .d (.tup [a, b]) := fun v hv => by
    rw [List.getElem?_map, Option.map_eq_some_iff] at hv
    obtain ⟨⟨a, b⟩, hv, rfl⟩ := hv
    obtain ⟨z1, z2⟩ := zip_get hv
    obtain ⟨x, x1, x2⟩ := drs_get r1 z1
    obtain ⟨y, y1, y2⟩ := drs_get r2 z2
    exact ⟨x, y, a, b, x1, y1, x2, y2, rfl⟩
  have fin : ∀ {T : Addr} {x y : V} {a b : D}, H' T = none → Dr L G' x a → Dr L G' y b → ∃ G2, HR L G2 (upd H' T (.tup [x, y])) ι' μ' ∧ Stp ι'.length G' H' ι' μ' G2 (upd H' T (.tup [x, y])) ι' μ' ∧ VR L X G2 ι' (.ref T) (.d (.tup [a, b])) := fun {T x y a b} hT dx dy => by
    obtain ⟨k1, k2⟩ := h.grow (p := T) (.tup [x, y]) hT
    exact ⟨_, k1, k2, Dr.tup (SqT.of upd_same) (.cons (dr_ex k2.g dx) (.cons (dr_ex k2.g dy) .nil))⟩
  cases b with
  | true =>
    refine ⟨fun hi => ⟨xs, ys, q1, q2, stop hi⟩, fun v hv => ?_⟩
    obtain ⟨x, y, a, b, x1, y1, dx, dy, rfl⟩ := go v hv
    refine ⟨⟨xs, ys, x, y, q1, q2, x1, y1⟩, fun z H2 ⟨T, x', y', e3, hT, e4, f1, f2⟩ => ?_⟩
    have := f1 xs q1
    rw [x1] at this; cases this
    have := f2 ys q2
    rw [y1] at this; cases this
    subst e3 e4
    exact fin hT dx dy
  | false =>
    refine ⟨fun hi => ⟨xs, ys, q1, q2, stop hi⟩, fun v hv => ?_⟩
    obtain ⟨x, y, a, b, x1, y1, dx, dy, rfl⟩ := go v hv
    refine ⟨⟨xs, ys, x, y, q1, q2, x1, y1⟩, fun z H2 ⟨T, x', y', e3, hT, e4, f1, f2⟩ => ?_⟩
    have := f1 xs q1
    rw [x1] at this; cases this
    have := f2 ys q2
    rw [y1] at this; cases this
    subst e3 e4
    exact fin hT dx dy
theorem WR.enm {a1 : Addr} {w1 : Walk} {d1 : List D} (s1 : SW L X G ι true a1 w1) (e1 : mapO (snap μ 0) w1.1 = some d1) :
    WR L X G ι (Ite L.K a1) (d1.zipIdx.map fun p => .d (.tup [.int p.2, p.1]), w1.2) := fun i {G' H' ι' μ'} h e p g => by
  obtain ⟨xs, q1, t1⟩ := s1.at_ h e p g
  have r1 := vrs_snap0 t1 e1
  refine ⟨fun hi => ⟨xs, q1, by rw [List.length_map, List.length_zipIdx] at hi; rw [drs_len r1]; exact hi⟩, fun v hv => ?_⟩
  rw [List.getElem?_map, Option.map_eq_some_iff] at hv
  obtain ⟨⟨a, n⟩, hv, rfl⟩ := hv
  rw [List.getElem?_zipIdx, Option.map_eq_some_iff] at hv
  obtain ⟨a', ha, hv⟩ := hv
  cases hv
  obtain ⟨x, x1, x2⟩ := drs_get r1 ha
  refine ⟨⟨xs, x, q1, x1⟩, fun z H2 ⟨T, x', e3, hT, e4, f1⟩ => ?_⟩
  have := f1 xs q1
  rw [x1] at this; cases this
  subst e3 e4
  obtain ⟨k1, k2⟩ := h.grow (p := T) (.tup [.int (i : Nat), x]) hT
  exact ⟨_, k1, k2, Dr.tup (SqT.of upd_same) (.cons (by rw [Nat.zero_add]; exact Dr.int _) (.cons (dr_ex k2.g x2) .nil))⟩
end
section
variable {c : Ctx} {a b d e o tg : Expr} {es : List Expr} {pos p p2 apos : Pos} {x : Str} {T : Tbl} {R R1 : Run} {ea eb ec eo : E} {ees : Es} {w : Bool}
theorem SndI.mk {m : Slots → Heap → Res Walk} {t : TI} (h : ∀ X, Fits c X → PI X tg a t) (q : ∀ {G H σ ι δ μ}, St c G H σ ι δ μ → ∀ R, Post c.L (c.E σ) (RvW c.L c.X) G H ι μ R (m δ μ) → t σ H R) : SndI c tg a m := ⟨fun S R p => ⟨t, h, q S R p⟩⟩
/-- over a list or a tuple -/
def iSeq (K : PySem.W.Frag) (te : TE) : TI := fun σ H R => te σ H fun x H1 => ∃ a, x = .ref a ∧ (((∃ xs, SqL K H1 a xs) ∧ R (Itl K a) H1) ∨ ((∃ xs, SqT K H1 a xs) ∧ R (Itt K a) H1))
def iSeqS (K : PySem.W.Frag) (te : TE) : TI := fun σ H R => te σ H fun x H1 => (∃ a, x = .ref a ∧ (((∃ xs, SqL K H1 a xs) ∧ R (Itl K a) H1) ∨ ((∃ xs, SqT K H1 a xs) ∧ R (Itt K a) H1))) ∨ ∃ z, x = .str z ∧ R (Its z) H1
theorem pi_seq {X : Cx} {te : TE} (h : PE X e te) : PI X tg e (iSeq X.K te) := by
  refine ⟨fun pins s σ H R I q => ?_⟩
  refine thn (h.run pins s σ H _ I q) fun u s1 ⟨x, H1, I1, rx, a, ex, q1⟩ => ?_
  subst ex
  cases (show u = Value.ref a from rx)
  have fp : ∀ b ∈ [s1.heap.objs.size], FpOk X pins H1 b := fun b hb => by
    have e : b = s1.heap.objs.size := by simpa using hb
    subst e
    exact I1.fpOk (Nat.le_refl _) (I1.hok.fresh (Nat.le_refl _))
  rcases q1 with ⟨⟨xs, hq⟩, q⟩ | ⟨⟨xs, hq⟩, q⟩
  · obtain ⟨its, rv, p, hz⟩ := I1.list hq
    refine wpAny_pyIter_list p.isList ?_
    exact ⟨s1.heap.objs.size, [s1.heap.objs.size], _, _, H1, rfl, I1.kept (t' := s1.toks) fun b o e => Heap.get?_push_of_some _ e, turn_list a _, ⟨_, Heap.get?_push_size _ rfl, rfl, rfl⟩, fp, q⟩
  · obtain ⟨its, rv, p, hz⟩ := I1.tuple hq
    refine wpAny_pyIter_tuple (show s1.heap.IsTuple a its.toArray from p) ?_
    exact ⟨s1.heap.objs.size, [s1.heap.objs.size], _, _, H1, rfl, I1.kept (t' := s1.toks) fun b o e => Heap.get?_push_of_some _ e, turn_tuple a _, ⟨_, Heap.get?_push_size _ rfl, rfl, rfl⟩, fp, q⟩
theorem pi_seqS {X : Cx} {te : TE} (h : PE X e te) : PI X tg e (iSeqS X.K te) := by
  refine ⟨fun pins s σ H R I q => ?_⟩
  refine thn (h.run pins s σ H _ I q) fun u s1 ⟨x, H1, I1, rx, q1⟩ => ?_
  rcases q1 with ⟨a, ex, q1⟩ | ⟨x, ex, q⟩
  rotate_left
  · subst ex
    obtain ⟨t, rfl⟩ := rx
    cases ha : x.cps.all (· < 128)
    · exact wpAny_pyIter_wide ha (pi_one (tk := s1.toks) I1 _ (turn_str _ x t "str_iterator" (.inr rfl)) ⟨_, Heap.get?_push_size _ rfl, rfl, rfl⟩ q)
    · exact wpAny_pyIter_ascii ha (pi_one (tk := s1.toks) I1 _ (turn_str _ x t "str_ascii_iterator" (.inl rfl)) ⟨_, Heap.get?_push_size _ rfl, rfl, rfl⟩ q)
  subst ex
  cases (show u = Value.ref a from rx)
  have fp : ∀ b ∈ [s1.heap.objs.size], FpOk X pins H1 b := fun b hb => by
    have e : b = s1.heap.objs.size := by simpa using hb
    subst e
    exact I1.fpOk (Nat.le_refl _) (I1.hok.fresh (Nat.le_refl _))
  rcases q1 with ⟨⟨xs, hq⟩, q⟩ | ⟨⟨xs, hq⟩, q⟩
  · obtain ⟨its, rv, p, hz⟩ := I1.list hq
    refine wpAny_pyIter_list p.isList ?_
    exact ⟨s1.heap.objs.size, [s1.heap.objs.size], _, _, H1, rfl, I1.kept (t' := s1.toks) fun b o e => Heap.get?_push_of_some _ e, turn_list a _, ⟨_, Heap.get?_push_size _ rfl, rfl, rfl⟩, fp, q⟩
  · obtain ⟨its, rv, p, hz⟩ := I1.tuple hq
    refine wpAny_pyIter_tuple (show s1.heap.IsTuple a its.toArray from p) ?_
    exact ⟨s1.heap.objs.size, [s1.heap.objs.size], _, _, H1, rfl, I1.kept (t' := s1.toks) fun b o e => Heap.get?_push_of_some _ e, turn_tuple a _, ⟨_, Heap.get?_push_size _ rfl, rfl, rfl⟩, fp, q⟩
theorem WR.strs {L : Lk} {X : Ext} {G : Hp} {ι : Iot} (z : Str) : WR L X G ι (Its z) (z.cps.toList.map fun c => .d (.str ⟨#[c]⟩), []) := fun i {G' H' ι' μ'} h e p g => by
  refine ⟨fun hi => ?_, fun v hv => ?_⟩
  · rw [List.length_map, Array.length_toList] at hi
    exact hi
  · rw [List.getElem?_map, Option.map_eq_some_iff] at hv
    obtain ⟨c, hv, rfl⟩ := hv
    rw [Array.getElem?_toList] at hv
    refine ⟨(Array.getElem?_eq_some_iff.mp hv).1, fun y H2 ⟨e2, c2, h3, h4⟩ => ?_⟩
    subst e2
    rw [hv] at h3; cases h3
    subst h4
    exact ⟨G', h, .refl (Nat.le_refl _), Dr.str _⟩
theorem sni_val (h : SndE c a (ev T R R1 ea)) : SndI c tg a (evi T R R1 (.val ea)) :=
  SndI.mk (t := iSeqS c.L.K (tE c a)) (fun X f => by rw [← f.K]; exact pi_seqS (pe_tE f)) fun S Q q => by
    rw [evi_val] at q
    refine h S _ (q.bnd fun y v μ1 G1 H1 ι1 st hr rv q => ?_)
    unfold seqWalkS at q
    split at q
    · rename_i z
      exact .inr ⟨z, dr_str rv, q.ok hr (WR.strs z)⟩
    · refine .inl ?_
      cases e : seqWalk v μ1 with
      | ok wk μ2 =>
        rw [e] at q
        obtain ⟨rfl, r, rfl, sw, ⟨xs, s, _⟩, _⟩ := sw_of hr rv e
        refine ⟨r, rfl, ?_⟩
        have q2 := q.ok hr (WR.seq sw)
        cases hl : isL μ2 v with
        | true => rw [hl] at s q2; exact .inl ⟨⟨xs, s⟩, q2⟩
        | false => rw [hl] at s q2; exact .inr ⟨⟨xs, s⟩, q2⟩
      | ex x μ2 =>
        exfalso
        unfold seqWalk at e
        split at e
        · split at e <;> cases e
        · split at e <;> cases e
      | bad => rw [e] at q; exact q.elim
theorem sni_rng1 (F : Free c "range") (h : SndE c a (ev T R R1 ea)) (ha : okE a = true) : SndI c tg (.Call (.Name "range" p) [a] [] pos) (evi T R R1 (.rng1 ea)) :=
  SndI.mk (t := iRgB1 (tCons (tE c a) tNil)) (fun X f => pi_rgB1 (gl_of f F.g) (by rw [f.mg]; exact F.m) (pa_cons (pe_tE f) pa_nil (star_ok ha _ _)) (star_ok ha _ _)) fun S Q q => by
    rw [evi_rng1] at q
    refine h S _ (q.bnd fun y v μ1 G1 H1 ι1 st hr rv q => ?_)
    split at q
    · rename_i n
      exact ⟨n, by rw [dr_int rv], q.ok hr (WR.rng 0 n.toNat)⟩
    · exact q.elim
theorem sni_rng2 (F : Free c "range") (h : SndE c a (ev T R R1 ea)) (h2 : SndE c b (ev T R R1 eb)) (ha : okE a = true) (hb : okE b = true) : SndI c tg (.Call (.Name "range" p) [a, b] [] pos) (evi T R R1 (.rng2 ea eb)) :=
  SndI.mk (t := iRgB2 (tCons (tE c a) (tCons (tE c b) tNil))) (fun X f => pi_rgB2 (gl_of f F.g) (by rw [f.mg]; exact F.m) (pa_cons (pe_tE f) (pa_cons (pe_tE f) pa_nil (star_ok hb _ _)) (star_ok ha _ _)) (by rw [star_ok ha, star_ok hb]; rfl) (star_ok hb _ _)) fun S Q q => by
    rw [evi_rng2] at q
    refine h S _ (q.bnd fun y v μ1 G1 H1 ι1 st hr rv q => h2 (S.step st hr) _ (q.bnd fun z u μ2 G2 H2 ι2 st2 hr2 rv2 q => ?_))
    have rv' := rv.mono st2.g st2.pre'
    split at q
    · exact ⟨_, _, by rw [dr_int rv', dr_int rv2], q.ok hr2 (WR.rng _ _)⟩
    · exact q.elim
theorem sni_enm {elts : List Expr} {kk : Nat} {tpos : Pos} (F : Free c "enumerate") (h : SndE c a (ev T R R1 ea)) (ha : okE a = true) : SndI c (.Tuple elts kk tpos) (.Call (.Name "enumerate" p) [a] [] pos) (evi T R R1 (.enm ea)) :=
  SndI.mk (t := iEnum c.L.K (tCons (tE c a) tNil)) (fun X f => by
    rw [← f.K]
    exact pi_enum (gl_of f F.g) (by rw [f.mg]; exact F.m) (pa_cons (pe_tE f) pa_nil (star_ok ha _ _)) (star_ok ha _ _)) fun S Q q => by
    rw [evi_enm] at q
    refine h S _ (q.bnd fun y v μ1 G1 H1 ι1 st hr rv q => ?_)
    obtain ⟨hl, q⟩ := q.need
    cases e : seqWalk v μ1 with
    | ok w1 μ3 =>
      rw [e] at q
      obtain ⟨rfl, r, rfl, sw, ⟨xs, s, _⟩, _⟩ := sw_of hr rv e
      rw [bnd_ok] at q
      split at q
      · rename_i d1 z1
        rw [hl] at sw s
        exact ⟨r, xs, rfl, s, q.ok hr (WR.enm sw z1)⟩
      · exact q.elim
    | ex x μ3 =>
      exfalso
      unfold seqWalk at e
      split at e
      · split at e <;> cases e
      · split at e <;> cases e
    | bad => rw [e] at q; exact q.elim
theorem sni_zip {elts : List Expr} {kk : Nat} {tpos : Pos} (F : Free c "zip") (h : SndE c a (ev T R R1 ea)) (h2 : SndE c b (ev T R R1 eb)) (ha : okE a = true) (hb : okE b = true) : SndI c (.Tuple elts kk tpos) (.Call (.Name "zip" p) [a, b] [] pos) (evi T R R1 (.zip ea eb)) :=
  SndI.mk (t := RZ.iZipA c.L.K (tCons (tE c a) (tCons (tE c b) tNil))) (fun X f => by
    rw [← f.K]
    exact RZ.pi_zipA (gl_of f F.g) (by rw [f.mg]; exact F.m) (pa_cons (pe_tE f) (pa_cons (pe_tE f) pa_nil (star_ok hb _ _)) (star_ok ha _ _)) (star_ok ha _ _) (plain_args (es := [b]) (by rw [List.all_cons, hb]; rfl) _ _)) fun S Q q => by
    rw [evi_zip] at q
    refine h S _ (q.bnd fun y v μ1 G1 H1 ι1 st hr rv q => h2 (S.step st hr) _ (q.bnd fun z u μ2 G2 H2 ι2 st2 hr2 rv2 q => ?_))
    have rv' := rv.mono st2.g st2.pre'
    obtain ⟨hl, q⟩ := q.need
    have hl := eq_of_beq hl
    cases e : seqWalk v μ2 with
    | ok w1 μ3 =>
      rw [e] at q
      obtain ⟨rfl, r, rfl, sw, ⟨xs, s, _⟩, _⟩ := sw_of hr2 rv' e
      cases e2 : seqWalk u μ3 with
      | ok w2 μ4 =>
        rw [bnd_ok, e2] at q
        obtain ⟨rfl, r2, rfl, sw2, ⟨ys, s2, _⟩, _⟩ := sw_of hr2 rv2 e2
        rw [bnd_ok] at q
        split at q
        · rename_i d1 d2 z1 z2
          rw [← hl] at sw2 s2
          have q2 := q.ok hr2 (WR.zip sw sw2 z1 z2)
          refine ⟨r, r2, xs, ys, rfl, ?_⟩
          cases hl : isL μ4 v with
          | true => rw [hl] at s s2 q2; exact .inl ⟨s, s2, q2⟩
          | false => rw [hl] at s s2 q2; exact .inr ⟨s, s2, q2⟩
        · exact q.elim
      | ex x μ4 =>
        exfalso
        unfold seqWalk at e2
        split at e2
        · split at e2 <;> cases e2
        · split at e2 <;> cases e2
      | bad => rw [bnd_ok, e2] at q; exact q.elim
    | ex x μ3 =>
      exfalso
      unfold seqWalk at e
      split at e
      · split at e <;> cases e
      · split at e <;> cases e
    | bad => rw [e] at q; exact q.elim
end
end Mp
end
section
set_option Elab.async false
set_option linter.all false
set_option maxRecDepth 100000
set_option maxHeartbeats 2000000
namespace Mp
open PySem L2 PySem.Spec PyProof.Rows
open Evl (Ex ex_l ex_t fresh_back)
/-! ### targets -/
def Diff (sl : List Nat) (σ σ' : L2.St) : Prop := σ'.length = σ.length ∧ ∀ j, j ∉ sl → σ'[j]? = σ[j]?
theorem Diff.refl (sl : List Nat) (σ : L2.St) : Diff sl σ σ := ⟨rfl, fun _ _ => rfl⟩
abbrev RvG (c : Ctx) (sl : List Nat) (σ : L2.St) : Hp → Hp → Iot → Heap → L2.St → Slots → Prop := fun G H ι μ σ' δ' => Diff sl σ σ' ∧ St c G H σ' ι δ' μ
structure SndG (c : Ctx) (a : Expr) (sl : List Nat) (m : Val → Slots → Heap → Res Slots) : Prop where
  intro ::
  run : ∀ {G H σ ι δ μ}, St c G H σ ι δ μ → ∀ w v, VR c.L c.X G ι w v → ∀ Q, Post c.L (c.E σ) (RvG c sl σ) G H ι μ Q (m v δ μ) → tG c a w σ H Q
instance {c : Ctx} {a : Expr} {sl : List Nat} {m : Val → Slots → Heap → Res Slots} : CoeFun (SndG c a sl m) fun _ => ∀ {G H σ ι δ μ}, St c G H σ ι δ μ → ∀ w v, VR c.L c.X G ι w v → ∀ Q, Post c.L (c.E σ) (RvG c sl σ) G H ι μ Q (m v δ μ) → tG c a w σ H Q := ⟨SndG.run⟩
/-- several; what they lead to is no exception -/
structure SndGs (c : Ctx) (as : List Expr) (sl : List Nat) (m : List Val → Slots → Heap → Res Slots) : Prop where
  intro ::
  run : ∀ {G H σ ι δ μ}, St c G H σ ι δ μ → ∀ ws vs, VRs c.L c.X G ι ws vs → ∀ E Q, Post c.L E (RvG c sl σ) G H ι μ Q (m vs δ μ).nox → tGs c as ws σ H Q
theorem asgs_elim {T : Tbl} {R R1 : Run} {P : Prop} {α β : Type} {L : Lk} {E : XK} {Rv : Hp → Hp → Iot → Heap → β → α → Prop} {G H : Hp} {ι : Iot} {μ : Heap} {Q : β → Hp → Prop} (h : Post L E Rv G H ι μ Q .bad) : P := h.elim
section
variable {c : Ctx} {a b d e o : Expr} {es : List Expr} {pos p p2 : Pos} {x : Str} {T : Tbl} {R R1 : Run} {ea eb : E} {t : Tg} {ts : Tgs} {sl sl2 : List Nat}
theorem SndG.mk {m : Val → Slots → Heap → Res Slots} {t : TG} (h : ∀ X, Fits c X → PG X a t) (q : ∀ {G H σ ι δ μ}, St c G H σ ι δ μ → ∀ w v, VR c.L c.X G ι w v → ∀ Q, Post c.L (c.E σ) (RvG c sl σ) G H ι μ Q (m v δ μ) → t w σ H Q) : SndG c a sl m := ⟨fun S w v r Q p => ⟨t, h, q S w v r Q p⟩⟩
theorem sng_nm {i : Nat} (hi : c.N[i]? = some x) (hx : c.sc.names.lookup x = some .local ∨ (c.sc.names.lookup x = some .cell ∧ c.fn x = true)) : SndG c (.Name x pos) [i] (asg T R R1 (.nm i)) :=
  SndG.mk (t := gName i) (fun X f => pg_name (f.N ▸ f.nd : X.N.Nodup) (by rw [f.N]; exact hi) (by show Loc X.env.scope x; rw [f.sc]; exact hx.imp (fun z => z) (fun z => z.1)) (by
    rcases hx with z | z
    · right; rw [f.sc]; exact z
    · left; exact f.fn x z.2)) fun S w v r Q q => by
    rw [asg_nm] at q
    obtain ⟨_, q⟩ := q.need
    exact q.ok S.hr ⟨⟨by rw [List.length_set], fun j hj => List.getElem?_set_ne (fun z => hj (by rw [z]; exact List.mem_singleton.mpr rfl))⟩, S.set i r⟩
theorem Post.elimB {α β : Type} {L : Lk} {E : XK} {Rv : Hp → Hp → Iot → Heap → β → α → Prop} {G H : Hp} {ι : Iot} {μ : Heap} {Q : β → Hp → Prop} {P : Prop} (h : Post L E Rv G H ι μ Q .bad) : P := h.elim
theorem sngs_nil : SndGs c [] [] (asgs T R R1 .nil) := .intro fun S ws vs r E Q q => ⟨gNil, fun X f => pgs_nil, by
  cases r with
  | nil => rw [asgs_nil] at q; exact ⟨rfl, Post.ok q S.hr ⟨Diff.refl _ _, S⟩⟩
  | cons _ _ => exact Post.elimB q⟩
theorem nox_bnd {α β : Type} (r : Res α) (f : α → Heap → Res β) : (r.bnd f).nox = r.nox.bnd fun a μ => (f a μ).nox := by cases r <;> rfl
/-- no exception comes from r -/
theorem Post.noxE {α β α2 β2 : Type} {L : Lk} {E E' : XK} {Rv : Hp → Hp → Iot → Heap → β → α → Prop} {Rw : Hp → Hp → Iot → Heap → β2 → α2 → Prop} {G H : Hp} {ι : Iot} {μ : Heap} {Q : β → Hp → Prop} {Q2 : β2 → Hp → Prop} {r : Res α} {f : α → Heap → Res α2} (h : Post L E Rw G H ι μ Q2 (r.nox.bnd f))
    (k : ∀ w a μ1 G1 H1 ι1, Stp ι.length G H ι μ G1 H1 ι1 μ1 → HR L G1 H1 ι1 μ1 → Rv G1 H1 ι1 μ1 w a → Post L E Rw G1 H1 ι1 μ1 Q2 (f a μ1) → Q w H1) : Post L E' Rv G H ι μ Q r := by
  cases r with
  | ok a μ' => exact fun w G' H' ι' st hr rv => k w a μ' G' H' ι' st hr rv (Post.step h st)
  | ex x μ' => exact h.elim
  | bad => exact h.elim
theorem asn_ok {e : Expr} (h : okE e = true) (es : List Expr) (env : Env) : (assignEach (e :: es) env).map (·.2) = assign e env :: (assignEach es env).map (·.2) := by
  cases e <;> first | rfl | (cases h; done)
theorem sngs_cons (h1 : SndG c a sl (asg T R R1 t)) (h2 : SndGs c es sl2 (asgs T R R1 ts)) (ha : okE a = true) : SndGs c (a :: es) (sl ++ sl2) (asgs T R R1 (.cons t ts)) := .intro fun S ws vs r E Q q => by
  refine ⟨gCons (tG c a) (tGs c es), fun X f => pgs_cons (pg_tG f) (pgs_tGs f) (asn_ok ha _ _), ?_⟩
  cases r with
  | nil => exact Post.elimB q
  | @cons w ws v vs rv rvs =>
    rw [asgs_cons, nox_bnd] at q
    refine ⟨w, ws, rfl, h1 S _ _ rv _ (q.noxE fun σ1 δ1 μ1 G1 H1 ι1 st hr ⟨df, S1⟩ q => ?_)⟩
    refine h2.run S1 _ _ (rvs.mono st.g st.pre') E Q (Post.bnd (Rv := RvG c sl2 σ1) (f := fun a μ => Res.ok a μ) (Rw := RvG c (sl ++ sl2) _) (Q2 := Q) (by
      cases z : (asgs T R R1 ts vs δ1 μ1) with
      | ok a μ' => rw [z] at q; exact q
      | ex x μ' => rw [z] at q; exact q.elim
      | bad => rw [z] at q; exact q.elim) fun σ2 δ2 μ2 G2 H2 ι2 st2 hr2 ⟨df2, S2⟩ q => ?_)
    exact q.ok hr2 ⟨⟨df2.1.trans df.1, fun j hj => (df2.2 j fun z => hj (List.mem_append_right _ z)).trans (df.2 j fun z => hj (List.mem_append_left _ z))⟩, S2⟩
/-- no star among targets -/
theorem asn_len : ∀ {es : List Expr} (h : es.all okE = true) (env : Env), (assignEach es env).length = es.length ∧ (assignEach es env).findIdx? (·.1) = none
  | [], _, _ => ⟨rfl, rfl⟩
  | e :: es, h, env => by
    rw [List.all_cons, Bool.and_eq_true] at h
    obtain ⟨h1, h2⟩ := asn_len h.2 env
    have e1 : assignEach (e :: es) env = (false, assign e env) :: assignEach es env := by
      have := h.1
      cases e <;> first | rfl | (cases this; done)
    rw [e1]
    refine ⟨by rw [List.length_cons, List.length_cons, h1], ?_⟩
    rw [List.findIdx?_cons]
    simp only [Bool.false_eq_true, if_false]
    rw [h2]; rfl
theorem sng_tp {k : Nat} (h : SndGs c es sl (asgs T R R1 ts)) (hc : c.calm = true) (ho : es.all okE = true) (hl : es.length = tgsLen ts) : SndG c (.Tuple es k pos) sl (asg T R R1 (.tp ts)) :=
  SndG.mk (t := gTup c.L.K es.length (tGs c es)) (fun X f => by rw [← f.K]; exact pg_tup (f.calm.trans hc) (pgs_tGs f) (asn_len ho _).1 (asn_len ho _).2) fun S w v r Q q => by
    rw [asg_tp] at q
    split at q
    · rename_i ds
      obtain ⟨hz, q⟩ := q.need
      have hz := of_decide_eq_true hz
      obtain ⟨a, xs, rfl, s, t⟩ := dr_tup r
      exact ⟨a, xs, rfl, ex_t S.hr.gh s, by rw [drs_len t, hz, hl], h.run S _ _ (drs_v t) _ Q q⟩
    · exact q.elim
/-- o[i] = v, o a list -/
theorem asub_ok {o i : Expr} (h : okE i = true) (pos : Pos) (env : Env) (v : Value) : assign (.Subscript o i pos) env v = (do
      let ov ← holding [v] (eval o env)
      let iv ← holding [v, ov] (eval i env)
      standAt pos
      holding [v, ov, iv] (setItem ov iv v)
      release [v, ov, iv] []) := by
  cases i <;> first | rfl | (cases h; done)
end
end Mp
end
section
set_option Elab.async false
set_option linter.all false
set_option maxRecDepth 100000
set_option maxHeartbeats 2000000
namespace Mp
open PySem L2 PySem.Spec PyProof.Rows
open Evl (Ex ex_l ex_t fresh_back)
/-! ### dicts walked -/
section
variable {L : Lk} {X : Ext} {G H : Hp} {ι : Iot} {μ : Heap}
theorem HR.fpairs (h : HR L G H ι μ) {w : V} {v : Val} (r : VR L X G ι w v) {kvs : List (D × D)} (q : Mp.fpairs μ v = some kvs) : ∃ (a : Addr) (o : Obj) (ks : List Key) (ws : List V) (ds : List D), w = .ref a ∧ kvs = (ks.map kD).zip ds ∧ G a = some (.frz o (.dK (ks.zip ws))) ∧ ks.length = ws.length ∧ Drs L G ws ds := by
  have data : ∀ {x : D}, Dr L G w x → x = .dct kvs → ∃ (a : Addr) (o : Obj) (ks : List Key) (ws : List V) (ds : List D), w = .ref a ∧ kvs = (ks.map kD).zip ds ∧ G a = some (.frz o (.dK (ks.zip ws))) ∧ ks.length = ws.length ∧ Drs L G ws ds := by
    intro x hd e
    subst e
    cases hd with
    | @dct a o ks vs ds rd hl t => exact ⟨a, o, ks, vs, ds, rfl, rfl, rd, hl, t⟩
  cases v with
  | d x =>
    cases x <;> first | (cases q; done) | skip
    cases q
    exact data r rfl
  | ref i =>
    unfold Mp.fpairs at q
    simp only at q
    split at q
    · rename_i kvs' e
      cases q
      obtain ⟨p, h1, rfl, dd⟩ := h.ref r e
      exact data dd rfl
    · cases q
  | clo _ _ => cases q
  | exn _ => cases q
theorem zip_at {α β : Type} {as : List α} {bs : List β} {i : Nat} {x : α} {y : β} (h1 : as[i]? = some x) (h2 : bs[i]? = some y) : (as.zip bs)[i]? = some (x, y) := by
  rw [List.getElem?_zip_eq_some]; exact ⟨h1, h2⟩
theorem zlen {α β γ : Type} {as : List α} {bs : List β} {cs : List γ} (h : as.length = bs.length) (h2 : bs.length = cs.length) : (as.zip bs).length = (as.zip cs).length := by
  rw [List.length_zip, List.length_zip]; omega
/-- what stands at i of a table's pairs -/
theorem tab_at {ks : List Key} {ws : List V} {ds : List D} (hl : ks.length = ws.length) (t : Drs L G ws ds) {i : Nat} {k : D} {d : D} (h : ((ks.map kD).zip ds)[i]? = some (k, d)) : ∃ k' x, k = kD k' ∧ (ks.zip ws)[i]? = some (k', x) ∧ Dr L G x d := by
  rw [List.getElem?_zip_eq_some] at h
  obtain ⟨h1, h2⟩ := h
  rw [List.getElem?_map, Option.map_eq_some_iff] at h1
  obtain ⟨k', h1, rfl⟩ := h1
  obtain ⟨x, h3, h4⟩ := drs_get t h2
  exact ⟨k', x, rfl, zip_at h1 h3, h4⟩
theorem tab_len {ks : List Key} {ws : List V} {ds : List D} (hl : ks.length = ws.length) (t : Drs L G ws ds) : ((ks.map kD).zip ds).length = (ks.zip ws).length := by
  rw [List.length_zip, List.length_zip, List.length_map, ← drs_len t]
theorem WR.vals {a : Addr} {o : Obj} {ks : List Key} {ws : List V} {ds : List D} (hg : G a = some (.frz o (.dK (ks.zip ws)))) (hl : ks.length = ws.length) (t : Drs L G ws ds) : WR L X G ι (Itd a o (ks.zip ws)) (((ks.map kD).zip ds).map fun p => .d p.2, []) := fun i {G' H' ι' μ'} h e p g => by
  have hH : H' a = some (.frz o (.dK (ks.zip ws))) := h.gh _ _ (e _ _ hg)
  refine ⟨fun hi => ⟨hH, by rw [List.length_map, tab_len hl t] at hi; exact hi⟩, fun v hv => ?_⟩
  rw [List.getElem?_map, Option.map_eq_some_iff] at hv
  obtain ⟨⟨k, d⟩, hv, rfl⟩ := hv
  obtain ⟨k', x, rfl, h1, h2⟩ := tab_at hl t hv
  refine ⟨⟨hH, (List.getElem?_eq_some_iff.mp h1).1⟩, fun y H2 ⟨e2, k2, h3⟩ => ?_⟩
  subst e2
  rw [h1] at h3; cases h3
  exact ⟨G', h, .refl (Nat.le_refl _), dr_ex e h2⟩
theorem WR.keys {a : Addr} {o : Obj} {ks : List Key} {ws : List V} {ds : List D} (hg : G a = some (.frz o (.dK (ks.zip ws)))) (hl : ks.length = ws.length) (t : Drs L G ws ds) : WR L X G ι (Itk a o (ks.zip ws)) (((ks.map kD).zip ds).map fun p => .d p.1, []) := fun i {G' H' ι' μ'} h e p g => by
  have hH : H' a = some (.frz o (.dK (ks.zip ws))) := h.gh _ _ (e _ _ hg)
  refine ⟨fun hi => ⟨hH, by rw [List.length_map, tab_len hl t] at hi; exact hi⟩, fun v hv => ?_⟩
  rw [List.getElem?_map, Option.map_eq_some_iff] at hv
  obtain ⟨⟨k, d⟩, hv, rfl⟩ := hv
  obtain ⟨k', x, rfl, h1, h2⟩ := tab_at hl t hv
  refine ⟨⟨hH, (List.getElem?_eq_some_iff.mp h1).1⟩, fun y H2 ⟨e2, k2, v2, h3, h4⟩ => ?_⟩
  subst e2
  rw [h1] at h3; cases h3
  subst h4
  refine ⟨G', h, .refl (Nat.le_refl _), ?_⟩
  show Dr L G' (kV k') (kD k')
  cases k' with
  | inl i => exact .int i
  | inr s => exact .str s
theorem dr_kV (L : Lk) (G : Hp) (k : Key) : Dr L G (kV k) (kD k) := by
  cases k with
  | inl i => exact .int i
  | inr s => exact .str s
theorem WR.itms {a : Addr} {o : Obj} {ks : List Key} {ws : List V} {ds : List D} (hg : G a = some (.frz o (.dK (ks.zip ws)))) (hl : ks.length = ws.length) (t : Drs L G ws ds) : WR L X G ι (Iti a o (ks.zip ws)) (((ks.map kD).zip ds).map fun p => .d (.tup [p.1, p.2]), []) := fun i {G' H' ι' μ'} h e p g => by
  have hH : H' a = some (.frz o (.dK (ks.zip ws))) := h.gh _ _ (e _ _ hg)
  refine ⟨fun hi => ⟨hH, by rw [List.length_map, tab_len hl t] at hi; exact hi⟩, fun v hv => ?_⟩
  rw [List.getElem?_map, Option.map_eq_some_iff] at hv
  obtain ⟨⟨k, d⟩, hv, rfl⟩ := hv
  obtain ⟨k', x, rfl, h1, h2⟩ := tab_at hl t hv
  refine ⟨⟨hH, (List.getElem?_eq_some_iff.mp h1).1⟩, fun y H2 ⟨T, k2, v2, h3, h4, h5, h6⟩ => ?_⟩
  rw [h1] at h3; cases h3
  subst h4 h6
  obtain ⟨k3, s3⟩ := h.grow (p := T) (.tup [kV k', x]) h5
  exact ⟨_, k3, s3, .tup (SqT.of upd_same) (.cons (dr_kV L _ k') (.cons (dr_ex (e.trans s3.g) h2) .nil))⟩
end
section
variable {c : Ctx} {tg a : Expr} {T : Tbl} {R R1 : Run} {ea : E} {apos cpos : Pos}
theorem sni_vals (h : SndE c a (ev T R R1 ea)) (hn : nsE a = true) (hl : (apos.endLine == cpos.line) = true) : SndI c tg (.Call (.Attribute a "values" apos) [] [] cpos) (evi T R R1 (.vals ea)) :=
  SndI.mk (t := iVals (tE c a)) (fun X f => pi_values (pe_tE f) (base_ok hn _ _) hl) fun S Q q => by
    rw [evi_vals] at q
    refine h S _ (q.bnd fun y v μ1 G1 H1 ι1 st hr rv q => ?_)
    split at q
    · rename_i kvs hp
      obtain ⟨p, o, ks, ws, ds, rfl, rfl, hg, hl, t⟩ := hr.fpairs rv hp
      exact ⟨p, o, _, rfl, hr.gh _ _ hg, q.ok hr (WR.vals hg hl t)⟩
    · exact q.elim
theorem sni_keysM (h : SndE c a (ev T R R1 ea)) (hn : nsE a = true) (hl : (apos.endLine == cpos.line) = true) : SndI c tg (.Call (.Attribute a "keys" apos) [] [] cpos) (evi T R R1 (.keys ea)) :=
  SndI.mk (t := iKeysM (tE c a)) (fun X f => pi_keysM (pe_tE f) (base_ok hn _ _) hl) fun S Q q => by
    rw [evi_keys] at q
    refine h S _ (q.bnd fun y v μ1 G1 H1 ι1 st hr rv q => ?_)
    split at q
    · rename_i kvs hp
      obtain ⟨p, o, ks, ws, ds, rfl, rfl, hg, hl, t⟩ := hr.fpairs rv hp
      exact ⟨p, o, _, rfl, hr.gh _ _ hg, q.ok hr (WR.keys hg hl t)⟩
    · exact q.elim
theorem sni_keys (h : SndE c a (ev T R R1 ea)) : SndI c tg a (evi T R R1 (.keys ea)) :=
  SndI.mk (t := iKeys (tE c a)) (fun X f => pi_keys (pe_tE f)) fun S Q q => by
    rw [evi_keys] at q
    refine h S _ (q.bnd fun y v μ1 G1 H1 ι1 st hr rv q => ?_)
    split at q
    · rename_i kvs hp
      obtain ⟨p, o, ks, ws, ds, rfl, rfl, hg, hl, t⟩ := hr.fpairs rv hp
      exact ⟨p, o, rfl, .inl ⟨_, hr.gh _ _ hg, q.ok hr (WR.keys hg hl t)⟩⟩
    · exact q.elim
theorem sni_itms {elts : List Expr} {kk : Nat} {tpos : Pos} (h : SndE c a (ev T R R1 ea)) (hn : nsE a = true) (hl : (apos.endLine == cpos.line) = true) : SndI c (.Tuple elts kk tpos) (.Call (.Attribute a "items" apos) [] [] cpos) (evi T R R1 (.itms ea)) :=
  SndI.mk (t := iItems (tE c a)) (fun X f => pi_items (pe_tE f) (base_ok hn _ _) hl) fun S Q q => by
    rw [evi_itms] at q
    refine h S _ (q.bnd fun y v μ1 G1 H1 ι1 st hr rv q => ?_)
    split at q
    · rename_i kvs hp
      obtain ⟨p, o, ks, ws, ds, rfl, rfl, hg, hl, t⟩ := hr.fpairs rv hp
      exact ⟨p, o, _, rfl, hr.gh _ _ hg, q.ok hr (WR.itms hg hl t)⟩
    · exact q.elim
end
end Mp
end
section
set_option Elab.async false
set_option linter.all false
set_option maxRecDepth 100000
set_option maxHeartbeats 2000000
namespace Mp
open PySem L2 PySem.Spec PyProof.Rows
open Evl (Ex ex_l ex_t fresh_back)
/-! ### comprehensions -/
def Ctx.blk (c : Ctx) (scope : Scope) : Ctx := { c with sc := relS scope c.sc, W := fun _ _ _ _ => False, fn := fun x => scope.names.lookup x == some .cell, su := none, top := false }
theorem fits_blk {c : Ctx} {X : Cx} (f : Fits c X) (scope : Scope) (s : Shared) (H : Hp) (C : Addr) (cl : List (Str × Addr)) (fp : List Addr) : Fits (c.blk scope) (X.blk s H scope (compEnvC scope cl C X.env) fp) :=
  ⟨f.p, f.w, f.K, f.mg, f.base, f.N, by show relS scope X.env.scope = relS scope c.sc; rw [f.sc], f.calm, f.room, f.un, takes0, (fun _ z => z), f.nd, (fun _ _ _ z => nomatch z), fun z => nomatch z⟩
theorem St.blk {c : Ctx} {G H : Hp} {σ : L2.St} {ι : Iot} {δ : Slots} {μ : Heap} (S : St c G H σ ι δ μ) (scope : Scope) : St (c.blk scope) G H σ ι δ μ := ⟨S.hr, S.len, S.sl⟩
theorem wipe_get (σ : L2.St) : ∀ (vs : List Nat) (j : Nat), (wipe σ vs)[j]? = if j ∈ vs then (if j < σ.length then some none else none) else σ[j]?
  | [], j => by simp [wipe]
  | v :: vs, j => by
    unfold wipe
    by_cases hj : v = j
    · subst hj
      rw [if_pos List.mem_cons_self]
      by_cases hl : v < σ.length
      · rw [if_pos hl, List.getElem?_set_self (by rw [wipe_length]; exact hl)]
      · rw [if_neg hl, List.getElem?_eq_none (by rw [List.length_set, wipe_length]; omega)]
    · rw [List.getElem?_set_ne hj, wipe_get σ vs j]
      by_cases hm : j ∈ vs
      · rw [if_pos hm, if_pos (List.mem_cons_of_mem _ hm)]
      · rw [if_neg hm, if_neg (fun z => (List.mem_cons.mp z).elim (fun q => hj q.symm) hm)]
theorem wipe_diff {σ σ2 : L2.St} {vs sl : List Nat} (h : Diff sl (wipe σ vs) σ2) (hs : ∀ j ∈ sl, j ∈ vs) : wipe σ2 vs = wipe σ vs := by
  apply List.ext_getElem?
  intro j
  rw [wipe_get, wipe_get]
  have hl : σ2.length = σ.length := by rw [h.1, wipe_length]
  rw [hl]
  by_cases hm : j ∈ vs
  · rw [if_pos hm, if_pos hm]
  · rw [if_neg hm, if_neg hm, h.2 j (fun z => hm (hs j z)), wipe_get, if_neg hm]
theorem kill_at : ∀ {is : List Nat} {δ : Slots} {j : Nat} {v : Val}, (killS is δ).at j = some v → δ.at j = some v ∧ j ∉ is
  | [], δ, j, v, h => ⟨h, fun z => nomatch z⟩
  | i :: is, δ, j, v, h => by
    obtain ⟨h1, h2⟩ := kill_at (is := is) (δ := δ.set i none) h
    rcases at_set h1 with ⟨rfl, _, e⟩ | ⟨ne, e⟩
    · cases e
    · exact ⟨e, fun z => (List.mem_cons.mp z).elim (fun q => ne q.symm) h2⟩
theorem kill_len : ∀ (is : List Nat) (δ : Slots), (killS is δ).length = δ.length
  | [], δ => rfl
  | i :: is, δ => (kill_len is (δ.set i none)).trans (by rw [List.length_set])
theorem St.wipe {c : Ctx} {G H : Hp} {σ : L2.St} {ι : Iot} {δ : Slots} {μ : Heap} (S : St c G H σ ι δ μ) {vs sl : List Nat} (h : ∀ j ∈ vs, j ∈ sl) : St c G H (L2.wipe σ vs) ι (killS sl δ) μ :=
  ⟨S.hr, by rw [wipe_length, kill_len]; exact S.len, fun i v hi => by
    obtain ⟨h1, h2⟩ := kill_at hi
    obtain ⟨w, h3, h4⟩ := S.sl i v h1
    exact ⟨w, by rw [wipe_get, if_neg fun z => h2 (h i z)]; exact h3, h4⟩⟩
/-- the heap without what stands at D -/
def hole (H : Hp) (D : Addr) : Hp := fun a => if a = D then none else H a
theorem hole_same {H : Hp} {D : Addr} : hole H D D = none := if_pos rfl
theorem hole_ne {H : Hp} {D a : Addr} (h : a ≠ D) : hole H D a = H a := if_neg h
theorem hole_upd {H : Hp} {D : Addr} {o : HO} : hole (upd H D o) D = hole H D := by
  funext a
  by_cases h : a = D
  · subst h; rw [hole_same, hole_same]
  · rw [hole_ne h, hole_ne h, upd_ne h]
theorem upd_hole {H : Hp} {D : Addr} {o : HO} (h : H D = some o) : upd (hole H D) D o = H := by
  funext a
  by_cases e : a = D
  · subst e; rw [upd_same, h]
  · rw [upd_ne e, hole_ne e]
theorem hole_none {H : Hp} {D : Addr} (h : H D = none) : hole H D = H := by
  funext a
  by_cases e : a = D
  · subst e; rw [hole_same, h]
  · rw [hole_ne e]
/-- a thing of nobody's stands at D -/
structure Hol (L : Lk) (X : Ext) (G H : Hp) (ι : Iot) (μ : Heap) (D : Addr) (acc : List Val) : Prop where
  hr : HR L G H ι μ
  g : G D = none
  f : ¬ Foot ι μ D
  h : ∃ xs, H D = some (.lst xs) ∧ VRs L X G ι xs acc
section
variable {L : Lk} {X : Ext} {G H G1 H1 : Hp} {ι ι1 : Iot} {μ μ1 : Heap} {D : Addr} {acc : List Val}
theorem Hol.noD (h : Hol L X G H ι μ D acc) : HR L G (Mp.hole H D) ι μ := by
  obtain ⟨xs, hd, _⟩ := h.h
  refine h.hr.keep (Ex.refl G) (fun a u q => ?_) fun a f => ⟨(h.hr.own a f).1, ?_⟩
  · rw [hole_ne fun z => by rw [z, h.g] at q; cases q]; exact h.hr.gh a u q
  · rw [hole_ne fun z => h.f (by rw [← z]; exact f)]
theorem Hol.step (h : Hol L X G H ι μ D acc) (st : Stp ι.length G H ι μ G1 H1 ι1 μ1) (hr : HR L G1 H1 ι1 μ1) : Hol L X G1 H1 ι1 μ1 D acc ∧ Stp ι.length G (Mp.hole H D) ι μ G1 (Mp.hole H1 D) ι1 μ1 := by
  obtain ⟨xs, hd, hv⟩ := h.h
  refine ⟨⟨hr, (st.old D (by rw [hd]; exact fun z => nomatch z) h.f).trans h.g, fun z => ?_, xs, st.keep D _ hd h.f, hv.mono st.g st.pre'⟩, st.g, st.pre, st.le, fun a o q nf => ?_, fun a q nf => ?_, fun a f => ?_⟩
  · rcases st.live D z with z | z
    · exact h.f z
    · rw [hd] at z; cases z
  · by_cases e : a = D
    · subst e; rw [hole_same] at q; cases q
    · rw [hole_ne e] at q ⊢; exact st.keep a o q nf
  · by_cases e : a = D
    · subst e; exact absurd hole_same q
    · rw [hole_ne e] at q; exact st.old a q nf
  · rcases st.live a f with z | z
    · exact .inl z
    · refine .inr ?_
      by_cases e : a = D
      · subst e; exact hole_same
      · rw [hole_ne e]; exact z
theorem Hol.push (h : Hol L X G H ι μ D acc) {x : V} {v : Val} (r : VR L X G ι x v) {xs : List V} (hd : H D = some (.lst xs)) : Hol L X G (upd H D (.lst (xs ++ [x]))) ι μ D (acc ++ [v]) := by
  obtain ⟨ys, hd', hv⟩ := h.h
  rw [hd] at hd'; cases hd'
  refine ⟨h.hr.keep (Ex.refl G) (fun a u q => ?_) (fun a f => ⟨(h.hr.own a f).1, upd_ne fun z => h.f (by rw [← z]; exact f)⟩), h.g, h.f, _, upd_same, vrs_app hv (.cons r .nil)⟩
  rw [upd_ne fun z => by rw [z, h.g] at q; cases q]; exact h.hr.gh a u q
theorem hol_new (hr : HR L G H ι μ) (hD : H D = none) : Hol L X G (upd H D (.lst [])) ι μ D [] :=
  ⟨hr.keep (Ex.refl G) (fun a u q => by rw [upd_ne (ne_of_none (hr.gh a u q) hD)]; exact hr.gh a u q) (fun a f => ⟨(hr.own a f).1, upd_ne fun z => hr.nofoot hD (by rw [← z]; exact f)⟩), fresh_back hr.gh hD, hr.nofoot hD, [], upd_same, .nil⟩
end
theorem collN {β : Type} {g : List (Nat × Cell)} {step : Val → Heap → Res (List β)} {μ : Heap} (h : guardOk g μ) : collect g step [] μ = .ok [] μ := by
  unfold collect; exact if_pos h
theorem collS {β : Type} {g : List (Nat × Cell)} {step : Val → Heap → Res (List β)} {v : Val} {vs : List Val} {μ : Heap} (h : guardOk g μ) : collect g step (v :: vs) μ = (step v μ).bnd fun a μ1 => (collect g step vs μ1).bnd fun b μ2 => .ok (a ++ b) μ2 := by
  rw [collect]; exact if_pos h
theorem collB {β : Type} {g : List (Nat × Cell)} {step : Val → Heap → Res (List β)} {vs : List Val} {μ : Heap} (h : ¬ guardOk g μ) : collect g step vs μ = .bad := by
  cases vs <;> (rw [collect]; exact if_neg h)
section
variable {c : Ctx} {tg it elt : Expr} {ifs : List Expr} {scope : Scope} {T : Tbl} {R R1 : Run} {t : Tg} {ec : TO} {ee : E} {w : Bool}
/-- no exception comes from r, seen from beside D -/
theorem Hol.noxE {α β α2 : Type} {L : Lk} {X : Ext} {E E' : XK} {Rv : Hp → Hp → Iot → Heap → β → α → Prop} {Rw : Hp → Hp → Iot → Heap → V → α2 → Prop} {G H : Hp} {ι : Iot} {μ : Heap} {D : Addr} {acc : List Val} (hD : Hol L X G H ι μ D acc) {Q : β → Hp → Prop} {Q2 : V → Hp → Prop} {r : Res α} {f : α → Heap → Res α2} (h : Post L E Rw G (hole H D) ι μ Q2 (r.nox.bnd f))
    (k : ∀ w a μ1 G1 H1 ι1, Stp ι.length G H ι μ G1 H1 ι1 μ1 → HR L G1 H1 ι1 μ1 → Hol L X G1 H1 ι1 μ1 D acc → Rv G1 H1 ι1 μ1 w a → Post L E Rw G1 (hole H1 D) ι1 μ1 Q2 (f a μ1) → Q w H1) : Post L E' Rv G H ι μ Q r := by
  cases r with
  | ok a μ' =>
    intro w G' H' ι' st hr rv
    obtain ⟨h1, h2⟩ := hD.step st hr
    exact k w a μ' G' H' ι' st hr h1 rv (Post.step h h2)
  | ex x μ' => exact h.elim
  | bad => exact h.elim
theorem Post.stepH {α β : Type} {L : Lk} {E : XK} {Rv : Hp → Hp → Iot → Heap → β → α → Prop} {G H G1 H1 : Hp} {ι ι1 : Iot} {μ μ1 : Heap} {Q : β → Hp → Prop} {r : Res α} (h : Post L E Rv G H ι μ Q r) (s : Stp ι.length G H ι μ G1 H1 ι1 μ1) : Post L E Rv G1 H1 ι1 μ1 Q r := h.step s
theorem lc_ok (hg : SndG (c.blk scope) tg (tgSlots t) (asg T R R1 t)) (hc : SndTs (c.blk scope) ifs (evc T R R1 ec)) (he : SndE (c.blk scope) elt (ev T R R1 ee)) {vs : List Nat} (hv1 : ∀ j ∈ vs, j ∈ tgSlots t) (hv2 : ∀ j ∈ tgSlots t, j ∈ vs)
    {G H : Hp} {σ : L2.St} {ι : Iot} {δ : Slots} {μ : Heap} (S : St c G H σ ι δ μ) {J : L2.It} {wk : Walk} (wr : WR c.L c.X G ι J wk) {Q : VK} (q : Post c.L (c.E σ) (RvV c.L c.X) G H ι μ Q ((collect wk.2 (lcF T R R1 t ec ee (killS (tgSlots t) δ)) wk.1 μ).nox.bnd (newL w))) :
    ∀ D, H D = none → ∃ W : Nat → Nat → Hp → Prop, (∃ m, W 0 m (upd H D (.lst []))) ∧ ∀ i m H, W i m H →
      (J.stop i H ∧ Q (.ref D) H) ∨ (J.go i H ∧ ∃ Nx : Hp → Prop, (∀ H', Nx H' → ∃ m', m' < m ∧ W (i + 1) m' H') ∧ ∀ x H', J.yld i H x H' → tG (c.blk scope) tg x (wipe σ vs) H' fun σ2 H2 => wipe σ2 vs = wipe σ vs ∧ tTs (c.blk scope) ifs σ2 H2 fun b H3 =>
        if b = true then tE (c.blk scope) elt σ2 H3 fun y H4 => ∃ acc, H4 D = some (.lst acc) ∧ acc.length < sizeLine ∧ Nx (upd H4 D (.lst (acc ++ [y]))) else Nx H3) := by
  intro D hD
  -- between turns
  refine ⟨fun i m H' => m = wk.1.length - i ∧ i ≤ wk.1.length ∧ ∃ G' ι' μ' acc, Hol c.L c.X G' H' ι' μ' D acc ∧ Ex G G' ∧ Pre ι ι' ∧ Post c.L (c.E σ) (RvV c.L c.X) G' (hole H' D) ι' μ' Q ((collect wk.2 (lcF T R R1 t ec ee (killS (tgSlots t) δ)) (wk.1.drop i) μ').nox.bnd fun b μ => newL w (acc ++ b) μ), ⟨_, rfl, Nat.zero_le _, G, ι, μ, [], hol_new S.hr hD, Ex.refl G, Pre.refl _, ?_⟩, ?_⟩
  · rw [hole_upd, hole_none hD, List.drop_zero]
    exact q
  · rintro i m H' ⟨rfl, hi, G', ι', μ', acc, hol, eg, pr, q⟩
    by_cases gd : guardOk wk.2 μ'
    · obtain ⟨w1, w2⟩ := wr i hol.hr eg pr gd
      by_cases hlt : i < wk.1.length
      · have hv : wk.1[i]? = some wk.1[i] := List.getElem?_eq_getElem hlt
        obtain ⟨go, yl⟩ := w2 _ hv
        refine .inr ⟨go, fun H2 => i + 1 ≤ wk.1.length ∧ ∃ G' ι' μ' acc, Hol c.L c.X G' H2 ι' μ' D acc ∧ Ex G G' ∧ Pre ι ι' ∧ Post c.L (c.E σ) (RvV c.L c.X) G' (hole H2 D) ι' μ' Q ((collect wk.2 (lcF T R R1 t ec ee (killS (tgSlots t) δ)) (wk.1.drop (i + 1)) μ').nox.bnd fun b μ => newL w (acc ++ b) μ),
          fun H2 z => ⟨wk.1.length - (i + 1), by omega, rfl, z⟩, fun x H2 hy => ?_⟩
        obtain ⟨G2, hr2, st2, rx⟩ := yl x H2 hy
        obtain ⟨hol2, sth⟩ := hol.step st2 hr2
        have q := q.step sth
        rw [List.drop_eq_getElem_cons hlt, collS gd, nox_bnd, bnd_assoc] at q
        have S2 : St (c.blk scope) G2 H2 (wipe σ vs) ι' (killS (tgSlots t) δ) μ' := ⟨hr2, by rw [wipe_length, kill_len]; exact S.len, fun j v hj => by
          obtain ⟨h1, h2⟩ := kill_at hj
          obtain ⟨w, h3, h4⟩ := S.sl j v h1
          exact ⟨w, by rw [wipe_get, if_neg fun z => h2 (hv1 j z)]; exact h3, h4.mono (eg.trans st2.g) pr⟩⟩
        unfold lcF at q
        rw [nox_bnd, bnd_assoc] at q
        refine hg S2 _ _ rx _ (hol2.noxE q fun σ2 δ2 μ3 G3 H3 ι3 st3 hr3 hol3 ⟨df, S3⟩ q => ⟨wipe_diff df hv2, ?_⟩)
        have p3 : Pre ι ι3 := pr.trans st3.pre'
        have e3 : Ex G G3 := (eg.trans st2.g).trans st3.g
        rw [nox_bnd, bnd_assoc] at q
        refine hc S3 _ (hol3.noxE q fun b b' μ4 G4 H4 ι4 st4 hr4 hol4 rb q => ?_)
        have rb : b = b' := rb
        subst rb
        have p4 : Pre ι ι4 := p3.trans st4.pre'
        have e4 : Ex G G4 := e3.trans st4.g
        cases b with
        | true =>
          rw [if_pos rfl] at q ⊢
          rw [nox_bnd, bnd_assoc] at q
          refine he (S3.step st4 hr4) _ (hol4.noxE q fun y v μ5 G5 H5 ι5 st5 hr5 hol5 ry q => ?_)
          obtain ⟨xs, hd, hxs⟩ := hol5.h
          have q : Post c.L (c.E σ) (RvV c.L c.X) G5 (hole H5 D) ι5 μ5 Q ((collect wk.2 (lcF T R R1 t ec ee (killS (tgSlots t) δ)) (wk.1.drop (i + 1)) μ5).nox.bnd fun b μ => newL w (acc ++ ([v] ++ b)) μ) := by
            cases z : collect wk.2 (lcF T R R1 t ec ee (killS (tgSlots t) δ)) (wk.1.drop (i + 1)) μ5 <;> (have q' := q; unfold lcF at z; simp only [nox_ok, bnd_ok] at q'; rw [z] at q'; exact q')
          have hz : xs.length < sizeLine := by
            cases z : collect wk.2 (lcF T R R1 t ec ee (killS (tgSlots t) δ)) (wk.1.drop (i + 1)) μ5 with
            | ok b μ6 =>
              rw [z] at q
              have hz := (show Post _ _ _ _ _ _ _ _ (newL w (acc ++ ([v] ++ b)) μ6) from q).need.1
              have hz := of_decide_eq_true hz
              rw [List.length_append, List.length_append, List.length_singleton] at hz
              rw [vrs_len hxs]
              show acc.length < 16777216
              omega
            | ex x μ6 => rw [z] at q; exact q.elim
            | bad => rw [z] at q; exact q.elim
          refine ⟨xs, hd, hz, by omega, G5, ι5, μ5, acc ++ [v], hol5.push ry hd, e4.trans st5.g, p4.trans st5.pre', ?_⟩
          rw [hole_upd]
          simp only [List.append_assoc]
          exact q
        | false =>
          rw [if_neg Bool.false_ne_true] at q ⊢
          refine ⟨by omega, G4, ι4, μ4, acc, hol4, e4, p4, ?_⟩
          cases z : collect wk.2 (lcF T R R1 t ec ee (killS (tgSlots t) δ)) (wk.1.drop (i + 1)) μ4 <;> (have q' := q; unfold lcF at z; simp only [nox_ok, bnd_ok] at q'; rw [z] at q'; exact q')
      · have e : wk.1.drop i = [] := List.drop_eq_nil_of_le (by omega)
        rw [e, collN gd] at q
        refine .inl ⟨w1 (by omega), ?_⟩
        obtain ⟨xs, hd, hxs⟩ := hol.h
        have q2 : Post c.L (c.E σ) (RvV c.L c.X) G' (hole H' D) ι' μ' Q (newL w acc μ') := by
          have q : Post c.L (c.E σ) (RvV c.L c.X) G' (hole H' D) ι' μ' Q (newL w (acc ++ []) μ') := q
          rw [List.append_nil] at q; exact q
        have := q2.newL (p := D) hol.noD hxs hole_same
        rw [upd_hole hd] at this
        exact this
    · rw [collB gd] at q
      exact q.elim
end
end Mp
end
section
set_option Elab.async false
set_option linter.all false
set_option maxRecDepth 100000
set_option maxHeartbeats 2000000
namespace Mp
open PySem L2 PySem.Spec PyProof.Rows
open Evl (Ex ex_l ex_t fresh_back)
section
variable {c : Ctx} {tg it elt a b d : Expr} {ifs : List Expr} {scope : Scope} {T : Tbl} {R R1 : Run} {t : Tg} {ii : It} {ec : TO} {ee : E} {tt : Tt} {w : Bool} {pos spos py : Pos} {x : Str}
theorem snts_no : SndTs c [] (evc T R R1 .no) := .intro fun S Q q => ⟨tYes, fun X f => pts_nil, by rw [evc_no] at q; exact q.ok S.hr rfl⟩
theorem snts_so (h : SndT c a (evt T R R1 tt)) : SndTs c [a] (evc T R R1 (.so tt)) := .intro fun S Q q => ⟨tT c a, fun X f => pts_one (pt_tT f), by rw [evc_so] at q; exact h S Q q⟩
def ownOf (N : List Str) (is : List Nat) : List (Str × Nat) := is.map fun i => (N.getD i Str.empty, i)
theorem ownOf_snd (N : List Str) (is : List Nat) : (ownOf N is).map (·.2) = is := by
  unfold ownOf
  rw [List.map_map]
  exact List.map_id is
theorem snd_lc (hc : c.calm = true) (ok : BlkOk c.N c.sc scope (ownOf c.N (tgSlots t))) (hi : SndI c tg it (evi T R R1 ii)) (ho : okE it = true) (hg : SndG (c.blk scope) tg (tgSlots t) (asg T R R1 t)) (ht : SndTs (c.blk scope) ifs (evc T R R1 ec)) (he : SndE (c.blk scope) elt (ev T R R1 ee)) :
    SndE c (.ListComp elt [⟨tg, it, ifs, 0⟩] scope pos) (ev T R R1 (.lc w t ii ec ee)) :=
  SndE.mk (t := tLc (tI c tg it) (tG (c.blk scope) tg) (tTs (c.blk scope) ifs) (tE (c.blk scope) elt) ((ownOf c.N (tgSlots t)).map (·.2))) (fun X f => pe_lc (f.calm.trans hc) (f.N ▸ f.nd : X.N.Nodup) (pi_tI f) (by rw [f.N, f.sc]; exact ok) (fun s H C cl fp => pg_tG (fits_blk f scope s H C cl fp)) (fun s H C cl fp => pts_tTs (fits_blk f scope s H C cl fp)) (fun s H C cl fp => pe_tE (fits_blk f scope s H C cl fp)) (fold_ok ho _)) fun S Q q => by
    rw [ev_lc] at q
    rw [ownOf_snd]
    exact hi S _ (q.bnd fun J wk μ1 G1 H1 ι1 st hr wr q => lc_ok hg ht he (fun _ z => z) (fun _ z => z) (S.step st hr) wr q)
/-! ### statements -/
/-- what is asked behind a statement -/
def PostS (c : Ctx) (G H : Hp) (ι : Iot) (μ : Heap) (D : Ends) : RS → Prop
  | .ok δ' f μ' => ∀ σ' G' H' ι', Stp ι.length G H ι μ G' H' ι' μ' → St c G' H' σ' ι' δ' μ' → match f with
    | .nx => D.nx σ' H'
    | .bk => D.bk σ' H'
    | .ct => D.ct σ' H'
    | .rt v => ∀ w, VR c.L c.X G' ι' w v → D.rt w H'
  | .ex x δ' μ' => ∀ σ' G' H' ι', Stp ι.length G H ι μ G' H' ι' μ' → St c G' H' σ' ι' δ' μ' → EOk c.L (c.E σ') (Frs H ι μ) G' H' x
  | .bad => False
structure SndS (c : Ctx) (st : Stmt) (m : Slots → Heap → RS) : Prop where
  intro ::
  run : ∀ {G H σ ι δ μ}, St c G H σ ι δ μ → ∀ D, PostS c G H ι μ D (m δ μ) → tS c st D σ H
structure SndSs (c : Ctx) (sts : List Stmt) (m : Slots → Heap → RS) : Prop where
  intro ::
  run : ∀ {G H σ ι δ μ}, St c G H σ ι δ μ → ∀ D, PostS c G H ι μ D (m δ μ) → tSs c sts D σ H
instance {c : Ctx} {st : Stmt} {m : Slots → Heap → RS} : CoeFun (SndS c st m) fun _ => ∀ {G H σ ι δ μ}, St c G H σ ι δ μ → ∀ D, PostS c G H ι μ D (m δ μ) → tS c st D σ H := ⟨SndS.run⟩
instance {c : Ctx} {sts : List Stmt} {m : Slots → Heap → RS} : CoeFun (SndSs c sts m) fun _ => ∀ {G H σ ι δ μ}, St c G H σ ι δ μ → ∀ D, PostS c G H ι μ D (m δ μ) → tSs c sts D σ H := ⟨SndSs.run⟩
theorem SndS.mk {st : Stmt} {m : Slots → Heap → RS} {t : TS} (h : ∀ X, FitsS c X → PS X st t) (q : ∀ {G H σ ι δ μ}, St c G H σ ι δ μ → ∀ D, PostS c G H ι μ D (m δ μ) → t D σ H) : SndS c st m := ⟨fun S D p => ⟨t, h, q S D p⟩⟩
theorem SndSs.mk {sts : List Stmt} {m : Slots → Heap → RS} {t : TS} (h : ∀ X, FitsS c X → PSs X sts t) (q : ∀ {G H σ ι δ μ}, St c G H σ ι δ μ → ∀ D, PostS c G H ι μ D (m δ μ) → t D σ H) : SndSs c sts m := ⟨fun S D p => ⟨t, h, q S D p⟩⟩
section
variable {G H G1 H1 : Hp} {σ : L2.St} {ι ι1 : Iot} {δ : Slots} {μ μ1 : Heap} {D : Ends}
theorem PostS.step {r : RS} (h : PostS c G H ι μ D r) (s : Stp ι.length G H ι μ G1 H1 ι1 μ1) : PostS c G1 H1 ι1 μ1 D r := by
  cases r with
  | ok δ' f μ' => exact fun σ' G' H' ι' st S => h σ' G' H' ι' (s.go st) S
  | ex x δ' μ' => exact fun σ' G' H' ι' st S => (h σ' G' H' ι' (s.go st) S).mono fun _ z => s.frs z
  | bad => exact h
/-- an expression, then what follows -/
theorem PostS.thn {α β : Type} {Rv : Hp → Hp → Iot → Heap → β → α → Prop} {Q : β → Hp → Prop} {r : Res α} {f : α → Heap → RS} (S : St c G H σ ι δ μ) (h : PostS c G H ι μ D (r.then_ δ f))
    (k : ∀ w a μ1 G1 H1 ι1, Stp ι.length G H ι μ G1 H1 ι1 μ1 → HR c.L G1 H1 ι1 μ1 → Rv G1 H1 ι1 μ1 w a → PostS c G1 H1 ι1 μ1 D (f a μ1) → Q w H1) : Post c.L (c.E σ) Rv G H ι μ Q r := by
  cases r with
  | ok a μ' => exact fun w G' H' ι' st hr rv => k w a μ' G' H' ι' st hr rv (PostS.step h st)
  | ex x μ' => exact fun G' H' ι' st hr => h σ G' H' ι' st (S.step st hr)
  | bad => exact h
theorem PostS.nx (h : PostS c G H ι μ D (.ok δ .nx μ)) (S : St c G H σ ι δ μ) : D.nx σ H := h σ G H ι (.refl (Nat.le_refl _)) S
theorem PostS.elimB {P : Prop} (h : PostS c G H ι μ D .bad) : P := h.elim
end
theorem sns_pass : SndS c (.Pass pos) (exS T R R1 .pass) := SndS.mk (fun X f => ps_pass) fun S D q => by rw [exS_pass] at q; exact q.nx S
theorem sns_brk : SndS c (.Break pos) (exS T R R1 .brk) := SndS.mk (fun X f => ps_break) fun S D q => by rw [exS_brk] at q; exact q _ _ _ _ (.refl (Nat.le_refl _)) S
theorem sns_cont : SndS c (.Continue pos) (exS T R R1 .cont) := SndS.mk (fun X f => ps_continue) fun S D q => by rw [exS_cont] at q; exact q _ _ _ _ (.refl (Nat.le_refl _)) S
theorem sns_ret (h : SndE c a (ev T R R1 ee)) : SndS c (.Return (some a) pos) (exS T R R1 (.ret ee)) := SndS.mk (t := tRet (tE c a)) (fun X f => ps_ret (pe_tE f.toFits)) fun S D q => by
  rw [exS_ret] at q
  exact h S _ (q.thn S fun x v μ1 G1 H1 ι1 st hr rv q => q _ _ _ _ (.refl (Nat.le_refl _)) (S.step st hr) x rv)
theorem sns_retN : SndS c (.Return none pos) (exS T R R1 .retN) := SndS.mk (fun X f => ps_retN) fun S D q => by
  rw [exS_retN] at q
  exact q _ _ _ _ (.refl (Nat.le_refl _)) S _ Dr.non
theorem sns_expr (h : SndE c a (ev T R R1 ee)) (hn : ncE a = true) : SndS c (.Expr a pos) (exS T R R1 (.expr ee)) := SndS.mk (t := tDrop (tE c a)) (fun X f => ps_expr (pe_tE f.toFits) (swaps_ok hn _ _ _)) fun S D q => by
  rw [exS_expr] at q
  exact h S _ (q.thn S fun x v μ1 G1 H1 ι1 st hr rv q => q.nx (S.step st hr))
/-- x = e -/
theorem sns_asgN {i : Nat} {p1 : Pos} (h : SndE c a (ev T R R1 ee)) (hn : ncE a = true) (hi : c.N[i]? = some x) (hx : c.sc.names.lookup x = some .local ∨ (c.sc.names.lookup x = some .cell ∧ c.fn x = true)) : SndS c (.Assign [.Name x p1] a pos) (exS T R R1 (.asg (.nm i) ee)) :=
  SndS.mk (t := tAsg (tE c a) (gName i)) (fun X f => ps_set (f.N ▸ f.nd : X.N.Nodup) (by rw [f.N]; exact hi) (by show Loc X.env.scope x; rw [f.sc]; exact hx.imp (fun z => z) (fun z => z.1)) (pe_tE f.toFits) (swaps_ok hn _ _ _) (by
    rcases hx with z | z
    · right; rw [f.sc]; exact z
    · left; exact f.fn x z.2)) fun S D q => by
    rw [exS_asg] at q
    refine h S _ (q.thn S fun y v μ1 G1 H1 ι1 st hr rv q => ?_)
    rw [asg_nm] at q
    unfold need at q
    split at q
    · exact PostS.nx q ((S.step st hr).set i rv)
    · exact q.elimB
theorem swaps_cell {e : Expr} {x : Str} {p : Pos} {l : Nat} {env : Env} (hx : env.scope.names.lookup x = some .cell) : swapsWith e (some (.Name x p)) l env = pure false := by
  have hk : (env.kindOf x == some NameKind.local) = false := by
    show (env.scope.names.lookup x == some NameKind.local) = false
    rw [hx]; rfl
  cases e <;> first | rfl | (unfold swapsWith; simp only [hk, Bool.and_false, Bool.false_and])
/-- x = e, where x is another block's, too -/
theorem sns_asgNc {i : Nat} {p1 : Pos} (h : SndE c a (ev T R R1 ee)) (hi : c.N[i]? = some x) (hx : c.sc.names.lookup x = some .cell) (hf : c.fn x = true) : SndS c (.Assign [.Name x p1] a pos) (exS T R R1 (.asg (.nm i) ee)) :=
  SndS.mk (t := tAsg (tE c a) (gName i)) (fun X f => ps_set (f.N ▸ f.nd : X.N.Nodup) (by rw [f.N]; exact hi) (by show Loc X.env.scope x; rw [f.sc]; exact .inr hx) (pe_tE f.toFits) (swaps_cell (by rw [f.sc]; exact hx)) (.inl (f.fn x hf))) fun S D q => by
    rw [exS_asg] at q
    refine h S _ (q.thn S fun y v μ1 G1 H1 ι1 st hr rv q => ?_)
    rw [asg_nm] at q
    unfold need at q
    split at q
    · exact PostS.nx q ((S.step st hr).set i rv)
    · exact q.elimB
def noTup : Expr → Expr → Bool
  | .Tuple _ _ _, .Tuple _ _ _ => false
  | .List _ _, .Tuple _ _ _ => false
  | _, _ => true
theorem bnd_then {α β : Type} (r : Res α) (f : α → Heap → Res β) (δ : Slots) (k : β → Heap → RS) : (r.bnd f).then_ δ k = r.then_ δ fun a μ => (f a μ).then_ δ k := by cases r <;> rfl
theorem swst_ok {e v : Expr} (h : noTup e v = true) (env : Env) : swappedStores [e] v env = pure none := by
  cases e <;> first | rfl | (cases v <;> first | rfl | (cases h; done))
/-- a comprehension is not exchanged with what is no name -/
def ncT : Expr → Expr → Bool
  | .Subscript _ _ _, _ => true
  | .Attribute _ _ _, _ => true
  | _, a => ncE a
theorem swt_ok {b a : Expr} (h : ncT b a = true) (l : Nat) (env : Env) : swapsWithSole [b] a l env = pure false := by
  cases b <;> first
    | (cases a <;> first | rfl | (cases h; done); done)
    | (cases a <;> rfl)
/-- another target -/
theorem sns_asg {sl : List Nat} (h : SndE c a (ev T R R1 ee)) (hg : SndG c b sl (asg T R R1 t)) (hn : ncT b a = true) (hb : okE b = true) (hs : noTup b a = true) : SndS c (.Assign [b] a pos) (exS T R R1 (.asg t ee)) :=
  SndS.mk (t := tAsg (tE c a) (tG c b)) (fun X f => ps_asg (pe_tE f.toFits) (pg_tG f.toFits) (swt_ok hn _ _) (swst_ok hs _) (asn_ok hb _ _)) fun S D q => by
    rw [exS_asg] at q
    refine h S _ (q.thn S fun y v μ1 G1 H1 ι1 st hr rv q => ?_)
    exact hg (S.step st hr) _ _ rv _ (PostS.thn (S.step st hr) q fun σ2 δ2 μ2 G2 H2 ι2 st2 hr2 ⟨_, S2⟩ q => q.nx S2)
/-- two targets -/
theorem swst2_ok {e b1 b2 : Expr} (env : Env) : swappedStores [b1, b2] e env = pure none := by
  cases b1 <;> first | rfl | (cases e <;> rfl)
theorem sns_asg2 {b1 b2 : Expr} {t1 t2 : Tg} {s1 s2 : List Nat} (h : SndE c a (ev T R R1 ee)) (h1 : SndG c b1 s1 (asg T R R1 t1)) (h2 : SndG c b2 s2 (asg T R R1 t2)) (ha : okE b1 = true) (hb : okE b2 = true) : SndS c (.Assign [b1, b2] a pos) (exS T R R1 (.asg2 t1 t2 ee)) :=
  SndS.mk (t := tAsg2 (tE c a) (tG c b1) (tG c b2)) (fun X f => ps_asg2 (pe_tE f.toFits) (pg_tG f.toFits) (pg_tG f.toFits) (by rw [asn_ok ha, asn_ok hb]; rfl) (swst2_ok _)) fun S D q => by
    rw [exS_asg2] at q
    refine h S _ (q.thn S fun y v μ1 G1 H1 ι1 st hr rv q => ?_)
    refine h1 (S.step st hr) _ _ rv _ (PostS.thn (S.step st hr) q fun σ2 δ2 μ2 G2 H2 ι2 st2 hr2 ⟨_, S2⟩ q => ?_)
    exact h2 S2 _ _ (rv.mono st2.g st2.pre') _ (PostS.thn S2 q fun σ3 δ3 μ3 G3 H3 ι3 st3 hr3 ⟨_, S3⟩ q => q.nx S3)
/-- x += e, x -= e: ints -/
theorem sns_augN {i : Nat} {p1 : Pos} {op : Bop} (h : SndE c a (ev T R R1 ee)) (hi : c.N[i]? = some x) (hx : c.sc.names.lookup x = some .local ∨ (c.sc.names.lookup x = some .cell ∧ c.fn x = true)) (ho : op = .add ∨ op = .sub) : SndS c (.AugAssign (.Name x p1) (opOf op) a pos) (exS T R R1 (.aug (.nm i) op ee)) := by
  have main : ∀ (f : Int → Int → Int), (∀ X : Cx, PIp X (opOf op) (ipI f)) → (∀ x y μ v μ', augI op x y μ = .ok v μ' → ∃ i j, x = .d (.int i) ∧ y = .d (.int j) ∧ v = .d (.int (f i j)) ∧ μ' = μ) → (∀ x y μ, (∃ v, augI op x y μ = .ok v μ) ∨ augI op x y μ = .bad) → SndS c (.AugAssign (.Name x p1) (opOf op) a pos) (exS T R R1 (.aug (.nm i) op ee)) := fun f hp hb hc =>
    SndS.mk (t := tAug i (tE c a) (ipI f)) (fun X g => ps_aug (g.N ▸ g.nd : X.N.Nodup) (by rw [g.N]; exact hi) (by show Loc X.env.scope x; rw [g.sc]; exact hx.imp (fun z => z) (fun z => z.1)) (pe_tE g.toFits) (hp X) (by
      rcases hx with z | z
      · right; rw [g.sc]; exact z
      · left; exact g.fn x z.2)) fun {G H σ ι δ μ} S D q => by
      rw [exS_aug] at q
      simp only at q
      cases e : δ.at i with
      | none => rw [e] at q; exact q.elimB
      | some v0 =>
        rw [e] at q
        simp only at q
        obtain ⟨w0, h1, h2⟩ := S.sl i v0 e
        refine ⟨w0, h1, h S _ (q.thn S fun y v μ1 G1 H1 ι1 st hr rv q => ?_)⟩
        rcases hc v0 v μ1 with ⟨u, eu⟩ | eu
        · obtain ⟨a, b, rfl, rfl, rfl, _⟩ := hb _ _ _ _ _ eu
          rw [eu, then_ok] at q
          have S1 := S.step st hr
          refine ⟨a, b, dr_int h2, dr_int rv, ?_⟩
          exact q.nx (S1.set i (v := .d (.int (f a b))) (show Dr c.L G1 (.int (f a b)) (.int (f a b)) from .int _))
        · rw [eu] at q; exact q.elimB
  rcases ho with rfl | rfl
  · exact main _ (fun X => ip_add) (fun x y μ v μ' e => by unfold augI at e; split at e <;> first | (rename_i q; cases q; done) | (cases e; exact ⟨_, _, rfl, rfl, rfl, rfl⟩) | (cases e; done)) fun x y μ => by unfold augI; split <;> first | exact .inl ⟨_, rfl⟩ | exact .inr rfl
  · exact main _ (fun X => ip_sub) (fun x y μ v μ' e => by unfold augI at e; split at e <;> first | (rename_i q; cases q; done) | (cases e; exact ⟨_, _, rfl, rfl, rfl, rfl⟩) | (cases e; done)) fun x y μ => by unfold augI; split <;> first | exact .inl ⟨_, rfl⟩ | exact .inr rfl
/-- x = [..] -/
theorem sns_asgLc {i : Nat} {p1 : Pos} (hc : c.calm = true) (hi2 : c.N[i]? = some x) (hx : c.sc.names.lookup x = some .local) (hk : c.sc.kind = .function) (hl : (p1.line == spos.line) = true) (ha : (scope.names.any fun (n, k) => n == x && (k == .local || k == .cell)) = false)
    (ok : BlkOk c.N c.sc scope (ownOf c.N (tgSlots t))) (hi : SndI c tg it (evi T R R1 ii)) (ho : okE it = true) (hg : SndG (c.blk scope) tg (tgSlots t) (asg T R R1 t)) (ht : SndTs (c.blk scope) ifs (evc T R R1 ec)) (he : SndE (c.blk scope) elt (ev T R R1 ee)) :
    SndS c (.Assign [.Name x p1] (.ListComp elt [⟨tg, it, ifs, 0⟩] scope spos) pos) (exS T R R1 (.asg (.nm i) (.lc w t ii ec ee))) :=
  SndS.mk (t := tAsg (tLc (tI c tg it) (tG (c.blk scope) tg) (tTs (c.blk scope) ifs) (tE (c.blk scope) elt) ((ownOf c.N (tgSlots t)).map (·.2))) (gName i)) (fun X f => ps_setLc (f.calm.trans hc) (f.N ▸ f.nd : X.N.Nodup) (by rw [f.N]; exact hi2) (by rw [f.sc]; exact hx) (sw_true (by rw [f.sc]; exact hk) (by rw [f.sc]; exact hx) hl ha) (pi_tI f.toFits) (by rw [f.N, f.sc]; exact ok) (fun s H C cl fp => pg_tG (fits_blk f.toFits scope s H C cl fp)) (fun s H C cl fp => pts_tTs (fits_blk f.toFits scope s H C cl fp)) (fun s H C cl fp => pe_tE (fits_blk f.toFits scope s H C cl fp)) (fold_ok ho _)) fun S D q => by
    rw [exS_asg, ev_lc] at q
    rw [ownOf_snd]
    rw [bnd_then] at q
    refine hi S _ (q.thn S fun J wk μ1 G1 H1 ι1 st hr wr q => ?_)
    have S1 := S.step st hr
    exact lc_ok (Q := fun y H => gName i y _ H D.nx) hg ht he (fun _ z => z) (fun _ z => z) S1 wr (q.thn S1 fun y v μ2 G2 H2 ι2 st2 hr2 rv q => by
      rw [asg_nm] at q
      unfold need at q
      split at q
      · exact PostS.nx q ((S1.step st2 hr2).set i rv)
      · exact q.elimB)
end
end Mp
end
section
set_option Elab.async false
set_option linter.all false
set_option maxRecDepth 100000
set_option maxHeartbeats 2000000
namespace Mp
open PySem L2 PySem.Spec PyProof.Rows
open Evl (Ex ex_l ex_t fresh_back)
def isStar : Expr → Bool
  | .Starred .. => true
  | _ => false
/-- a, b = e1, e2 with plain names: the stores are swapped -/
def parB (sc : Scope) (x y : Str) (px py : Pos) (a b : Expr) : Bool := decide (sc.kind = .function) && (decide (sc.names.lookup x = some .local) && (decide (sc.names.lookup y = some .local) && ((py.line == px.line) && (decide (x ≠ y) && ((!isStar a && !isStar b) && (!([a, b].all (foldedForSure 8)) && !([a, b].all (constantsAlone 8))))))))
theorem par_ok {env : Env} {x y : Str} {px py pt : Pos} {kt k2 pt2} {a b : Expr} (h : parB env.scope x y px py a b = true) : swappedStores [.Tuple [.Name x px, .Name y py] kt pt] (.Tuple [a, b] k2 pt2) env = pure (some [x, y]) := by
  unfold parB at h
  simp only [Bool.and_eq_true, decide_eq_true_eq, Bool.not_eq_true'] at h
  obtain ⟨h1, h2, h3, h4, h5, ⟨h6, h7⟩, h8, h9⟩ := h
  have e1 : env.blockKind = .function := by unfold Env.blockKind; rw [h1]; rfl
  have kx : env.kindOf x = some .local := h2
  have ky : env.kindOf y = some .local := h3
  unfold swappedStores
  have st : ∀ (f : Expr → Bool), (∀ e, f e = isStar e) → [a, b].any f = false := fun f hf => by simp only [List.any_cons, List.any_nil, hf, h6, h7, Bool.or_false]
  have lp : (px.line == px.line) = true := beq_self_eq_true _
  have kk : (some NameKind.local == some NameKind.local) = true := rfl
  have de : (x == y) = false := beq_eq_false_iff_ne.mpr h5
  simp only [List.length_cons, List.length_nil, e1, List.head?_cons, Option.map_some, Option.getD_some, Expr.pos, List.filterMap_cons, List.filterMap_nil, kx, ky, lp, h4, kk, Bool.and_self, if_true, h8, h9, pure_bind]
  have ed : ([x, y] : List Str).eraseDups = [x, y] := by
    have e2 : (y == x) = false := beq_eq_false_iff_ne.mpr (fun z => h5 z.symm)
    simp [List.eraseDups_cons, e2, de, List.filter]
  simp only [ed]
  rw [st _ (fun e => by cases e <;> rfl)]
  rfl
section
variable {c : Ctx} {T : Tbl} {R R1 : Run} {pos : Pos} {a b : Expr} {x y : Str}
theorem sns_par {i j : Nat} {px py pt : Pos} {kt k2 pt2} {ees : Es} (hc : c.calm = true) (h : SndA c [a, b] (evs T R R1 ees)) (hi : c.N[i]? = some x) (hj : c.N[j]? = some y) (hij : i ≠ j) (hp : parB c.sc x y px py a b = true) :
    SndS c (.Assign [.Tuple [.Name x px, .Name y py] kt pt] (.Tuple [a, b] k2 pt2) pos) (exS T R R1 (.asg (.tp (.cons (.nm i) (.cons (.nm j) .nil))) (.tup ees))) :=
  SndS.mk (t := tPar i j (tA c [a, b])) (fun X f => by
    have hp' : parB X.env.scope x y px py a b = true := by rw [f.sc]; exact hp
    have hq := hp'
    unfold parB at hq
    simp only [Bool.and_eq_true, decide_eq_true_eq] at hq
    exact ps_par (f.calm.trans hc) (f.N ▸ f.nd : X.N.Nodup) (by rw [f.N]; exact hi) (by rw [f.N]; exact hj) hij hq.2.1 hq.2.2.1 (pa_tA f.toFits) (par_ok hp')) fun S D q => by
    rw [exS_asg, ev_tup, bnd_then] at q
    refine h S _ (q.thn S fun xs vs μ1 G1 H1 ι1 st hr rv q => ?_)
    rw [tupV_def] at q
    unfold need at q
    split at q
    · split at q
      · rename_i ds hd
        have e := snaps0 hd
        subst e
        rw [then_ok, asg_tp] at q
        simp only [tgsLen] at q
        unfold need at q
        split at q
        · rename_i hl
          have hl := of_decide_eq_true hl
          match ds, hl, rv, q with
          | [d1, d2], _, rv, q =>
            obtain ⟨w1, ws1, rfl, r1, rv⟩ : ∃ w1 ws1, xs = w1 :: ws1 ∧ VR c.L c.X G1 ι1 w1 (.d d1) ∧ VRs c.L c.X G1 ι1 ws1 [.d d2] := by
              cases rv with
              | cons a b => exact ⟨_, _, rfl, a, b⟩
            obtain ⟨w2, rfl, r2⟩ : ∃ w2, ws1 = [w2] ∧ VR c.L c.X G1 ι1 w2 (.d d2) := by
              cases rv with
              | cons a b => cases b; exact ⟨_, rfl, a⟩
            simp only [List.map_cons, List.map_nil, asgs_cons, asgs_nil, asg_nm] at q
            unfold need at q
            split at q
            · simp only [bnd_ok] at q
              split at q
              · simp only [bnd_ok, nox_ok, then_ok] at q
                exact ⟨w1, w2, rfl, PostS.nx q (((S.step st hr).set i r1).set j r2)⟩
              · simp only [bnd_bad, nox_bad, then_bad] at q
                exact q.elimB
            · simp only [bnd_bad, nox_bad, then_bad] at q
              exact q.elimB
        · exact q.elimB
      · exact q.elimB
    · exact q.elimB
end
end Mp
end
section
set_option Elab.async false
set_option linter.all false
set_option maxRecDepth 100000
set_option maxHeartbeats 2000000
namespace Mp
open PySem L2 PySem.Spec PyProof.Rows
open Evl (Ex ex_l ex_t fresh_back)
/-! ### exceptions out of comprehensions -/
section
variable {M : Model} {A : Around} {Ee : Value → Shared → Prop} {s : Shared} {env : Env}
/-- behind a block: as compPost, but an exception goes on from this very block -/
def blkEnd (M : Model) (A : Around) (Ee : Value → Shared → Prop) (use : Option (Value → Sem Unit)) (Q : Value → Shared → Prop) (acc : Value) (ce : Env) : Result → Shared → Prop
  | .ok f, t => compPost M A Ee use Q acc ce.locals (.ok f) t
  | .error x, t => ∃ m, t.heap.Ns ce.locals m ∧ ∀ g, Heap.SameBut ce.locals t.heap g → wpAny M A (PySem.passOn "comprehension.variables-let-go" x ce : Sem Value) (fun _ _ => False) Ee { t with heap := g }
theorem comp_freeX {e : Expr} {scope : Scope} {pos : Pos} {mk first : Sem Value} {cl0 : Comprehension} {cls : List Comprehension} {cap : List (Str × Addr)} {use : Option (Value → Sem Unit)} {Q : Value → Shared → Prop}
    (c1 : clausesOf e = cl0 :: cls) (c2 : ∀ x, foldedSetIterable cl0.iter env x = pure x) (c3 : closureFor scope env = pure cap) (c4 : scope.kind = .function) (c5 : ∀ y ∈ scope.names, y.2 = .local → scope.names.lookup y.1 = some .local)
    (h : wpAny M A first (fun x t1 => wpAny M A (pyIter x) (fun i t2 => wpAny M A mk (fun acc t3 => wpAny M A (newFunctionEnv scope env.globals cap [] env.qual none .none (some env)) (fun ce t4 =>
      codeAny M A (.compStart e 0 i acc { ce with scope := relabel scope env }) (blkEnd M A Ee use Q acc { ce with scope := relabel scope env }) t4) Ee t3) Ee t2) Ee t1) Ee s) :
    wpAny M A (comprehension e scope env pos mk false first use) Q Ee s := by
  unfold comprehension
  rw [c3, c1]
  have pas : ∀ e' s', Ee e' s' → Ee e' s' := fun _ _ z => z
  refine wpAny_bind (wpAny_mono h (fun x t1 h1 => wpAny_bind (wpAny_standAt (wpAny_bind (wpAny_of_eq (c2 x) (wpAny_bind (wpAny_holding (wpAny_mono h1 (fun i t2 h2 => ?_) pas))))))) pas)
  refine wpAny_standIf (wpAny_bind (wpAny_mono h2 (fun acc t3 h3 => wpAny_bind (wpAny_pure (wpAny_bind (wpAny_mono h3 (fun ce t4 h4 => ?_) pas)))) pas))
  dsimp only
  have kl : ∀ y ∈ (scope.names.filter fun y => (y.2 == .local || y.2 == .cell) && y.1 != (".0" : Str)).reverse, y.2 = .local → Env.kindOf { ce with scope := relabel scope env } y.1 = some .local :=
    fun y hy hl => lookup_relabel_local (c5 y (List.mem_filter.mp (List.mem_reverse.mp hy)).1 hl)
  refine wpAny_holding (wpAny_bind (wpAny_attempt (wpAny_holding (wpAny_run (codeAny_mono h4 fun r t hr => ?_)))))
  cases r with
  | ok f =>
    cases use with
    | none =>
      obtain ⟨m, hn, hq⟩ := hr
      exact wpAny_bind (wpAny_holding (wpAny_comp_letGo (cenv := { ce with scope := relabel scope env }) c4 _ t m kl hn fun g _ _ hs => wpAny_pure (hq g hs)))
    | some u =>
      refine wpAny_bind (wpAny_rule (wpAny_bind (wpAny_holding (wpAny_mono hr (fun _ t' hr' => ?_) pas))))
      obtain ⟨m, hn, hq⟩ := hr'
      exact wpAny_bind (wpAny_comp_letGo (cenv := { ce with scope := relabel scope env }) c4 _ t' m (fun y hy hl => (List.mem_append.mp hy).elim (fun z => kl y (List.mem_of_mem_drop z) hl) fun z => kl y (List.mem_of_mem_take z) hl) hn fun g _ _ hs => wpAny_pure (hq g hs))
  | error x =>
    obtain ⟨m, hn, hq⟩ := hr
    exact wpAny_bind (wpAny_holding (wpAny_comp_letGo (cenv := { ce with scope := relabel scope env }) c4 _ t m kl hn fun g _ _ hs => wpAny_mono (hq g hs) (fun _ _ z => z.elim) pas))
theorem funFrames_to {h g B : PySem.Heap} : ∀ {l : List Env}, h.FunFrames B l → (∀ b ∈ frs l, ∀ o, h.get? b = some o → g.get? b = some o) → g.FunFrames B l
  | [], _, _ => trivial
  | e :: l, ⟨k1, ⟨L, o, f1, n1, o1, d1⟩, r⟩, k => ⟨k1, ⟨L, o, f1, n1, k L (List.mem_filterMap.mpr ⟨e, List.mem_cons_self, f1⟩) o o1, d1⟩, funFrames_to r fun b hb => k b (by
      obtain ⟨e', h1, h2⟩ := List.mem_filterMap.mp hb
      exact List.mem_filterMap.mpr ⟨e', List.mem_cons_of_mem _ h1, h2⟩)⟩
theorem raw_ne {a b : Addr} (h : a ≠ b) : ¬ ((rawInt a == rawInt b) = true) := by
  unfold rawInt
  simp
  exact fun z => h (Int.ofNat.inj z)
/-- noted by another frame before: now by this one -/
theorem look_otherZ {Z : Obj → Prop} {B : PySem.Heap} {outer : List Env} {L C a : Addr} {Q : Unit → Shared → Prop} (hZ : HandSPX.Steady Z) (hfr : A.frames = some (env :: outer)) (hf : env.frame = some L) (ne : C ≠ L)
    (x : HandSPX.HeldZ B (env :: outer) a Z C s.heap) (hQ : ∀ g, HandSPX.HeldZ B (env :: outer) a Z L g → s.heap.UpToSlots g → Q () { s with heap := g }) : wpAny M A (noteFrame (.ref a) env) Q Ee s := by
  obtain ⟨bS, ba, fr, oa, us, D, oD, ds, e1, z1, d1, u1, bD, neD, e2, d2, u2⟩ := x
  unfold noteFrame
  simp only [hf]
  refine wpAny_bind (wpAny_field e1 d1 u1 ?_)
  rw [if_pos (show (Value.ref D != Value.none) = true from by simp)]
  refine wpAny_bind (wpAny_field e2 d2 u2 ?_)
  rw [if_neg (raw_ne ne)]
  refine wpAny_bind (wpAny_setField e2 d2 (Array.getElem?_eq_some_iff.mp u2).1 ?_)
  have oth : ∀ b, b ≠ D → (s.heap.update D (Obj.mapFields (·.setIfInBounds 3 Value.none))).get? b = s.heap.get? b := fun b hb => Heap.get?_update_other s.heap _ (fun z => hb z.symm)
  have norec : ∀ b o, s.heap.get? b = some o → (∀ w, o.data ≠ .fields w) → b ≠ D := fun b o hb nf z => by
    subst z; rw [e2] at hb; cases hb; exact nf ds d2
  refine HandSPX.wpAny_entryZ hZ hfr (fr.of_keeps fun b o hb nf => ⟨o, (oth b (norec b o hb nf)).trans hb, rfl⟩) hf ((oth a fun z => neD z.symm).trans e1) (fun b o hb => (oth b fun z => by subst z; rw [bD] at hb; cases hb).trans (bS b o hb)) ba d1
    (Array.getElem?_eq_some_iff.mp u1).1 z1 fun g hg => ?_
  obtain ⟨y1, y2, y3, y4⟩ := hg
  exact hQ g ⟨y1, ba, y2, y3⟩ fun b o hb nf => y4 b o ((oth b (norec b o hb nf)).trans hb) nf
end
section
variable {X : Cx} {W : L2.WX} {pins : List (Addr × Obj)} {σ : L2.St} {H : Hp} {s : Shared}
/-- the context of a block from which exceptions come -/
abbrev blkX (X : Cx) (W : L2.WX) (σ : L2.St) (s : Shared) (H : Hp) (scope : Scope) (ce : Env) (fp : List Addr) : Cx := { X.blk s H scope ce fp with xe := L2.XE (X.blk s H scope ce fp) fun cls d _ H' => W cls d σ H' }
theorem ok_xe {X : Cx} (ok : X.Ok) (xe : Value → Shared → Prop) : ({ X with xe := xe } : Cx).Ok :=
  ⟨ok.mod, ok.kind, ok.glob, ok.blt, ok.above, ok.inj, ok.has, ok.cab, ok.hd, ok.frames, ok.stk, ok.exf, ok.bs, ok.bsz, ok.noex, ok.exfs, ok.funs, ok.frf⟩
theorem inv_xe (I : Inv X pins σ H s) (xe : Value → Shared → Prop) : Inv ({ X with xe := xe } : Cx) pins σ H s :=
  ⟨ok_xe I.ok xe, I.os, I.bare, I.base, I.loc, I.cell, I.free, I.freeC, I.pin, I.hok, I.len⟩
theorem takes_blkX {scope : Scope} {ce : Env} {fp : List Addr} : Takes (blkX X W σ s H scope ce fp) fun cls d _ H' => W cls d σ H' := fun u s' ⟨a, B, sI, pins, σ', H', cls, d, e, I, nb, up, sky, na, os, ag, w⟩ =>
  ⟨a, B, sI, pins, σ', H', cls, d, e, ⟨⟨I.ok.mod, I.ok.kind, I.ok.glob, I.ok.blt, I.ok.above, I.ok.inj, I.ok.has, I.ok.cab, I.ok.hd, I.ok.frames, I.ok.stk, I.ok.exf, I.ok.bs, I.ok.bsz, I.ok.noex, I.ok.exfs, I.ok.funs, I.ok.frf⟩, I.os, I.bare, I.base, I.loc, I.cell, I.free, I.freeC, I.pin, I.hok, I.len⟩, nb, up, sky, na, os, ag, w⟩
/-- an exception leaves the block -/
theorem out_blk {use : Option (Value → Sem Unit)} {Qf : Value → Shared → Prop} {acc : Value} {scope : Scope} {cap : List (Str × Addr)} {fp : List Addr} (I : Inv X pins σ H s) (hs : X.stack = X.env :: X.outer) (hf : X.env.frame = some X.env.locals) (tk : Takes X W)
    (hfp : ∀ b ∈ fp, FpOk X pins H b) {C : Addr} (hC : C = s.heap.objs.size) {u : Value} {t : Shared} (x : L2.XE (X.blk s H scope (compEnvC scope cap C X.env) fp) (fun cls d _ H' => W cls d σ H') u t) {Ee : Value → Shared → Prop} :
    wpAny (model X.prog X.w) X.A (noteFrame u (compEnvC scope cap C X.env)) (fun _ t' => blkEnd (model X.prog X.w) X.A X.xe use Qf acc (compEnvC scope cap C X.env) (.error u) t') Ee t := by
  obtain ⟨a, B, sI, pins', σ', H', cls, d, rfl, J, nb, up, sky, na, os, ag, w⟩ := x
  show wpAny _ _ (noteFrame (.ref a) X.env) _ _ _
  have hfr : X.A.frames = some (X.env :: X.outer) := by rw [I.ok.frames, hs]
  have hLC : C ≠ X.env.locals := fun z => by
    obtain ⟨m, hn, _⟩ := I.loc
    have := hn.lt
    rw [← z, hC] at this
    exact Nat.lt_irrefl _ this
  have fC : H' C = none := J.free
  have bC : ∀ b o, s.heap.get? b = some o → b ∉ [C] := fun b o e z => by
    have h1 := Heap.lt_size e
    have h2 : b = C := by simpa using z
    rw [h2, hC] at h1
    exact Nat.lt_irrefl _ h1
  have fin : ∀ g, HandSPX.HeldZ B (X.env :: X.outer) a (Zc cls d) X.env.locals g → t.heap.UpToSlots g → blkEnd (model X.prog X.w) X.A X.xe use Qf acc (compEnvC scope cap C X.env) (.error (.ref a)) { t with heap := g } := fun g hh up1 => by
    obtain ⟨m, hn, _⟩ := J.loc
    refine ⟨m, (up.trans up1).ns hn, fun g2 sb => ?_⟩
    have sb : Heap.SameBut C g g2 := sb
    obtain ⟨bS, ba, fr, oa, us, D, oD, ds, e1, z1, d1, u1, bD, neD, e2, d2, u2⟩ := hh
    -- the block's own dict is no part of the ground
    obtain ⟨oC, es, ep, eC, dC, _⟩ := hn
    have inB : B.get? C = some oC := nb C oC eC fun z => by
      have z1 := (I.stack.mem z).2
      obtain ⟨o', e', _⟩ := z1
      exact bC C o' e' (by simp)
    have nC : ∀ b, B.get? b = none → b ≠ C := fun b q z => by rw [z, inB] at q; cases q
    have hb1 : ∀ b o, (PySem.W.hideAll B [C]).get? b = some o → B.get? b = some o ∧ b ≠ C := fun b o q => ⟨PySem.W.of_hideAll _ q, fun z => by
      rw [PySem.W.hideAll_none [C] (by simp [z])] at q; cases q⟩
    have none' : ∀ b, B.get? b = none → (PySem.W.hideAll B [C]).get? b = none := fun b q => by
      cases z : (PySem.W.hideAll B [C]).get? b with
      | none => rfl
      | some o => have := (hb1 b o z).1; rw [q] at this; cases this
    have fr2 : g2.FunFrames (PySem.W.hideAll B [C]) (X.env :: X.outer) := by
      have h0 : g.FunFrames (PySem.W.hideAll B [C]) (X.env :: X.outer) := funFrames_none fr fun b hb => none' b (fr.mem hb).1
      refine funFrames_to h0 fun b hb o e => (sb.2 b (nC b (fr.mem hb).1)).trans e
    have hh2 : HandSPX.HeldZ (PySem.W.hideAll B [C]) (X.env :: X.outer) a (Zc cls d) X.env.locals g2 :=
      ⟨fun b o q => (sb.2 b (hb1 b o q).2).trans (bS b o (hb1 b o q).1), none' a ba, fr2, oa, us, D, oD, ds, (sb.2 a (nC a ba)).trans e1, z1, d1, u1, none' D bD, neD, (sb.2 D (nC D bD)).trans e2, d2, u2⟩
    show wpAny _ _ (PySem.passOn "comprehension.variables-let-go" (.ref a) X.env) _ _ _
    unfold PySem.passOn
    refine wpAny_bind (wpAny_field ((sb.2 a (nC a ba)).trans e1) d1 u1 ?_)
    rw [if_neg (by simp), hf]
    refine wpAny_bind (HandSPX.setFlight_onZ hh2 fun g3 hh3 up3 => wpAny_throw (tk _ _ ?_))
    refine ⟨a, PySem.W.hideAll B [C], { sI with heap := PySem.W.hideAll sI.heap [C] }, pins, σ, H', cls, d, rfl, ?_, fun b o q hb => ?_, fun b o q nf => ?_, .inr (.inr (by rw [hs]; exact hh3)), na, os, ag, w⟩
    · refine I.call' (ch := fp) J.os ⟨fun b o e n h1 h2 => PySem.W.hideAll_get _ (J.base.keep b o e n h1 h2) (bC b o e), fun b o e n h1 h2 => ?_, fun b o e n h1 => J.base.free b o e n h1, fun b o e h1 => ?_, J.base.tups, J.base.frzs, J.base.tbls⟩ ?_ J.bare
        fun b hb => ⟨(hfp b hb).2.2.2.1, (hfp b hb).2.1, (hfp b hb).2.2.2.2.1, (hfp b hb).2.2.2.2.2⟩
      · obtain ⟨sl, q⟩ := J.base.slot b o e n h1 h2
        exact ⟨sl, PySem.W.hideAll_get _ q (bC b o e)⟩
      · obtain ⟨o', q⟩ := J.base.there b o e h1
        exact ⟨o', PySem.W.hideAll_get _ q (bC b o e)⟩
      · refine fun b o q => (J.hok b o q).stay (fun y u hy r => PySem.W.hideAll_get _ r fun hm => ?_) (fun _ r => r) fun _ _ r => r
        have z : y = C := by simpa using hm
        rcases hy with hy | hy
        · rw [hy] at z; rw [z, fC] at q; cases q
        · rw [z, fC] at hy; cases hy
    · have q1 : sI.heap.get? b = some o := PySem.W.of_hideAll _ q
      refine PySem.W.hideAll_get _ (nb b o q1 hb) fun hm => ?_
      have q : (PySem.W.hideAll sI.heap [C]).get? b = some o := q
      rw [PySem.W.hideAll_none [C] hm] at q; cases q
    · have q1 : sI.heap.get? b = some o := PySem.W.of_hideAll _ q
      have ne : b ≠ C := fun z => by
        have q : (PySem.W.hideAll sI.heap [C]).get? b = some o := q
        rw [PySem.W.hideAll_none [C] (by simp [z])] at q; cases q
      obtain ⟨sl, r1⟩ := (up.trans up1) b o q1 nf
      have r2 := (sb.2 b ne).trans r1
      obtain ⟨sl3, r3⟩ := up3 b _ r2 nf
      exact ⟨sl3, r3⟩
  have sky : Sky B (X.env :: X.outer) a (Zc cls d) C t.heap := by rw [← hs]; exact sky
  rcases sky with ⟨hB, hn, hl, oe, vs, he, hz, hd, h1⟩ | fl | hh
  · exact HandSPX.look_newZ Zc.steady hfr hl hf he hB hn hd h1 hz fin
  · exact HandSPX.looks_onZ Zc.steady hfr hf fl fin
  · exact look_otherZ Zc.steady hfr hf hLC hh fin
end
/-- a list comprehension from which exceptions come -/
theorem lc_coreX {X : Cx} {W : L2.WX} {pins : List (Addr × Obj)} {s : Shared} {σ : L2.St} {H : Hp} {Q : VK} {elt tg iter : Expr} {ifs : List Expr} {scope : Scope} {own : List (Str × Nat)} {pos pos' : Pos} {wi : TI} {g : TG} {tt : TT} {te : TE} {use : Option (Value → Sem Unit)} {Qf : Value → Shared → Prop}
    (hc : X.calm = true) (hs : X.stack = X.env :: X.outer) (hf : X.env.frame = some X.env.locals) (tk : Takes X W) (nd : X.N.Nodup) (I : Inv X pins σ H s) (pi : PI X tg iter wi) (ok : BlkOk X.N X.env.scope scope own)
    (pg : ∀ (s : Shared) (H : Hp) (C : Addr) (cap : List (Str × Addr)) (fp : List Addr), PG (blkX X W σ s H scope (compEnvC scope cap C X.env) fp) tg g) (pt : ∀ (s : Shared) (H : Hp) (C : Addr) (cap : List (Str × Addr)) (fp : List Addr), PTs (blkX X W σ s H scope (compEnvC scope cap C X.env) fp) ifs tt)
    (pe : ∀ (s : Shared) (H : Hp) (C : Addr) (cap : List (Str × Addr)) (fp : List Addr), PE (blkX X W σ s H scope (compEnvC scope cap C X.env) fp) elt te) (fs : ∀ x, foldedSetIterable iter X.env x = pure x) (h : tLc wi g tt te (own.map (·.2)) σ H Q)
    (hR : ∀ D C t m H', Inv X pins σ H' t → Q (.ref D) H' → t.heap.Ns C m → FpOk X pins H' C → compPost (model X.prog X.w) X.A X.xe use Qf (.ref D) C (.ok .next) t) :
    wpAny (model X.prog X.w) X.A (comprehension (.ListComp elt [⟨tg, iter, ifs, 0⟩] scope pos) scope X.env pos' (newList []) false (eval iter X.env) use) Qf X.xe s := by
  have cap0 : ∀ y ∈ scope.names, y.2 = .free → ∃ c, X.env.cells.lookup y.1 = some c := fun y hy e => I.ok.has y.1 ((ok.free y hy e).imp (fun z => z) fun z => z)
  refine comp_freeX (use := use) rfl fs (closure_ok cap0) ok.kind (fun y hy e => by rw [ok.uniq y hy, e]) (thn (pi.run pins s σ H _ I h) fun xv t1 hx => thn hx fun iv t2 h2 => ?_)
  obtain ⟨it, fp, tn, J, H2, e, I2, T, q2, f2, turns⟩ := h2
  subst e
  refine wpAny_newObj_type (newEnv_comp ?_) (by show 0 ≤ sizeLine; decide)
  obtain ⟨D, hD⟩ : ∃ D, t2.heap.objs.size = D := ⟨_, rfl⟩
  rw [hD]
  have nD : H2 D = none := I2.hok.fresh (Nat.le_of_eq hD)
  obtain ⟨Wv, ⟨m0, w0⟩, turn⟩ := turns D nD
  obtain ⟨t3, ht3⟩ : ∃ t3 : Shared, ({ t2 with heap := t2.heap.push { cls := .type "list", data := .seq ([] : List Value).toArray } } : Shared) = t3 := ⟨_, rfl⟩
  have hp3 : t3.heap = t2.heap.push { cls := .type "list", data := .seq ([] : List Value).toArray } := by rw [← ht3]
  obtain ⟨H3, hH3⟩ : ∃ H3, upd H2 D (.lst []) = H3 := ⟨_, rfl⟩
  have I3 : Inv X pins σ H3 t3 := by
    rw [← ht3, ← hH3]
    refine I2.laid (t' := t2.toks) (fun b o e => Heap.get?_push_of_some _ e) (Nat.le_of_eq hD) ⟨Nat.zero_le _, [], 0, .nil, ?_⟩
    rw [← hD]
    exact Heap.get?_push_size _ rfl
  have lt2 : ∀ b ∈ fp, b < t2.heap.objs.size := fun b hb => by
    obtain ⟨o, e, _⟩ := T.obj _ _ q2 b hb
    exact Heap.lt_size e
  have f3 : ∀ b ∈ fp, FpOk X pins H3 b ∧ b < t3.heap.objs.size := fun b hb => by
    have hlt := lt2 b hb
    refine ⟨⟨?_, (f2 b hb).2⟩, by rw [hp3, Heap.size_push]; exact Nat.lt_succ_of_lt hlt⟩
    rw [← hH3, upd_ne (by rw [← hD]; exact Nat.ne_of_lt hlt)]
    exact (f2 b hb).1
  have q3 : tn 0 t3.heap := T.keep _ _ _ q2 fun b _ o e => by rw [hp3]; exact Heap.get?_push_of_some _ e
  obtain ⟨C, hC⟩ : ∃ C, C = t3.heap.objs.size := ⟨_, rfl⟩
  obtain ⟨cap, hcap⟩ : ∃ cap, cellsFrom (t3.heap.objs.size + 1) scope.names (cloFrom X.env.cells scope.names []) = cap := ⟨_, rfl⟩
  have I4 := block_start I3 ok nd f3
  show codeAny _ _ (.compStart (.ListComp elt [⟨tg, iter, ifs, 0⟩] scope pos) 0 (.ref it) (.ref D) (compEnvC scope (cellsFrom (({ t2 with heap := t2.heap.push { cls := .type "list", data := .seq ([] : List Value).toArray } } : Shared).heap.objs.size + 1) scope.names (cloFrom X.env.cells scope.names [])) ({ t2 with heap := t2.heap.push { cls := .type "list", data := .seq ([] : List Value).toArray } } : Shared).heap.objs.size X.env))
    (blkEnd (model X.prog X.w) X.A X.xe use Qf (.ref D) (compEnvC scope (cellsFrom (({ t2 with heap := t2.heap.push { cls := .type "list", data := .seq ([] : List Value).toArray } } : Shared).heap.objs.size + 1) scope.names (cloFrom X.env.cells scope.names [])) ({ t2 with heap := t2.heap.push { cls := .type "list", data := .seq ([] : List Value).toArray } } : Shared).heap.objs.size X.env))
    { ({ t2 with heap := t2.heap.push { cls := .type "list", data := .seq ([] : List Value).toArray } } : Shared) with heap := pushCells (({ t2 with heap := t2.heap.push { cls := .type "list", data := .seq ([] : List Value).toArray } } : Shared).heap.push { cls := .type "dict", data := .dict #[] }) scope.names }
  rw [ht3]
  rw [hcap, ← hC] at I4 ⊢
  have I4 := inv_xe I4 (L2.XE (X.blk t3 H3 scope (compEnvC scope cap C X.env) fp) fun cls d _ H' => W cls d σ H')
  have pg := pg t3 H3 C cap fp
  have pt := pt t3 H3 C cap fp
  have pe := pe t3 H3 C cap fp
  have nfp : ∀ b ∈ fp, H3 b = none := fun b hb => (f3 b hb).1.1
  obtain ⟨t4, ht4⟩ : ∃ t4 : Shared, ({ t3 with heap := pushCells (t3.heap.push { cls := .type "dict", data := .dict #[] }) scope.names } : Shared) = t4 := ⟨_, rfl⟩
  rw [ht4] at I4 ⊢
  have q4 : tn 0 t4.heap := T.keep _ _ _ q3 fun b _ o e => by rw [← ht4]; exact pushCells_keeps _ _ _ _ (Heap.get?_push_of_some _ e)
  have I4 : Inv (blkX X W σ t3 H3 scope (compEnvC scope cap C X.env) fp) [] (wipe σ (own.map (·.2))) H3 t4 := I4
  have stat : ∀ {σ' : L2.St} {H' : Hp} {t : Shared}, Inv (blkX X W σ t3 H3 scope (compEnvC scope cap C X.env) fp) [] σ' H' t → (∀ b ∈ fp, H' b = none) → ∀ b ∈ fp, FpOk (blkX X W σ t3 H3 scope (compEnvC scope cap C X.env) fp) [] H' b := fun {σ' H' t} I' hn b hb =>
    ⟨hn b hb, (I'.ok.exf b hb).1, I'.ok.exfs b hb, .inl hb, fun x c e => (I'.ok.exf b hb).2 x c e, fun p hp => absurd (show p ∈ ([] : List (Addr × Obj)) ++ [] from hp) (by simp)⟩
  -- an exception
  have out : ∀ u t, L2.XE (X.blk t3 H3 scope (compEnvC scope cap C X.env) fp) (fun cls d _ H' => W cls d σ H') u t → notedBy (model X.prog X.w) X.A (compEnvC scope cap C X.env) (fun e t' => blkEnd (model X.prog X.w) X.A X.xe use Qf (.ref D) (compEnvC scope cap C X.env) (.error e) t') u t :=
    fun u t x => out_blk I3 hs hf tk (fun b hb => (f3 b hb).1) hC x
  have loop : codeAny (model X.prog X.w) X.A (.compLoop (.ListComp elt [⟨tg, iter, ifs, 0⟩] scope pos) 0 (.ref it) (.ref D) (compEnvC scope cap C X.env)) (blkEnd (model X.prog X.w) X.A X.xe use Qf (.ref D) (compEnvC scope cap C X.env)) t4 := by
    refine compLoop_any (fun n t => ∃ i H', Inv (blkX X W σ t3 H3 scope (compEnvC scope cap C X.env) fp) [] (wipe σ (own.map (·.2))) H' t ∧ tn i t.heap ∧ (∀ b ∈ fp, H' b = none) ∧ Wv i n H') ?_ m0 ⟨0, H3, I4, q4, nfp, by rw [← hH3]; exact w0⟩
    rintro n t5 ⟨i, H5, I5, q5, n5, w5⟩
    rcases turn i n H5 w5 with ⟨stop, qq⟩ | ⟨go, Nx, hNx, step⟩
    · have td := T.done (blkX X W σ t3 H3 scope (compEnvC scope cap C X.env) fp) rfl rfl rfl hc i [] t5 _ H5 (fun _ _ => False) I5 (stat I5 n5) q5 stop
      refine thnF td fun r t6 ⟨hr, I6⟩ => ?_
      subst hr
      have I7 : Inv X pins σ H5 t6 := I3.call' (ch := fp) I6.os I6.base I6.hok I6.bare fun b hb => ⟨(f3 b hb).1.2.2.2.1, (f3 b hb).1.2.1, (f3 b hb).1.2.2.2.2.1, (f3 b hb).1.2.2.2.2.2⟩
      have nC : H5 C = none := I6.free
      obtain ⟨m, hn, _⟩ := I6.loc
      exact hR D C t6 m H5 I7 qq hn (I3.fpOk (Nat.le_of_eq hC.symm) nC)
    · have ti := T.item (blkX X W σ t3 H3 scope (compEnvC scope cap C X.env) fp) rfl rfl rfl hc i [] t5 _ H5 (fun _ _ => False) I5 (stat I5 n5) q5 go
      refine thnF ti fun r t6 ⟨u, hr, h6⟩ => ?_
      subst hr
      refine thnF h6 fun _ t7 ⟨x, H7, I7, r7, y7, q7, n7⟩ => ?_
      have P7 := I7.pinned (stat I7 n7) (T.obj _ _ q7)
      refine wpAny_mono (pg.run _ t7 _ H7 x u _ P7 r7 (step x H7 y7)) (fun _ t8 ⟨σ8, H8, I8, hw8, q8⟩ => ?_) out
      refine wpAny_mono (pt.run _ t8 σ8 H8 _ I8 q8) (fun b t9 ⟨H9, I9, q9⟩ => ?_) out
      have fin : ∀ {t : Shared} {H' : Hp}, Inv (blkX X W σ t3 H3 scope (compEnvC scope cap C X.env) fp) ([] ++ pinsAt fp t7.heap) σ8 H' t → Nx H' → ∃ m, m < n ∧ ∃ i H', Inv (blkX X W σ t3 H3 scope (compEnvC scope cap C X.env) fp) [] (wipe σ (own.map (·.2))) H' t ∧ tn i t.heap ∧ (∀ b ∈ fp, H' b = none) ∧ Wv i m H' := fun {t H'} I' nx => by
        obtain ⟨m', hm, w'⟩ := hNx H' nx
        have pin' : ∀ b ∈ fp, ∀ o, t7.heap.get? b = some o → t.heap.get? b = some o ∧ H' b = none := fun b hb o e =>
          have z := I'.pin (b, o) (List.mem_append_right _ (List.mem_append_right _ (mem_pinsAt hb e)))
          ⟨z.1, z.2.1⟩
        have hl : (wipe σ (own.map (·.2))).length = σ8.length := by rw [← hw8, wipe_length]
        refine ⟨m', hm, i + 1, H', (I'.unpinned (pins := [])).weak hl (fun j v e => ?_), T.keep _ _ _ q7 fun b hb o e => (pin' b hb o e).1, fun b hb => ?_, w'⟩
        · rw [← hw8] at e; exact (wipe_some e).1
        · obtain ⟨o, e, _⟩ := T.obj _ _ q7 b hb
          exact (pin' b hb o e).2
      cases b with
      | false =>
        rw [if_neg Bool.false_ne_true] at q9 ⊢
        exact fin I9 q9
      | true =>
        rw [if_pos rfl] at q9 ⊢
        refine wpAny_mono (pe.run _ t9 σ8 H9 _ I9 q9) (fun z t10 ⟨yv, H10, I10, r10, acc, hd, hz, nx⟩ => ?_) out
        exact app_ok (X := blkX X W σ t3 H3 scope (compEnvC scope cap C X.env) fp) I10 hd hz r10 fun t11 I11 => fin I11 nx
  exact codeAny_compStart_list loop (T.self X.A 0 _ _ _ q4 loop)
section
variable {X : Cx} {W : L2.WX} {elt tg iter : Expr} {ifs : List Expr} {scope : Scope} {own : List (Str × Nat)} {pos spos : Pos} {wi : TI} {g : TG} {tt : TT} {te : TE} {σ : L2.St}
/-- at this state -/
def tAt (σ : L2.St) (t : TE) : TE := fun σ' H Q => σ' = σ ∧ t σ' H Q
theorem pe_lcX (hc : X.calm = true) (hs : X.stack = X.env :: X.outer) (hf : X.env.frame = some X.env.locals) (tk : Takes X W) (nd : X.N.Nodup) (pi : PI X tg iter wi) (ok : BlkOk X.N X.env.scope scope own)
    (pg : ∀ (s : Shared) (H : Hp) (C : Addr) (cap : List (Str × Addr)) (fp : List Addr), PG (blkX X W σ s H scope (compEnvC scope cap C X.env) fp) tg g) (pt : ∀ (s : Shared) (H : Hp) (C : Addr) (cap : List (Str × Addr)) (fp : List Addr), PTs (blkX X W σ s H scope (compEnvC scope cap C X.env) fp) ifs tt)
    (pe : ∀ (s : Shared) (H : Hp) (C : Addr) (cap : List (Str × Addr)) (fp : List Addr), PE (blkX X W σ s H scope (compEnvC scope cap C X.env) fp) elt te) (fs : ∀ x, foldedSetIterable iter X.env x = pure x) :
    PE X (.ListComp elt [⟨tg, iter, ifs, 0⟩] scope pos) (tAt σ (tLc wi g tt te (own.map (·.2)))) := by
  refine ⟨fun pins s σ' H Q I h => ?_⟩
  obtain ⟨rfl, h⟩ := h
  rw [eval_ListComp]
  refine lc_coreX hc hs hf tk nd I pi ok pg pt pe fs h fun D C t m H' J q hn f => ⟨m, hn, fun h2 sb => ?_⟩
  obtain ⟨a0, a1, a2, a3, a4, a5⟩ := f
  exact ⟨.ref D, H', J.turned (t' := t.toks) (fun b o hb e => (sb.2 b hb).trans e) a0 a1 a3 a4 a5, rfl, q⟩
/-- y = [..] on one line, y a local -/
theorem ps_setLcX {i : Nat} {y : Str} {py : Pos} (hc : X.calm = true) (hs : X.stack = X.env :: X.outer) (hf : X.env.frame = some X.env.locals) (tk : Takes X W) (nd : X.N.Nodup) (hy : X.N[i]? = some y) (hyl : X.env.scope.names.lookup y = some .local)
    (hsw : swapsWith (.ListComp elt [⟨tg, iter, ifs, 0⟩] scope pos) (some (.Name y py)) spos.line X.env = pure true) (pi : PI X tg iter wi) (ok : BlkOk X.N X.env.scope scope own)
    (pg : ∀ (s : Shared) (H : Hp) (C : Addr) (cap : List (Str × Addr)) (fp : List Addr), PG (blkX X W σ s H scope (compEnvC scope cap C X.env) fp) tg g) (pt : ∀ (s : Shared) (H : Hp) (C : Addr) (cap : List (Str × Addr)) (fp : List Addr), PTs (blkX X W σ s H scope (compEnvC scope cap C X.env) fp) ifs tt)
    (pe : ∀ (s : Shared) (H : Hp) (C : Addr) (cap : List (Str × Addr)) (fp : List Addr), PE (blkX X W σ s H scope (compEnvC scope cap C X.env) fp) elt te) (fs : ∀ x, foldedSetIterable iter X.env x = pure x) :
    PS X (.Assign [.Name y py] (.ListComp elt [⟨tg, iter, ifs, 0⟩] scope pos) spos) (tAsg (tAt σ (tLc wi g tt te (own.map (·.2)))) (gName i)) := by
  refine ⟨fun pins s σ' H D I h => ?_⟩
  obtain ⟨rfl, h⟩ := h
  rw [exec_Assign_Name_used _ _ _ _ hsw]
  refine wpAny_bind (wpAny_standAt (wpAny_bind ?_))
  show wpAny _ X.A (do let _ ← comprehension (.ListComp elt [⟨tg, iter, ifs, 0⟩] scope pos) scope X.env (firstIterPos [⟨tg, iter, ifs, 0⟩] pos) (newList []) false (eval iter X.env) (some (assign (.Name y py) X.env))) _ X.xe s
  refine wpAny_bind (thn (lc_coreX (Qf := fun _ t => SP X pins D .next t) hc hs hf tk nd I pi ok pg pt pe fs h fun F C t m H' J q hn f => ?_) fun _ t hq => wpAny_pure (wpAny_pure hq))
  show wpAny _ _ (assign (.Name y py) X.env (.ref F)) _ _ t
  refine wpAny_assign_Name (store_ok2 (v := V.ref F) J nd hy (.inl hyl) rfl (fun t2 J2 ⟨a, sb, ha⟩ => ?_) (.inr hyl))
  obtain ⟨a0, a1, a2, a3, a4, a5⟩ := f
  have ne : C ≠ a := by
    rcases ha with z | z
    · rw [z]; exact a1
    · exact fun e => a4 y a z e.symm
  exact ⟨m, hn.sameBut sb ne, fun h3 sb3 => ⟨_, H', J2.turned (t' := t2.toks) (fun b o hb e => (sb3.2 b hb).trans e) a0 a1 a3 a4 a5, q⟩⟩
end
/-! ### over the small semantics -/
/-- the context of a block from which exceptions come, started at σ -/
def Ctx.blkX (c : Ctx) (σ : L2.St) (scope : Scope) : Ctx := { c with sc := relS scope c.sc, W := fun cls d _ H => c.W cls d σ H, fn := fun x => scope.names.lookup x == some .cell, su := none, top := false }
theorem fits_blkX {c : Ctx} {X : Cx} (f : Fits c X) (σ : L2.St) (scope : Scope) (s : Shared) (H : Hp) (C : Addr) (cap : List (Str × Addr)) (fp : List Addr) : Fits (c.blkX σ scope) (blkX X c.W σ s H scope (compEnvC scope cap C X.env) fp) :=
  ⟨f.p, f.w, f.K, f.mg, f.base, f.N, by show relS scope X.env.scope = relS scope c.sc; rw [f.sc], f.calm, f.room, f.un, takes_blkX, (fun _ z => z), f.nd, (fun _ _ _ z => nomatch z), fun z => nomatch z⟩
section
variable {L : Lk} {E : XK} {G H : Hp} {ι : Iot} {μ : Heap} {D : Addr} {acc : List Val} {Y : Ext}
/-- a step beside D, seen with D in its new heap -/
theorem Stp.beside {G1 H1 : Hp} {ι1 : Iot} {μ1 : Heap} (hD : Hol L Y G H ι μ D acc) (st : Stp ι.length G H ι μ G1 H1 ι1 μ1) : Stp ι.length G (hole H D) ι μ G1 H1 ι1 μ1 :=
  ⟨st.g, st.pre, st.le, fun a o q nf => by
    by_cases e : a = D
    · subst e; rw [hole_same] at q; cases q
    · rw [hole_ne e] at q; exact st.keep a o q nf, fun a q nf => by
    by_cases e : a = D
    · subst e; exact absurd hole_same q
    · rw [hole_ne e] at q; exact st.old a q nf, fun a f => (st.live a f).imp (fun z => z) fun z => by
    by_cases e : a = D
    · subst e; exact hole_same
    · rw [hole_ne e]; exact z⟩
/-- r's exceptions go on, seen from beside D -/
theorem Hol.exE {α β α2 : Type} {Rv : Hp → Hp → Iot → Heap → β → α → Prop} {Rw : Hp → Hp → Iot → Heap → V → α2 → Prop} (hD : Hol L Y G H ι μ D acc) {Q : β → Hp → Prop} {Q2 : V → Hp → Prop} {r : Res α} {f : α → Heap → Res α2} (h : Post L E Rw G (hole H D) ι μ Q2 (r.bnd f))
    (k : ∀ w a μ1 G1 H1 ι1, Stp ι.length G H ι μ G1 H1 ι1 μ1 → HR L G1 H1 ι1 μ1 → Hol L Y G1 H1 ι1 μ1 D acc → Rv G1 H1 ι1 μ1 w a → Post L E Rw G1 (hole H1 D) ι1 μ1 Q2 (f a μ1) → Q w H1) : Post L E Rv G H ι μ Q r := by
  cases r with
  | ok a μ' =>
    intro w G' H' ι' st hr rv
    obtain ⟨h1, h2⟩ := hD.step st hr
    exact k w a μ' G' H' ι' st hr h1 rv (Post.step h h2)
  | ex x μ' =>
    intro G' H' ι' st hr
    refine EOk.mono (h G' H' ι' (st.beside hD) hr) fun a z => z.imp (fun q => ?_) fun q => q
    by_cases e : a = D
    · subst e; exact hole_same
    · rw [hole_ne e]; exact q
  | bad => exact h.elim
end
section
variable {c : Ctx} {tg it elt : Expr} {ifs : List Expr} {scope : Scope} {T : Tbl} {R R1 : Run} {t : Tg} {ec : TO} {ee : E} {w : Bool}
theorem lc_okX {G H : Hp} {σ : L2.St} {ι : Iot} {δ : Slots} {μ : Heap} (hg : SndG (c.blkX σ scope) tg (tgSlots t) (asg T R R1 t)) (hc : SndTs (c.blkX σ scope) ifs (evc T R R1 ec)) (he : SndE (c.blkX σ scope) elt (ev T R R1 ee)) {vs : List Nat} (hv1 : ∀ j ∈ vs, j ∈ tgSlots t) (hv2 : ∀ j ∈ tgSlots t, j ∈ vs)
    (S : St c G H σ ι δ μ) {J : L2.It} {wk : Walk} (wr : WR c.L c.X G ι J wk) (sm : small wk.1.length = true) {Q : VK} (q : Post c.L (c.E σ) (RvV c.L c.X) G H ι μ Q ((collect wk.2 (lcF T R R1 t ec ee (killS (tgSlots t) δ)) wk.1 μ).bnd (newL w))) :
    ∀ D, H D = none → ∃ W : Nat → Nat → Hp → Prop, (∃ m, W 0 m (upd H D (.lst []))) ∧ ∀ i m H, W i m H →
      (J.stop i H ∧ Q (.ref D) H) ∨ (J.go i H ∧ ∃ Nx : Hp → Prop, (∀ H', Nx H' → ∃ m', m' < m ∧ W (i + 1) m' H') ∧ ∀ x H', J.yld i H x H' → tG (c.blkX σ scope) tg x (wipe σ vs) H' fun σ2 H2 => wipe σ2 vs = wipe σ vs ∧ tTs (c.blkX σ scope) ifs σ2 H2 fun b H3 =>
        if b = true then tE (c.blkX σ scope) elt σ2 H3 fun y H4 => ∃ acc, H4 D = some (.lst acc) ∧ acc.length < sizeLine ∧ Nx (upd H4 D (.lst (acc ++ [y]))) else Nx H3) := by
  intro D hD
  refine ⟨fun i m H' => m = wk.1.length - i ∧ i ≤ wk.1.length ∧ ∃ G' ι' μ' acc, acc.length ≤ i ∧ Hol c.L c.X G' H' ι' μ' D acc ∧ Ex G G' ∧ Pre ι ι' ∧ Post c.L (c.E σ) (RvV c.L c.X) G' (hole H' D) ι' μ' Q ((collect wk.2 (lcF T R R1 t ec ee (killS (tgSlots t) δ)) (wk.1.drop i) μ').bnd fun b μ => newL w (acc ++ b) μ), ⟨_, rfl, Nat.zero_le _, G, ι, μ, [], Nat.zero_le _, hol_new S.hr hD, Ex.refl G, Pre.refl _, ?_⟩, ?_⟩
  · rw [hole_upd, hole_none hD, List.drop_zero]
    exact q
  · rintro i m H' ⟨rfl, hi, G', ι', μ', acc, ha, hol, eg, pr, q⟩
    by_cases gd : guardOk wk.2 μ'
    · obtain ⟨w1, w2⟩ := wr i hol.hr eg pr gd
      by_cases hlt : i < wk.1.length
      · have hv : wk.1[i]? = some wk.1[i] := List.getElem?_eq_getElem hlt
        obtain ⟨go, yl⟩ := w2 _ hv
        refine .inr ⟨go, fun H2 => i + 1 ≤ wk.1.length ∧ ∃ G' ι' μ' acc, acc.length ≤ i + 1 ∧ Hol c.L c.X G' H2 ι' μ' D acc ∧ Ex G G' ∧ Pre ι ι' ∧ Post c.L (c.E σ) (RvV c.L c.X) G' (hole H2 D) ι' μ' Q ((collect wk.2 (lcF T R R1 t ec ee (killS (tgSlots t) δ)) (wk.1.drop (i + 1)) μ').bnd fun b μ => newL w (acc ++ b) μ),
          fun H2 z => ⟨wk.1.length - (i + 1), by omega, rfl, z⟩, fun x H2 hy => ?_⟩
        obtain ⟨G2, hr2, st2, rx⟩ := yl x H2 hy
        obtain ⟨hol2, sth⟩ := hol.step st2 hr2
        have q := q.step sth
        rw [List.drop_eq_getElem_cons hlt, collS gd, bnd_assoc] at q
        have S2 : St (c.blkX σ scope) G2 H2 (wipe σ vs) ι' (killS (tgSlots t) δ) μ' := ⟨hr2, by rw [wipe_length, kill_len]; exact S.len, fun j v hj => by
          obtain ⟨h1, h2⟩ := kill_at hj
          obtain ⟨u, h3, h4⟩ := S.sl j v h1
          exact ⟨u, by rw [wipe_get, if_neg fun z => h2 (hv1 j z)]; exact h3, h4.mono (eg.trans st2.g) pr⟩⟩
        unfold lcF at q
        rw [bnd_assoc] at q
        refine hg S2 _ _ rx _ (hol2.exE q fun σ2 δ2 μ3 G3 H3 ι3 st3 hr3 hol3 ⟨df, S3⟩ q => ⟨wipe_diff df hv2, ?_⟩)
        have p3 : Pre ι ι3 := pr.trans st3.pre'
        have e3 : Ex G G3 := (eg.trans st2.g).trans st3.g
        rw [bnd_assoc] at q
        refine hc S3 _ (hol3.exE q fun b b' μ4 G4 H4 ι4 st4 hr4 hol4 rb q => ?_)
        have rb : b = b' := rb
        subst rb
        have p4 : Pre ι ι4 := p3.trans st4.pre'
        have e4 : Ex G G4 := e3.trans st4.g
        cases b with
        | true =>
          rw [if_pos rfl] at q ⊢
          rw [bnd_assoc] at q
          refine he (S3.step st4 hr4) _ (hol4.exE q fun y v μ5 G5 H5 ι5 st5 hr5 hol5 ry q => ?_)
          obtain ⟨xs, hd, hxs⟩ := hol5.h
          have q : Post c.L (c.E σ) (RvV c.L c.X) G5 (hole H5 D) ι5 μ5 Q ((collect wk.2 (lcF T R R1 t ec ee (killS (tgSlots t) δ)) (wk.1.drop (i + 1)) μ5).bnd fun b μ => newL w (acc ++ ([v] ++ b)) μ) := by
            rw [bnd_ok, bnd_assoc] at q
            exact q
          refine ⟨xs, hd, ?_, by omega, G5, ι5, μ5, acc ++ [v], by rw [List.length_append, List.length_singleton]; omega, hol5.push ry hd, e4.trans st5.g, p4.trans st5.pre', ?_⟩
          · have sm := of_decide_eq_true sm
            rw [vrs_len hxs]
            show acc.length < 16777216
            omega
          rw [hole_upd]
          simp only [List.append_assoc]
          exact q
        | false =>
          rw [if_neg Bool.false_ne_true] at q ⊢
          refine ⟨by omega, G4, ι4, μ4, acc, by omega, hol4, e4, p4, ?_⟩
          rw [bnd_ok, bnd_assoc] at q
          exact q
      · have e : wk.1.drop i = [] := List.drop_eq_nil_of_le (by omega)
        rw [e, collN gd] at q
        refine .inl ⟨w1 (by omega), ?_⟩
        obtain ⟨xs, hd, hxs⟩ := hol.h
        have q2 : Post c.L (c.E σ) (RvV c.L c.X) G' (hole H' D) ι' μ' Q (newL w acc μ') := by
          have q : Post c.L (c.E σ) (RvV c.L c.X) G' (hole H' D) ι' μ' Q (newL w (acc ++ []) μ') := q
          rw [List.append_nil] at q; exact q
        have := q2.newL (p := D) hol.noD hxs hole_same
        rw [upd_hole hd] at this
        exact this
    · rw [collB gd] at q
      exact q.elim
variable {ii : Mp.It} {pos spos : Pos} {x : Str}
theorem snd_lcX (hc : c.calm = true) (ht : c.top = true) (ok : BlkOk c.N c.sc scope (ownOf c.N (tgSlots t))) (hi : SndI c tg it (evi T R R1 ii)) (ho : okE it = true) (hg : ∀ σ, SndG (c.blkX σ scope) tg (tgSlots t) (asg T R R1 t)) (hts : ∀ σ, SndTs (c.blkX σ scope) ifs (evc T R R1 ec)) (he : ∀ σ, SndE (c.blkX σ scope) elt (ev T R R1 ee)) :
    SndE c (.ListComp elt [⟨tg, it, ifs, 0⟩] scope pos) (ev T R R1 (.lcE w t ii ec ee)) := ⟨fun {G H σ ι δ μ} S Q q => by
  refine ⟨tAt σ (tLc (tI c tg it) (tG (c.blkX σ scope) tg) (tTs (c.blkX σ scope) ifs) (tE (c.blkX σ scope) elt) ((ownOf c.N (tgSlots t)).map (·.2))), fun X f => pe_lcX (W := c.W) (σ := σ) (f.calm.trans hc) (f.tp ht).1 (f.tp ht).2 f.take (f.N ▸ f.nd : X.N.Nodup) (pi_tI f) (by rw [f.N, f.sc]; exact ok)
    (fun s H C cap fp => pg_tG (fits_blkX f σ scope s H C cap fp)) (fun s H C cap fp => pts_tTs (fits_blkX f σ scope s H C cap fp)) (fun s H C cap fp => pe_tE (fits_blkX f σ scope s H C cap fp)) (fold_ok ho _), rfl, ?_⟩
  rw [ev_lcE] at q
  rw [ownOf_snd]
  exact hi S _ (q.bnd fun J wk μ1 G1 H1 ι1 st hr wr q => lc_okX (hg σ) (hts σ) (he σ) (fun _ z => z) (fun _ z => z) (S.step st hr) wr q.need.1 q.need.2)⟩
theorem thn_need {α : Type} {b : Bool} {r : Res α} {δ : Slots} {f : α → Heap → RS} {G H : Hp} {ι : Iot} {μ : Heap} {D : Ends} (q : PostS c G H ι μ D ((need b r).then_ δ f)) : b = true ∧ PostS c G H ι μ D (r.then_ δ f) := by
  unfold need at q
  split at q
  · rename_i e; exact ⟨e, q⟩
  · exact q.elim
/-- y = [..] -/
theorem sns_asgLcX {i : Nat} {p1 : Pos} (hc : c.calm = true) (ht : c.top = true) (hi2 : c.N[i]? = some x) (hx : c.sc.names.lookup x = some .local) (hk : c.sc.kind = .function) (hl : (p1.line == spos.line) = true) (ha : (scope.names.any fun (n, k) => n == x && (k == .local || k == .cell)) = false)
    (ok : BlkOk c.N c.sc scope (ownOf c.N (tgSlots t))) (hi : SndI c tg it (evi T R R1 ii)) (ho : okE it = true) (hg : ∀ σ, SndG (c.blkX σ scope) tg (tgSlots t) (asg T R R1 t)) (hts : ∀ σ, SndTs (c.blkX σ scope) ifs (evc T R R1 ec)) (he : ∀ σ, SndE (c.blkX σ scope) elt (ev T R R1 ee)) :
    SndS c (.Assign [.Name x p1] (.ListComp elt [⟨tg, it, ifs, 0⟩] scope spos) pos) (exS T R R1 (.asg (.nm i) (.lcE w t ii ec ee))) := ⟨fun {G H σ ι δ μ} S D q => by
  refine ⟨tAsg (tAt σ (tLc (tI c tg it) (tG (c.blkX σ scope) tg) (tTs (c.blkX σ scope) ifs) (tE (c.blkX σ scope) elt) ((ownOf c.N (tgSlots t)).map (·.2)))) (gName i), fun X f => ps_setLcX (W := c.W) (σ := σ) (f.calm.trans hc) (f.tp ht).1 (f.tp ht).2 f.take (f.N ▸ f.nd : X.N.Nodup) (by rw [f.N]; exact hi2) (by rw [f.sc]; exact hx)
    (sw_true (by rw [f.sc]; exact hk) (by rw [f.sc]; exact hx) hl ha) (pi_tI f.toFits) (by rw [f.N, f.sc]; exact ok) (fun s H C cap fp => pg_tG (fits_blkX f.toFits σ scope s H C cap fp)) (fun s H C cap fp => pts_tTs (fits_blkX f.toFits σ scope s H C cap fp)) (fun s H C cap fp => pe_tE (fits_blkX f.toFits σ scope s H C cap fp)) (fold_ok ho _), rfl, ?_⟩
  rw [exS_asg, ev_lcE] at q
  rw [ownOf_snd]
  rw [bnd_then] at q
  refine hi S _ (q.thn S fun J wk μ1 G1 H1 ι1 st hr wr q => ?_)
  have S1 := S.step st hr
  obtain ⟨sm, q⟩ := thn_need q
  exact lc_okX (Q := fun y H => gName i y _ H D.nx) (hg σ) (hts σ) (he σ) (fun _ z => z) (fun _ z => z) S1 wr sm (q.thn S1 fun y v μ2 G2 H2 ι2 st2 hr2 rv q => by
    rw [asg_nm] at q
    unfold need at q
    split at q
    · exact PostS.nx q ((S1.step st2 hr2).set i rv)
    · exact q.elimB)⟩
end
end Mp
end
section
set_option Elab.async false
set_option linter.all false
set_option maxRecDepth 100000
set_option maxHeartbeats 2000000
namespace L2
open PySem PySem.Spec PyProof.Rows
section
variable {X : Cx} {pins : List (Addr × Obj)} {σ : L2.St} {H : Hp} {s : Shared}
theorem keys_nd (I : Inv X pins σ H s) {a : Addr} {kvs : List (Key × V)} (e : Rd H a (.dK kvs)) : (kvs.map (·.1)).Nodup := by
  obtain ⟨_, _, vs, rel, dd⟩ := dk_rd I.hok e
  obtain ⟨_, _, _, _, _, _, _, _, nd⟩ := dd
  rw [KV.keys rel]; exact nd
/-- d[k] = v -/
def rSetDn : V → V → V → Hp → (Hp → Prop) → Prop := fun o i v H Q => ∃ a kvs k, o = .ref a ∧ i = kV k ∧ H a = some (.dK kvs) ∧ kvs.length < sizeLine ∧ ((kvs.map (·.1)).Nodup → Q (upd H a (.dK (putK kvs k v))))
theorem set_dict (hu : X.A.units + 1 < cLine) : PSet X rSetDn := by
  intro pins s σ H o i v ov iv u Q I ro ri rv h
  obtain ⟨a, kvs, k, rfl, rfl, e, l, q⟩ := h
  cases ro
  exact d_setItem hu I (DPut.k e l) ri rv fun s' I' => ⟨_, I', q (keys_nd I (.inl e))⟩
theorem PSet.or {r r' : TSet} (h : PSet X r) (h' : PSet X r') : PSet X fun o i v H Q => r o i v H Q ∨ r' o i v H Q := by
  intro pins s σ H o i v ov iv u Q I ro ri rv q
  rcases q with q | q
  · exact h pins s σ H o i v ov iv u Q I ro ri rv q
  · exact h' pins s σ H o i v ov iv u Q I ro ri rv q
/-- d.update(e), both dicts -/
def rUpd : V → List V → Hp → VK → Prop := fun x vs H Q => ∃ a b kvs more, x = .ref a ∧ vs = [.ref b] ∧ a ≠ b ∧ H a = some (.dK kvs) ∧ Rd H b (.dK more) ∧ kvs.length + more.length ≤ sizeLine ∧ ((kvs.map (·.1)).Nodup → Q .non (upd H a (.dK (mergeK kvs more))))
theorem mt_update : MtR X "dict.update" rUpd := by
  intro pins s σ H x vs v us Q I rx rv h
  obtain ⟨a, b, kvs, more, rfl, rfl, ne, ha, hb, hz, q⟩ := h
  cases rx
  obtain ⟨u, rfl, ru⟩ := rv.one
  cases ru
  obtain ⟨z1, d1, ws, rel, dd⟩ := dk_of I.hok ha
  obtain ⟨z2, d2, ws2, rel2, dd2⟩ := dk_rd I.hok hb
  refine call_meetsIn PySem.F.slot_dict_update dd.typeIs PySem.F.entry_dict_update (PySem.F.args_dict_update_2 _ _) (meets_dict_update (mixKind X.prog X.w) a b ne d2) ⟨ws, ws2, dd, dd2, by rw [← rel.length, ← rel2.length]; exact hz, fun h' dd' _ hs => ?_⟩
  have he : ∃ q, h'.get? a = some q := let ⟨q, _, _, hq, _⟩ := dd'; ⟨q, hq⟩
  have hl : (mergeK kvs more).length ≤ sizeLine := by have := length_mergeK more kvs; omega
  exact ⟨.non, _, d_write I (by rw [ha]; exact True.intro) hs he (dk_new hl d1 (rel2.merge rel) dd'), rfl, q (keys_nd I (.inl ha))⟩
def rGet1 : V → List V → Hp → VK → Prop := fun x vs H Q => ∃ a y o, x = .ref a ∧ vs = [y] ∧ DGet H a y o ∧ Q (o.getD .non) H
def rGet2 : V → List V → Hp → VK → Prop := fun x vs H Q => ∃ a y z o, x = .ref a ∧ vs = [y, z] ∧ DGet H a y o ∧ Q (o.getD z) H
theorem mt_get1 (hu : X.A.units + 1 < cLine) : MtR X "dict.get" rGet1 := by
  intro pins s σ H x vs v us Q I rx rv h
  obtain ⟨a, y, o, rfl, rfl, g, q⟩ := h
  obtain rfl : v = Value.ref a := rx
  obtain ⟨u, rfl, ru⟩ := rv.one
  exact d_get1 hu I g ru fun w' s3 I3 rw' => ⟨_, H, I3, rw', q⟩
theorem mt_get2 (hu : X.A.units + 1 < cLine) : MtR X "dict.get" rGet2 := by
  intro pins s σ H x vs v us Q I rx rv h
  obtain ⟨a, y, z, o, rfl, rfl, g, q⟩ := h
  obtain rfl : v = Value.ref a := rx
  cases rv with
  | cons r1 t =>
    obtain ⟨u, rfl, r2⟩ := (show Vals [z] _ from t).one
    exact d_get2 hu I g r1 r2 fun w' s3 I3 rw' => ⟨_, H, I3, rw', q⟩
/-- a dict's method, locked or not -/
def tBMD (r : V → List V → Hp → VK → Prop) (to : TE) (t : TA) : TE := fun σ H Q => to σ H fun x H1 => ∃ p, x = .ref p ∧ IsD H1 p ∧ t σ H1 fun vs H2 => r x vs H2 Q
theorem pe_bmD {name : Str} {id : String} {o e : Expr} {es : List Expr} {apos cpos : Pos} {to : TE} {t : TA} {r : V → List V → Hp → VK → Prop} (slot : Slot "dict" name id) (hty : typeOf (.builtin id) = pure (.type "method_descriptor")) (hm : MtR X id r) (ho : PE X o to) (ha : PA X (e :: es) t)
    (hb : attributeBase o name X.env (eval o X.env) = eval o X.env)
    (hf : ((backTo cpos (starEach (e :: es) X.env)).all (fun x => !x.1) && (backToKw cpos (keywordEach [] X.env)).all (fun x => x.1.isSome)
      && decide ((e :: es).length + ([] : List Keyword).length + (if ([] : List Keyword).isEmpty then 0 else 1) < 30)) = true)
    (hl : (apos.endLine == cpos.line) = true) (hs : starEach (e :: es) X.env = (false, eval e X.env) :: starEach es X.env) (hp : (backTo cpos (starEach es X.env)).any (·.1) = false) :
    PE X (.Call (.Attribute o name apos) (e :: es) [] cpos) (tBMD r to t) := by
  refine ⟨fun pins s σ H Q I h => ?_⟩
  refine wpAny_Call_method_late hb hf hl rfl (thn (ho.run pins s σ H _ I h) fun v s1 ⟨x, H1, I1, r1, p, ex, isd, q1⟩ => ?_)
  subst ex
  obtain rfl : v = Value.ref p := r1
  obtain ⟨h1, h2, _⟩ := isD_at I1 isd
  refine ⟨"dict", id, PySem.F.plainAttrs_dict, slot, hty, h1, h2, ?_⟩
  have hA := ha.run cpos pins s1 σ H1 _ I1 q1
  rw [hs] at hA ⊢
  refine Calls.callWith_builtin (by show (false || (backTo cpos (starEach es X.env)).any (·.1)) = false; rw [hp] <;> rfl) (Calls.evalArgs_plain ?_)
  exact thn hA fun us s2 ⟨vs, H2, I2, r2, q2⟩ => hm pins s2 σ H2 (.ref p) vs (.ref p) us Q I2 rfl r2 q2
end
end L2
namespace Mp
open PySem L2 PySem.Spec PyProof.Rows
open Evl (Ex ex_l ex_t fresh_back)
section
variable {L : Lk} {X : Ext} {E : XK} {G H : Hp} {ι : Iot} {μ : Heap} {Q : VK}
theorem KR.of_zip : ∀ {ks : List Key} {ws : List V} {vs : List Val}, ks.length = vs.length → VRs L X G ι ws vs → KR L X G ι (ks.zip ws) ((ks.map kD).zip vs)
  | [], _, [], _, .nil => .nil
  | k :: ks, _, _ :: _, h, .cons a t => .cons a (KR.of_zip (Nat.succ.inj h) t)
theorem KR.len {a : List (Key × V)} {b : List (D × Val)} (h : KR L X G ι a b) : a.length = b.length := by
  induction h with
  | nil => rfl
  | cons _ _ ih => rw [List.length_cons, List.length_cons, ih]
theorem KR.mono {G' : Hp} {ι' : Iot} (e : Ex G G') (p : Pre ι ι') {a : List (Key × V)} {b : List (D × Val)} (h : KR L X G ι a b) : KR L X G' ι' a b := by
  induction h with
  | nil => exact .nil
  | cons r _ ih => exact .cons (r.mono e p) ih
/-- a dict's pairs change where it stands -/
theorem HR.mutD (h : HR L G H ι μ) {i : Nat} {p : Addr × Addr} {c : List (D × Val)} {kvs : List (Key × V)} {kvs' : List (D × Val)} (e1 : ι[i]? = some p) (e2 : μ[i]? = some (.dct c)) (r : KR L .no G ι kvs kvs') :
    HR L G (upd H p.1 (.dK kvs)) ι (μ.set i (.dct kvs')) ∧ Stp ι.length G H ι μ G (upd H p.1 (.dK kvs)) ι (μ.set i (.dct kvs')) := by
  obtain ⟨k1, k2⟩ := r.zips
  refine h.mut e1 e2 rfl (fun a ha => upd_ne fun z => ha (by rw [z]; exact List.mem_singleton.mpr rfl)) (fun a ha => by rw [List.mem_singleton.mp ha, upd_same]; intro z; cases z) ⟨kvs'.map (·.1), kvs.map (·.2), kvs'.map (·.2), (zip_self' kvs').symm, by rw [List.length_map, List.length_map], k2, kvs.map (·.1), k1, ?_⟩
  rw [zip_self', upd_same]
/-- an own dict, as it stands -/
theorem HR.dctAt (h : HR L G H ι μ) {w : V} {i : Nat} {kvs : List (D × Val)} (r : VR L X G ι w (.ref i)) (e : μ[i]? = some (.dct kvs)) : ∃ p ks, ι[i]? = some p ∧ w = .ref p.1 ∧ H p.1 = some (.dK ks) ∧ KR L .no G ι ks kvs := by
  obtain ⟨p, h1, rfl, ks, ws, vs, rfl, hl, a2, ks', rfl, z⟩ := h.ref r e
  exact ⟨p, ks'.zip ws, h1, rfl, z, KR.of_zip (by rw [List.length_map] at hl; exact hl) a2⟩
theorem KR.no' {a : List (Key × V)} {b : List (D × Val)} (h : KR L X G ι a b) (s : (b.map (·.2)).all simple = true) : KR L .no G ι a b := by
  induction h with
  | nil => exact .nil
  | cons r _ ih =>
    rw [List.map_cons, List.all_cons, Bool.and_eq_true] at s
    exact .cons (r.ext s.1) (ih s.2)
end
section
variable {c : Ctx} {a b d o : Expr} {pos p p2 apos : Pos} {x : Str} {T : Tbl} {R R1 : Run} {ea eb ec eo : E} {w : Bool}
theorem need_g {G H : Hp} {ι : Iot} {μ : Heap} {E : XK} {Q : L2.St → Hp → Prop} {sl : List Nat} {σ : L2.St} {δ : Slots} {bb : Bool} {r : Res Unit} (q : Post c.L E (RvG c sl σ) G H ι μ Q ((need bb r).bnd fun _ μ => .ok δ μ)) : bb = true ∧ Post c.L E (RvG c sl σ) G H ι μ Q (r.bnd fun _ μ => .ok δ μ) := by
  cases bb with
  | true => exact ⟨rfl, q⟩
  | false => exact q.elim
/-- o[i] = v: lists, dicts -/
theorem sng_subD (h1 : SndE c a (ev T R R1 ea)) (h2 : SndE c b (ev T R R1 eb)) (hb : okE b = true) : SndG c (.Subscript a b pos) [] (asg T R R1 (.sub ea eb)) :=
  SndG.mk (t := gSub (tE c a) (tE c b) fun o i v H Q => rSetL o i v H Q ∨ rSetDn o i v H Q) (fun X f => pg_sub (pe_tE f) (pe_tE f) (PSet.or set_list (set_dict (by have := f.un; omega))) (fun v => asub_ok hb _ _ v)) fun S w v r Q q => by
    rw [asg_sub] at q
    refine h1 S _ (q.bnd fun y u μ1 G1 H1 ι1 st hr rv q => h2 (S.step st hr) _ (q.bnd fun z k μ2 G2 H2 ι2 st2 hr2 rv2 q => ?_))
    have rv' := rv.mono st2.g st2.pre'
    have r' := (r.mono st.g st.pre').mono st2.g st2.pre'
    have S2 := (S.step st hr).step st2 hr2
    unfold setSub at q
    split at q
    · rename_i i
      split at q
      · rename_i vs e
        split at q
        · rename_i n
          split at q
          · rename_i j hj
            obtain ⟨pp, h1, rfl, ys, a1, a2⟩ := hr2.ref rv' e
            obtain ⟨hs, q⟩ := need_g q
            obtain ⟨k1, k2⟩ := hr2.mutL h1 e (vrs_set j a2 (r'.toNo hs))
            exact .inl ⟨pp.1, ys, n, j, rfl, dr_int rv2, a1, by rw [vrs_len a2]; exact hj, q.okS k2 k1 ⟨Diff.refl _ _, S2.step k2 k1⟩⟩
          · exact q.elim
        · exact q.elim
      · rename_i kvs e
        split at q
        · rename_i dk
          obtain ⟨pp, ks, h1, rfl, hd, kr⟩ := hr2.dctAt rv' e
          obtain ⟨hs, q⟩ := need_g q
          rw [Bool.and_eq_true, Bool.and_eq_true] at hs
          obtain ⟨⟨hk, hz⟩, hs⟩ := hs
          obtain ⟨k, rfl⟩ := isKey0_k hk
          refine .inr ⟨pp.1, ks, k, rfl, dr_k rv2, hd, by rw [kr.len]; exact small_lt hz, fun nd => ?_⟩
          obtain ⟨k1, k2⟩ := hr2.mutD h1 e (kr.put (r'.toNo hs) nd).1
          exact q.okS k2 k1 ⟨Diff.refl _ _, S2.step k2 k1⟩
        · exact q.elim
      · exact q.elim
    · exact q.elim
/-! ### get -/
theorem HR.isD {L : Lk} {X : Ext} {G H : Hp} {ι : Iot} {μ : Heap} {w : V} {v : Val} (h : HR L G H ι μ) (r : VR L X G ι w v) (e : isDct μ v = true) : ∃ a, w = .ref a ∧ IsD H a := by
  have : ∃ kvs, Mp.pairs μ v = some kvs := by
    cases v with
    | d x => cases x <;> first | exact ⟨_, rfl⟩ | (cases e; done)
    | ref i =>
      unfold isDct at e
      unfold Mp.pairs
      simp only at e ⊢
      cases q : μ[i]? with
      | none => rw [q] at e; cases e
      | some c =>
        rw [q] at e
        cases c with
        | dct kvs => exact ⟨_, rfl⟩
        | frz d => cases d <;> first | exact ⟨_, rfl⟩ | (cases e; done)
        | _ => cases e
    | clo f c => cases e
    | exn x => cases e
  obtain ⟨kvs, hk⟩ := this
  obtain ⟨a, ks, ws, vs, rfl, _, rd, _⟩ := h.pairs r hk
  exact ⟨a, rfl, .inl ⟨_, rd⟩⟩
theorem look_get {L : Lk} {X : Ext} {G : Hp} {ι : Iot} {ks : List Key} {ws : List V} {vs : List Val} (hl : ks.length = vs.length) (t : VRs L X G ι ws vs) (k : Key) {z : V} {u : Val} (hz : VR L X G ι z u) : VR L X G ι ((valV (ks.zip ws) k).getD z) ((lookD (kD k) ((ks.map kD).zip vs)).getD u) := by
  rcases look_k k hl (vrs_len t) with ⟨h1, h2⟩ | ⟨i, w, v, h1, h2, h3, h4⟩
  · rw [h1, h2]; exact hz
  · rw [h3, h4]
    obtain ⟨w', e1, e2⟩ := vrs_get t h2
    rw [h1] at e1; cases e1
    exact e2
theorem snd_get1 {ees : Es} (hn : nsE o = true) (ho : [a].all okE = true) (hline : (apos.endLine == pos.line) = true) (h1 : SndE c o (ev T R R1 eo)) (h2 : SndA c [a] (evs T R R1 ees)) :
    SndE c (.Call (.Attribute o "get" apos) [a] [] pos) (ev T R R1 (.bme .get1 w eo ees)) :=
  SndE.mk (t := tBMD rGet1 (tE c o) (tA c [a])) (fun X f => by
    have ho' := ho
    rw [List.all_cons, Bool.and_eq_true] at ho'
    exact pe_bmD PySem.F.slot_dict_get PySem.F.type_dict_get (mt_get1 (by have := f.un; omega)) (pe_tE f) (pa_tA f) (base_ok hn _ _) (few_ok (n := 0) ho (by simp) _ _) hline (star_ok ho'.1 _ _) (plain_args ho'.2 _ _)) fun S Q q => by
    rw [ev_bme] at q
    refine h1 S _ (q.bnd fun y v μ1 G1 H1 ι1 st hr rv q => ?_)
    obtain ⟨hb, q⟩ := q.need
    obtain ⟨p, rfl, isd⟩ := hr.isD rv hb
    refine ⟨p, rfl, isd, ?_⟩
    refine h2 (S.step st hr) _ (q.bnd fun ys us μ2 G2 H2 ι2 st2 hr2 rv2 q => ?_)
    have rv' := rv.mono st2.g st2.pre'
    unfold bmeV at q
    cases rv2 with
    | nil => exact q.elim
    | @cons z _ u us ru rus =>
    cases rus with
    | cons _ _ => cases u <;> exact q.elim
    | nil =>
    cases u with
    | d x =>
      simp only at q
      split at q
      · rename_i kvs hk
        obtain ⟨hx, q⟩ := q.need
        obtain ⟨k, rfl⟩ := isKey0_k hx
        obtain ⟨a', ks, ws, vs, e, rfl, rd, hl, t⟩ := hr2.pairs rv' hk
        cases e
        exact ⟨_, z, _, rfl, rfl, .inl ⟨_, k, rd, dr_k ru, rfl⟩, q.ok hr2 (look_get hl t k (z := .non) (u := .d .non) Dr.non)⟩
      · exact q.elim
    | _ => exact q.elim
theorem snd_get2 {ees : Es} (hn : nsE o = true) (ho : [a, b].all okE = true) (hline : (apos.endLine == pos.line) = true) (h1 : SndE c o (ev T R R1 eo)) (h2 : SndA c [a, b] (evs T R R1 ees)) :
    SndE c (.Call (.Attribute o "get" apos) [a, b] [] pos) (ev T R R1 (.bme .get2 w eo ees)) :=
  SndE.mk (t := tBMD rGet2 (tE c o) (tA c [a, b])) (fun X f => by
    have ho' := ho
    rw [List.all_cons, Bool.and_eq_true] at ho'
    exact pe_bmD PySem.F.slot_dict_get PySem.F.type_dict_get (mt_get2 (by have := f.un; omega)) (pe_tE f) (pa_tA f) (base_ok hn _ _) (few_ok (n := 0) ho (by simp) _ _) hline (star_ok ho'.1 _ _) (plain_args ho'.2 _ _)) fun S Q q => by
    rw [ev_bme] at q
    refine h1 S _ (q.bnd fun y v μ1 G1 H1 ι1 st hr rv q => ?_)
    obtain ⟨hb, q⟩ := q.need
    obtain ⟨p, rfl, isd⟩ := hr.isD rv hb
    refine ⟨p, rfl, isd, ?_⟩
    refine h2 (S.step st hr) _ (q.bnd fun ys us μ2 G2 H2 ι2 st2 hr2 rv2 q => ?_)
    have rv' := rv.mono st2.g st2.pre'
    unfold bmeV at q
    cases rv2 with
    | nil => exact q.elim
    | @cons z _ u us ru rus =>
    cases rus with
    | nil => cases u <;> exact q.elim
    | @cons z2 _ u2 us2 ru2 rus2 =>
    cases rus2 with
    | cons _ _ => cases u <;> exact q.elim
    | nil =>
    cases u with
    | d x =>
      simp only at q
      split at q
      · rename_i kvs hk
        obtain ⟨hx, q⟩ := q.need
        obtain ⟨k, rfl⟩ := isKey0_k hx
        obtain ⟨a', ks, ws, vs, e, rfl, rd, hl, t⟩ := hr2.pairs rv' hk
        cases e
        exact ⟨_, z, z2, _, rfl, rfl, .inl ⟨_, k, rd, dr_k ru, rfl⟩, q.ok hr2 (look_get hl t k ru2)⟩
      · exact q.elim
    | _ => exact q.elim
theorem dr_dct {L : Lk} {G : Hp} {w : V} {kvs : List (D × D)} (h : Dr L G w (.dct kvs)) : ∃ a o u, w = .ref a ∧ G a = some (.frz o u) := by
  generalize hx : D.dct kvs = x at h
  cases h with
  | dct g _ _ => exact ⟨_, _, _, rfl, g⟩
  | _ => cases hx
/-! ### update -/
theorem snd_upd {ees : Es} (hn : nsE o = true) (ho : [a].all okE = true) (hline : (apos.endLine == pos.line) = true) (h1 : SndE c o (ev T R R1 eo)) (h2 : SndA c [a] (evs T R R1 ees)) :
    SndE c (.Call (.Attribute o "update" apos) [a] [] pos) (ev T R R1 (.bme .update w eo ees)) :=
  SndE.mk (t := tBM c.L.K "dict" rUpd (tE c o) (tA c [a])) (fun X f => by
    rw [← f.K]
    have ho' := ho
    rw [List.all_cons, Bool.and_eq_true] at ho'
    exact pe_bm PySem.F.plainAttrs_dict PySem.F.slot_dict_update PySem.F.type_dict_update mt_update (pe_tE f) (pa_tA f) (base_ok hn _ _) (few_ok (n := 0) ho (by simp) _ _) hline (star_ok ho'.1 _ _) (plain_args ho'.2 _ _)) fun S Q q => by
    rw [ev_bme] at q
    refine h1 S _ (q.bnd fun y v μ1 G1 H1 ι1 st hr rv q => ?_)
    obtain ⟨hb, q⟩ := q.need
    cases v with
    | ref i =>
      rw [show bmeTy .update μ1 (.ref i) = isDctO μ1 (.ref i) from rfl, isDctO_ref] at hb
      split at hb
      · rename_i kvs e
        obtain ⟨pp, ks, e1, rfl, hd, kr⟩ := hr.dctAt rv e
        refine ⟨.inr (.inr (.inl ⟨rfl, .inl ⟨_, hd⟩⟩)), ?_⟩
        refine h2 (S.step st hr) _ (q.bnd fun ys vs μ2 G2 H2 ι2 st2 hr2 rv2 q => ?_)
        have rv' := rv.mono st2.g st2.pre'
        cases rv2 with
        | nil => exact q.elim
        | @cons z _ u us ru rus =>
        cases rus with
        | cons _ _ => exact q.elim
        | nil =>
        rw [bme_update] at q
        split at q
        · rename_i kv2 us2 e2 hp
          obtain ⟨pq, k2, e3, e4, hd2, kr2⟩ := hr2.dctAt rv' e2
          have e4 : pp.1 = pq.1 := by injection e4
          obtain ⟨b', ks', ws, vs, rfl, rfl, rd, hl, t⟩ := hr2.pairs ru hp
          obtain ⟨hz, q⟩ := q.need
          rw [Bool.and_eq_true, Bool.and_eq_true, Bool.not_eq_true'] at hz
          have km := (KR.of_zip hl t).no' hz.2.2
          have ne : pp.1 ≠ b' := fun z => by
            have fo : Foot ι2 μ2 pp.1 := ⟨i, pq, _, e3, e2, by rw [e4]; exact List.mem_singleton.mpr rfl⟩
            have gn := (hr2.own _ fo).1
            cases u with
            | d x =>
              cases x <;> first | (cases hp; done) | skip
              obtain ⟨a0, o0, u0, j1, j2⟩ := dr_dct ru
              cases j1
              rw [z, j2] at gn; cases gn
            | ref j =>
              obtain ⟨pj, j1, j2⟩ := ru
              have j2 : b' = pj.1 := by injection j2
              unfold Mp.pairs at hp
              simp only at hp
              split at hp
              · rename_i kj ej
                have := hr2.dj i j pq pj _ _ pp.1 e3 e2 j1 ej (by rw [e4]; exact List.mem_singleton.mpr rfl) (by rw [z, j2]; exact List.mem_singleton.mpr rfl)
                have h0 := hz.2.1
                rw [← this] at h0
                exact absurd (show sameRef i (.ref i) = true from decide_eq_true rfl) (by rw [h0]; decide)
              · rename_i kj ej
                have cr := hr2.cell j pj _ j1 ej
                have cr : Dr c.L G2 (.ref pj.1) _ := cr
                obtain ⟨a0, o0, u0, j3, j4⟩ := dr_dct cr
                have j3 : pj.1 = a0 := by injection j3
                rw [z, j2, j3, j4] at gn; cases gn
              · cases hp
            | _ => cases hp
          refine ⟨pp.1, b', k2, ks'.zip ws, rfl, rfl, ne, by rw [e4]; exact hd2, rd, ?_, fun nd => ?_⟩
          · have := of_decide_eq_true hz.1
            rw [kr2.len]
            have h2 : (ks'.zip ws).length ≤ ((ks'.map kD).zip vs).length := by rw [km.len]; exact Nat.le_refl _
            show _ ≤ 16777216
            omega
          · obtain ⟨k1, s1⟩ := hr2.mutD e3 e2 (KR.merge km kr2 nd)
            rw [e4]
            exact q.okS s1 k1 (show Dr _ _ _ _ from .non)
        · exact q.elim
      · cases hb
    | _ => cases hb
end
/-! ### dict comprehensions -/
/-- a dict of nobody's stands at D -/
structure HolD (L : Lk) (X : Ext) (G H : Hp) (ι : Iot) (μ : Heap) (D : Addr) (acc : List (Mp.D × Val)) : Prop where
  hr : HR L G H ι μ
  g : G D = none
  f : ¬ Foot ι μ D
  h : ∃ kvs, H D = some (.dK kvs) ∧ (kvs.map (·.1)).Nodup ∧ KR L X G ι kvs acc
section
variable {L : Lk} {X : Ext} {E E' : XK} {G H G1 H1 : Hp} {ι ι1 : Iot} {μ μ1 : Heap} {D : Addr} {acc : List (Mp.D × Val)}
theorem HolD.noD (h : HolD L X G H ι μ D acc) : HR L G (Mp.hole H D) ι μ := by
  refine h.hr.keep (Ex.refl G) (fun a u q => ?_) fun a f => ⟨(h.hr.own a f).1, ?_⟩
  · rw [hole_ne fun z => by rw [z, h.g] at q; cases q]; exact h.hr.gh a u q
  · rw [hole_ne fun z => h.f (by rw [← z]; exact f)]
theorem HolD.step (h : HolD L X G H ι μ D acc) (st : Stp ι.length G H ι μ G1 H1 ι1 μ1) (hr : HR L G1 H1 ι1 μ1) : HolD L X G1 H1 ι1 μ1 D acc ∧ Stp ι.length G (Mp.hole H D) ι μ G1 (Mp.hole H1 D) ι1 μ1 := by
  obtain ⟨kvs, hd, nd, hv⟩ := h.h
  refine ⟨⟨hr, (st.old D (by rw [hd]; exact fun z => nomatch z) h.f).trans h.g, fun z => ?_, kvs, st.keep D _ hd h.f, nd, hv.mono st.g st.pre'⟩, st.g, st.pre, st.le, fun a o q nf => ?_, fun a q nf => ?_, fun a f => ?_⟩
  · rcases st.live D z with z | z
    · exact h.f z
    · rw [hd] at z; cases z
  · by_cases e : a = D
    · subst e; rw [hole_same] at q; cases q
    · rw [hole_ne e] at q ⊢; exact st.keep a o q nf
  · by_cases e : a = D
    · subst e; exact absurd hole_same q
    · rw [hole_ne e] at q; exact st.old a q nf
  · rcases st.live a f with z | z
    · exact .inl z
    · refine .inr ?_
      by_cases e : a = D
      · subst e; exact hole_same
      · rw [hole_ne e]; exact z
theorem HolD.put (h : HolD L X G H ι μ D acc) {k : Key} {x : V} {v : Val} (r : VR L X G ι x v) {kvs : List (Key × V)} (hd : H D = some (.dK kvs)) : HolD L X G (upd H D (.dK (putK kvs k x))) ι μ D (putD (kD k) v acc) := by
  obtain ⟨k2, hd', nd, hv⟩ := h.h
  rw [hd] at hd'; cases hd'
  obtain ⟨p1, p2, _⟩ := hv.put (k := k) r nd
  refine ⟨h.hr.keep (Ex.refl G) (fun a u q => ?_) (fun a f => ⟨(h.hr.own a f).1, upd_ne fun z => h.f (by rw [← z]; exact f)⟩), h.g, h.f, _, upd_same, p2, p1⟩
  rw [upd_ne fun z => by rw [z, h.g] at q; cases q]; exact h.hr.gh a u q
theorem holD_new (hr : HR L G H ι μ) (hD : H D = none) : HolD L X G (upd H D (.dK [])) ι μ D [] :=
  ⟨hr.keep (Ex.refl G) (fun a u q => by rw [upd_ne (ne_of_none (hr.gh a u q) hD)]; exact hr.gh a u q) (fun a f => ⟨(hr.own a f).1, upd_ne fun z => hr.nofoot hD (by rw [← z]; exact f)⟩), fresh_back hr.gh hD, hr.nofoot hD, [], upd_same, List.nodup_nil, .nil⟩
theorem HolD.noxE {α β α2 : Type} {Rv : Hp → Hp → Iot → Heap → β → α → Prop} {Rw : Hp → Hp → Iot → Heap → V → α2 → Prop} (hD : HolD L X G H ι μ D acc) {Q : β → Hp → Prop} {Q2 : V → Hp → Prop} {r : Res α} {f : α → Heap → Res α2} (h : Post L E Rw G (hole H D) ι μ Q2 (r.nox.bnd f))
    (k : ∀ w a μ1 G1 H1 ι1, Stp ι.length G H ι μ G1 H1 ι1 μ1 → HR L G1 H1 ι1 μ1 → HolD L X G1 H1 ι1 μ1 D acc → Rv G1 H1 ι1 μ1 w a → Post L E Rw G1 (hole H1 D) ι1 μ1 Q2 (f a μ1) → Q w H1) : Post L E' Rv G H ι μ Q r := by
  cases r with
  | ok a μ' =>
    intro w G' H' ι' st hr rv
    obtain ⟨h1, h2⟩ := hD.step st hr
    exact k w a μ' G' H' ι' st hr h1 rv (Post.step h h2)
  | ex x μ' => exact h.elim
  | bad => exact h.elim
/-- the new dict: own, or locked -/
theorem Post.newDict {w : Bool} {Q : VK} {kvs : List (Key × V)} (h : HR L G H ι μ) (q : Post L E (RvV L X) G H ι μ Q (newD w acc μ)) (r : KR L X G ι kvs acc) (hp : H D = none) :
    (w = true → Q (.ref D) (upd H D (.dK kvs))) ∧ (w = false → ∀ od, Q (.ref D) (upd H D (.frz od (.dK kvs)))) := by
  obtain ⟨k1, k2⟩ := r.zips
  cases w with
  | true =>
    refine ⟨fun _ => ?_, fun z => nomatch z⟩
    rw [newD_true] at q
    obtain ⟨_, q⟩ := q.need
    obtain ⟨hs, q⟩ := q.need
    have r0 := r.no' hs
    obtain ⟨j1, j2⟩ := r0.zips
    obtain ⟨h1, s1⟩ := h.new (p := (D, D)) (c := .dct acc) (H' := upd H D (.dK kvs)) (fun a ha => by rw [List.mem_singleton.mp ha, upd_same]; exact ⟨hp, fun z => nomatch z⟩) (fun a ha => upd_ne fun z => ha (by rw [z]; exact List.mem_singleton.mpr rfl))
      ⟨acc.map (·.1), kvs.map (·.2), acc.map (·.2), (zip_self' acc).symm, by rw [List.length_map, List.length_map], j2.mono (Ex.refl G) (Pre.app _ _), kvs.map (·.1), j1, by rw [zip_self', upd_same]⟩
    exact q.okS s1 h1 ⟨(D, D), by rw [← h.len]; exact List.getElem?_concat_length, rfl⟩
  | false =>
    refine ⟨(fun z => nomatch z), fun _ od => ?_⟩
    rw [newD_false] at q
    obtain ⟨_, q⟩ := q.need
    split at q
    · rename_i ds hd
      have t := vrs_snap0 k2 hd
      obtain ⟨h1, s1⟩ := h.grow (p := D) (.frz od (.dK kvs)) hp
      refine q.okS s1 h1 ?_
      rw [k1]
      have e : (upd G D (.frz od (.dK kvs))) D = some (.frz od (.dK ((kvs.map (·.1)).zip (kvs.map (·.2))))) := by rw [upd_same, zip_self']
      exact .dct e (by rw [List.length_map, List.length_map]) (drs_ex s1.g t)
    · exact q.elim
end
section
variable {c : Ctx} {tg it kx vx : Expr} {ifs : List Expr} {scope : Scope} {T : Tbl} {R R1 : Run} {t : Tg} {ec : TO} {ek ee : E} {w : Bool} {ii : Mp.It} {pos : Pos}
def lkW (w : Bool) (Q : VK) : VK := if w = true then Q else lkQ Q
theorem dc_ok (hg : SndG (c.blk scope) tg (tgSlots t) (asg T R R1 t)) (hc : SndTs (c.blk scope) ifs (evc T R R1 ec)) (hk : SndE (c.blk scope) kx (ev T R R1 ek)) (he : SndE (c.blk scope) vx (ev T R R1 ee)) {vs : List Nat} (hv1 : ∀ j ∈ vs, j ∈ tgSlots t) (hv2 : ∀ j ∈ tgSlots t, j ∈ vs)
    {G H : Hp} {σ : L2.St} {ι : Iot} {δ : Slots} {μ : Heap} (S : St c G H σ ι δ μ) {J : L2.It} {wk : Walk} (wr : WR c.L c.X G ι J wk) (sm : small wk.1.length = true) {Q : VK} (q : Post c.L (c.E σ) (RvV c.L c.X) G H ι μ Q ((collect wk.2 (dcF T R R1 t ec ek ee (killS (tgSlots t) δ)) wk.1 μ).nox.bnd fun kvs μ => newD w (kvs.foldl (fun acc p => putD p.1 p.2 acc) []) μ)) :
    ∀ D, H D = none → ∃ W : Nat → Nat → Hp → Prop, (∃ m, W 0 m (upd H D (.dK []))) ∧ ∀ i m H, W i m H →
      (J.stop i H ∧ lkW w Q (.ref D) H) ∨ (J.go i H ∧ ∃ Nx : Hp → Prop, (∀ H', Nx H' → ∃ m', m' < m ∧ W (i + 1) m' H') ∧ ∀ x H', J.yld i H x H' → tG (c.blk scope) tg x (wipe σ vs) H' fun σ2 H2 => wipe σ2 vs = wipe σ vs ∧ tTs (c.blk scope) ifs σ2 H2 fun b H3 =>
        if b = true then tE (c.blk scope) kx σ2 H3 fun y H4 => tE (c.blk scope) vx σ2 H4 fun z H5 => ∃ kvs k, y = kV k ∧ H5 D = some (.dK kvs) ∧ kvs.length < sizeLine ∧ Nx (upd H5 D (.dK (putK kvs k z))) else Nx H3) := by
  intro D hD
  refine ⟨fun i m H' => m = wk.1.length - i ∧ i ≤ wk.1.length ∧ ∃ G' ι' μ' acc, acc.length ≤ i ∧ HolD c.L c.X G' H' ι' μ' D acc ∧ Ex G G' ∧ Pre ι ι' ∧ Post c.L (c.E σ) (RvV c.L c.X) G' (hole H' D) ι' μ' Q ((collect wk.2 (dcF T R R1 t ec ek ee (killS (tgSlots t) δ)) (wk.1.drop i) μ').nox.bnd fun b μ => newD w (b.foldl (fun acc p => putD p.1 p.2 acc) acc) μ), ⟨_, rfl, Nat.zero_le _, G, ι, μ, [], Nat.zero_le _, holD_new S.hr hD, Ex.refl G, Pre.refl _, ?_⟩, ?_⟩
  · have e : hole (upd H D (.dK [])) D = H := by
      funext a
      by_cases z : a = D
      · subst z; rw [hole_same, hD]
      · rw [hole_ne z, upd_ne z]
    rw [e, List.drop_zero]
    exact q
  · rintro i m H' ⟨rfl, hi, G', ι', μ', acc, ha, hol, eg, pr, q⟩
    by_cases gd : guardOk wk.2 μ'
    · obtain ⟨w1, w2⟩ := wr i hol.hr eg pr gd
      by_cases hlt : i < wk.1.length
      · have hv : wk.1[i]? = some wk.1[i] := List.getElem?_eq_getElem hlt
        obtain ⟨go, yl⟩ := w2 _ hv
        refine .inr ⟨go, fun H2 => i + 1 ≤ wk.1.length ∧ ∃ G' ι' μ' acc, acc.length ≤ i + 1 ∧ HolD c.L c.X G' H2 ι' μ' D acc ∧ Ex G G' ∧ Pre ι ι' ∧ Post c.L (c.E σ) (RvV c.L c.X) G' (hole H2 D) ι' μ' Q ((collect wk.2 (dcF T R R1 t ec ek ee (killS (tgSlots t) δ)) (wk.1.drop (i + 1)) μ').nox.bnd fun b μ => newD w (b.foldl (fun acc p => putD p.1 p.2 acc) acc) μ),
          fun H2 z => ⟨wk.1.length - (i + 1), by omega, rfl, z⟩, fun x H2 hy => ?_⟩
        obtain ⟨G2, hr2, st2, rx⟩ := yl x H2 hy
        obtain ⟨hol2, sth⟩ := hol.step st2 hr2
        have q := q.step sth
        rw [List.drop_eq_getElem_cons hlt, collS gd, nox_bnd, bnd_assoc] at q
        have S2 : St (c.blk scope) G2 H2 (wipe σ vs) ι' (killS (tgSlots t) δ) μ' := ⟨hr2, by rw [wipe_length, kill_len]; exact S.len, fun j v hj => by
          obtain ⟨h1, h2⟩ := kill_at hj
          obtain ⟨u, h3, h4⟩ := S.sl j v h1
          exact ⟨u, by rw [wipe_get, if_neg fun z => h2 (hv1 j z)]; exact h3, h4.mono (eg.trans st2.g) pr⟩⟩
        obtain ⟨rest, hrest⟩ : ∃ rest, (fun ν => collect wk.2 (dcF T R R1 t ec ek ee (killS (tgSlots t) δ)) (wk.1.drop (i + 1)) ν) = rest := ⟨_, rfl⟩
        have hrest' : ∀ ν, collect wk.2 (dcF T R R1 t ec ek ee (killS (tgSlots t) δ)) (wk.1.drop (i + 1)) ν = rest ν := fun ν => congrFun hrest ν
        simp only [hrest'] at q ⊢
        unfold dcF at q
        rw [nox_bnd, bnd_assoc] at q
        refine hg S2 _ _ rx _ (hol2.noxE q fun σ2 δ2 μ3 G3 H3 ι3 st3 hr3 hol3 ⟨df, S3⟩ q => ⟨wipe_diff df hv2, ?_⟩)
        have p3 : Pre ι ι3 := pr.trans st3.pre'
        have e3 : Ex G G3 := (eg.trans st2.g).trans st3.g
        rw [nox_bnd, bnd_assoc] at q
        refine hc S3 _ (hol3.noxE q fun b b' μ4 G4 H4 ι4 st4 hr4 hol4 rb q => ?_)
        have rb : b = b' := rb
        subst rb
        have p4 : Pre ι ι4 := p3.trans st4.pre'
        have e4 : Ex G G4 := e3.trans st4.g
        have S4 := S3.step st4 hr4
        cases b with
        | true =>
          rw [if_pos rfl] at q ⊢
          rw [nox_bnd, bnd_assoc] at q
          refine hk S4 _ (hol4.noxE q fun y v μ5 G5 H5 ι5 st5 hr5 hol5 ry q => ?_)
          rw [nox_bnd, bnd_assoc] at q
          refine he (S4.step st5 hr5) _ (hol5.noxE q fun z u μ6 G6 H6 ι6 st6 hr6 hol6 rz q => ?_)
          have ry' := ry.mono st6.g st6.pre'
          cases v with
          | d dk =>
            simp only at q
            cases hkk : isKey0 dk with
            | false => rw [hkk] at q; exact q.elim
            | true =>
              rw [hkk] at q
              obtain ⟨k, rfl⟩ := isKey0_k hkk
              simp only [need_true, nox_ok, bnd_ok] at q
              obtain ⟨kvs, hd, nd, kr⟩ := hol6.h
              have sm := of_decide_eq_true sm
              have pl : (putD (kD k) u acc).length ≤ acc.length + 1 := by
                have h1 := (kr.put (k := k) rz nd).1.len
                have h2 := length_putK kvs k z
                have h3 := kr.len
                omega
              refine ⟨kvs, k, dr_k ry', hd, by rw [kr.len]; show acc.length < 16777216; omega, by omega, G6, ι6, μ6, putD (kD k) u acc, by omega, hol6.put rz hd, (e4.trans st5.g).trans st6.g, (p4.trans st5.pre').trans st6.pre', ?_⟩
              have e : hole (upd H6 D (.dK (putK kvs k z))) D = hole H6 D := hole_upd
              rw [e]
              cases hz : rest μ6 with
              | ok b' μ7 => rw [hz] at q; exact q
              | ex x μ7 => rw [hz] at q; exact q.elim
              | bad => rw [hz] at q; exact q.elim
          | _ => exact q.elim
        | false =>
          rw [if_neg Bool.false_ne_true] at q ⊢
          refine ⟨by omega, G4, ι4, μ4, acc, by omega, hol4, e4, p4, ?_⟩
          simp only [nox_ok, bnd_ok] at q
          cases hz : rest μ4 with
          | ok b' μ7 => rw [hz] at q; exact q
          | ex x μ7 => rw [hz] at q; exact q.elim
          | bad => rw [hz] at q; exact q.elim
      · have e : wk.1.drop i = [] := List.drop_eq_nil_of_le (by omega)
        rw [e, collN gd] at q
        refine .inl ⟨w1 (by omega), ?_⟩
        obtain ⟨kvs, hd, nd, kr⟩ := hol.h
        have q2 : Post c.L (c.E σ) (RvV c.L c.X) G' (hole H' D) ι' μ' Q (newD w acc μ') := q
        obtain ⟨n1, n2⟩ := Post.newDict (D := D) hol.noD q2 kr hole_same
        unfold lkW
        cases w with
        | true =>
          rw [if_pos rfl]
          have := n1 rfl
          rw [upd_hole hd] at this
          exact this
        | false =>
          rw [if_neg Bool.false_ne_true]
          refine ⟨D, kvs, rfl, hd, fun od => ?_⟩
          have := n2 rfl od
          have e : upd (hole H' D) D (.frz od (.dK kvs)) = upd H' D (.frz od (.dK kvs)) := by
            funext a
            by_cases z : a = D
            · subst z; rw [upd_same, upd_same]
            · rw [upd_ne z, upd_ne z, hole_ne z]
          rw [e] at this
          exact this
    · rw [collB gd] at q
      exact q.elim
def tLkW (w : Bool) (t : TE) : TE := if w = true then t else tLk t
theorem pe_lkW {X : Cx} {e : Expr} {t : TE} (w : Bool) (h : PE X e t) : PE X e (tLkW w t) := by
  cases w with
  | true => exact h
  | false => exact pe_lk h
theorem lkW_of {w : Bool} {t : TE} {σ : L2.St} {H : Hp} {Q : VK} (h : t σ H (lkW w Q)) : tLkW w t σ H Q := by
  cases w with
  | true => exact h
  | false => exact h
theorem snd_dc (hc : c.calm = true) (ok : BlkOk c.N c.sc scope (ownOf c.N (tgSlots t))) (hi : SndI c tg it (evi T R R1 ii)) (ho : okE it = true) (hg : SndG (c.blk scope) tg (tgSlots t) (asg T R R1 t)) (ht : SndTs (c.blk scope) ifs (evc T R R1 ec)) (hk : SndE (c.blk scope) kx (ev T R R1 ek)) (he : SndE (c.blk scope) vx (ev T R R1 ee)) :
    SndE c (.DictComp kx vx [⟨tg, it, ifs, 0⟩] scope pos) (ev T R R1 (.dc w t ii ec ek ee)) :=
  SndE.mk (t := tLkW w (tDc (tI c tg it) (tG (c.blk scope) tg) (tTs (c.blk scope) ifs) (tE (c.blk scope) kx) (tE (c.blk scope) vx) ((ownOf c.N (tgSlots t)).map (·.2)))) (fun X f => pe_lkW w (pe_dc (f.calm.trans hc) (f.N ▸ f.nd : X.N.Nodup) (pi_tI f) (by rw [f.N, f.sc]; exact ok) (fun s H C cl fp => pg_tG (fits_blk f scope s H C cl fp)) (fun s H C cl fp => pts_tTs (fits_blk f scope s H C cl fp))
      (fun s H C cl fp => pe_tE (fits_blk f scope s H C cl fp)) (fun s H C cl fp => pe_tE (fits_blk f scope s H C cl fp)) (fold_ok ho _))) fun S Q q => by
    rw [ev_dc] at q
    rw [ownOf_snd]
    refine lkW_of ?_
    exact hi S _ (q.bnd fun J wk μ1 G1 H1 ι1 st hr wr q => by
      obtain ⟨sm, q⟩ := q.need
      exact dc_ok hg ht hk he (fun _ z => z) (fun _ z => z) (S.step st hr) wr sm q)
theorem HR.frzH {L : Lk} {G G' H H' : Hp} {ι : Iot} {μ : Heap} (h : HR L G H ι μ) {i : Nat} {p : Addr × Addr} {c : Cell} {d : D} (e1 : ι[i]? = some p) (e2 : μ[i]? = some c) (eg : Ex G G') (hf : ∀ a, a ∈ Mp.foot p c → G' a = H' a) (hk : ∀ a, a ∉ Mp.foot p c → G' a = G a) (hh : ∀ a, a ∉ Mp.foot p c → H' a = H a) (hd : Dr L G' (.ref p.1) d) :
    HR L G' H' ι (μ.set i (.frz d)) ∧ Stp ι.length G H ι μ G' H' ι (μ.set i (.frz d)) := by
  have fi : ∀ a, a ∈ Mp.foot p c → Foot ι μ a := fun a m => ⟨i, p, c, e1, e2, m⟩
  have other : ∀ {j : Nat} {q : Addr × Addr} {d' : Cell} {a : Addr}, ι[j]? = some q → (μ.set i (.frz d))[j]? = some d' → a ∈ Mp.foot q d' → μ[j]? = some d' ∧ a ∉ Mp.foot p c := fun {j q d' a} q1 q2 m => by
    rcases get_set q2 with ⟨rfl, _, rfl⟩ | ⟨ne, q2⟩
    · cases m
    · exact ⟨q2, fun z => ne (h.dj i j p q c d' a e1 e2 q1 q2 z m)⟩
  refine ⟨⟨fun a u q => ?_, by rw [List.length_set]; exact h.len, fun j q d' q1 q2 => ?_, fun a ⟨j, q, d', q1, q2, m⟩ => ?_, fun j k q r d' e a q1 q2 q3 q4 m1 m2 => h.dj j k q r d' e a q1 (other q1 q2 m1).1 q3 (other q3 q4 m2).1 m1 m2⟩, eg, fun _ _ => rfl, Nat.le_refl _, fun a u q nf => by rw [hh a fun z => nf (fi a z)]; exact q, fun a q nf => hk a fun z => nf (fi a z), fun a ⟨j, q, d', q1, q2, m⟩ => .inl ⟨j, q, d', q1, (other q1 q2 m).1, m⟩⟩
  · by_cases z : a ∈ Mp.foot p c
    · rw [hf a z] at q; exact q
    · rw [hk a z] at q; rw [hh a z]; exact h.gh a u q
  · rcases get_set q2 with ⟨rfl, _, rfl⟩ | ⟨ne, q2⟩
    · rw [e1] at q1; cases q1; exact hd
    · exact (h.cell j q d' q1 q2).mono eg (Pre.refl _) fun a ha => hh a fun z => ne (h.dj i j p q c d' a e1 e2 q1 q2 z ha)
  · obtain ⟨o1, o2⟩ := other q1 q2 m
    have := h.own a ⟨j, q, d', q1, o1, m⟩
    rw [hk a o2, hh a o2]; exact this
/-- an own dict, from now on data -/
theorem snd_frzD {a : Expr} {ea : E} (h : SndE c a (ev T R R1 ea)) : SndE c a (ev T R R1 (.frzD ea)) :=
  SndE.mk (t := tLk (tE c a)) (fun X f => pe_lk (pe_tE f)) fun S Q q => by
    rw [ev_frzD] at q
    refine h S _ (q.bnd fun y v μ1 G1 H1 ι1 st hr rv q => ?_)
    cases v with
    | ref i =>
      simp only at q
      split at q
      · rename_i kvs e
        split at q
        · rename_i ds hd
          obtain ⟨pp, ks, e1, rfl, hp, kr⟩ := hr.dctAt rv e
          obtain ⟨k1, k2⟩ := kr.zips
          have t := vrs_snap0 k2 hd
          refine ⟨pp.1, ks, rfl, hp, fun od => ?_⟩
          have gp : G1 pp.1 = none := (hr.own pp.1 ⟨i, pp, _, e1, e, List.mem_singleton.mpr rfl⟩).1
          have eg : Ex G1 (upd G1 pp.1 (.frz od (.dK ks))) := Ex.new gp
          have at_ : (upd G1 pp.1 (.frz od (.dK ks))) pp.1 = some (.frz od (.dK ((ks.map (·.1)).zip (ks.map (·.2))))) := by rw [upd_same, zip_self']
          have dd : Dr c.L (upd G1 pp.1 (.frz od (.dK ks))) (.ref pp.1) (.dct ((kvs.map (·.1)).zip ds)) := by
            rw [k1]
            exact .dct at_ (by rw [List.length_map, List.length_map]) (drs_ex eg t)
          have nin : ∀ a, a ∉ Mp.foot pp (.dct kvs) → a ≠ pp.1 := fun a ha z => ha (by rw [z]; exact List.mem_singleton.mpr rfl)
          obtain ⟨j1, j2⟩ := hr.frzH (H' := upd H1 pp.1 (.frz od (.dK ks))) (d := .dct ((kvs.map (·.1)).zip ds)) e1 e eg (fun a ha => by rw [List.mem_singleton.mp ha, upd_same, upd_same]) (fun a ha => upd_ne (nin a ha)) (fun a ha => upd_ne (nin a ha)) dd
          exact q.okS j2 j1 dd
        · exact q.elim
      · exact q.elim
    | _ => exact q.elim
/-- y = {..} on one line, y a local -/
theorem ps_setDc {X : Cx} {own : List (Str × Nat)} {spos : Pos} {wi : TI} {g : TG} {tt : TT} {tk tv : TE} {i : Nat} {y : Str} {py : Pos} (w : Bool) (hc : X.calm = true) (nd : X.N.Nodup) (hy : X.N[i]? = some y) (hyl : X.env.scope.names.lookup y = some .local)
    (hsw : swapsWith (.DictComp kx vx [⟨tg, it, ifs, 0⟩] scope pos) (some (.Name y py)) spos.line X.env = pure true) (pi : PI X tg it wi) (ok : BlkOk X.N X.env.scope scope own)
    (pg : ∀ (s : Shared) (H : Hp) (C : Addr) (cap : List (Str × Addr)) (fp : List Addr), PG (X.blk s H scope (compEnvC scope cap C X.env) fp) tg g) (pt : ∀ (s : Shared) (H : Hp) (C : Addr) (cap : List (Str × Addr)) (fp : List Addr), PTs (X.blk s H scope (compEnvC scope cap C X.env) fp) ifs tt)
    (pk : ∀ (s : Shared) (H : Hp) (C : Addr) (cap : List (Str × Addr)) (fp : List Addr), PE (X.blk s H scope (compEnvC scope cap C X.env) fp) kx tk)
    (pe : ∀ (s : Shared) (H : Hp) (C : Addr) (cap : List (Str × Addr)) (fp : List Addr), PE (X.blk s H scope (compEnvC scope cap C X.env) fp) vx tv) (fs : ∀ x, foldedSetIterable it X.env x = pure x) :
    PS X (.Assign [.Name y py] (.DictComp kx vx [⟨tg, it, ifs, 0⟩] scope pos) spos) (fun D σ H => tDc wi g tt tk tv (own.map (·.2)) σ H (lkW w fun x H1 => gName i x σ H1 D.nx)) := by
  refine ⟨fun pins s σ H D I h => ?_⟩
  rw [exec_Assign_Name_used _ _ _ _ hsw]
  refine wpAny_bind (wpAny_standAt (wpAny_bind ?_))
  show wpAny _ X.A (do let _ ← comprehension (.DictComp kx vx [⟨tg, it, ifs, 0⟩] scope pos) scope X.env (firstIterPos [⟨tg, it, ifs, 0⟩] pos) newDict false (eval it X.env) (some (assign (.Name y py) X.env))) _ X.xe s
  refine wpAny_bind (thn (dc_core (Qf := fun _ t => SP X pins D .next t) hc nd I pi ok pg pt pk pe fs h fun F C t m H' J q hn f => ?_) fun _ t hq => wpAny_pure (wpAny_pure hq))
  show wpAny _ _ (assign (.Name y py) X.env (.ref F)) _ _ t
  have fin : ∀ {H2 : Hp}, Inv X pins σ H2 t → H2 C = none → gName i (.ref F) σ H2 D.nx → wpAny (model X.prog X.w) X.A (assign (.Name y py) X.env (.ref F)) (fun _ t'' => ∃ m, t''.heap.Ns C m ∧ ∀ h', Heap.SameBut C t''.heap h' → SP X pins D .next { t'' with heap := h' }) X.xe t := fun {H2} J a0 q => by
    obtain ⟨_, a1, a2, a3, a4, a5⟩ := f
    refine wpAny_assign_Name (store_ok2 (v := V.ref F) J nd hy (.inl hyl) rfl (fun t2 J2 ⟨a, sb, ha⟩ => ?_) (.inr hyl))
    have ne : C ≠ a := by
      rcases ha with z | z
      · rw [z]; exact a1
      · exact fun e => a4 y a z e.symm
    exact ⟨m, hn.sameBut sb ne, fun h3 sb3 => ⟨_, H2, J2.turned (t' := t2.toks) (fun b o hb e => (sb3.2 b hb).trans e) a0 a1 a3 a4 a5, q⟩⟩
  unfold lkW at q
  cases w with
  | true => rw [if_pos rfl] at q; exact fin J f.1 q
  | false =>
    rw [if_neg Bool.false_ne_true] at q
    obtain ⟨p, kvs, e, hp, q⟩ := q
    cases e
    obtain ⟨od, J2⟩ := J.lock hp trivial
    exact fin J2 (by rw [upd_ne fun z => by rw [← z, f.1] at hp; cases hp]; exact f.1) (q od)
theorem swd_true {gs : List Comprehension} {py : Pos} {y : Str} {l : Nat} {env : Env} (hk : env.scope.kind = .function) (hy : env.scope.names.lookup y = some .local) (hl : (py.line == pos.line) = true)
    (ha : (scope.names.any fun (n, k) => n == y && (k == .local || k == .cell)) = false) : swapsWith (.DictComp kx vx gs scope pos) (some (.Name y py)) l env = pure true := by
  have ky : env.kindOf y = some .local := hy
  have hb : env.blockKind = .function := by unfold Env.blockKind; rw [hk]; rfl
  unfold swapsWith
  simp only [hb, ky, ha, Expr.pos, hl]
  rfl
theorem sns_asgDc {i : Nat} {x : Str} {p1 spos : Pos} (hc : c.calm = true) (hi2 : c.N[i]? = some x) (hx : c.sc.names.lookup x = some .local) (hkd : c.sc.kind = .function) (hl : (p1.line == pos.line) = true) (ha : (scope.names.any fun (n, k) => n == x && (k == .local || k == .cell)) = false)
    (ok : BlkOk c.N c.sc scope (ownOf c.N (tgSlots t))) (hi : SndI c tg it (evi T R R1 ii)) (ho : okE it = true) (hg : SndG (c.blk scope) tg (tgSlots t) (asg T R R1 t)) (ht : SndTs (c.blk scope) ifs (evc T R R1 ec)) (hk : SndE (c.blk scope) kx (ev T R R1 ek)) (he : SndE (c.blk scope) vx (ev T R R1 ee)) :
    SndS c (.Assign [.Name x p1] (.DictComp kx vx [⟨tg, it, ifs, 0⟩] scope pos) spos) (exS T R R1 (.asg (.nm i) (.dc w t ii ec ek ee))) :=
  SndS.mk (fun X f => ps_setDc (own := ownOf c.N (tgSlots t)) w (f.calm.trans hc) (f.N ▸ f.nd : X.N.Nodup) (by rw [f.N]; exact hi2) (by rw [f.sc]; exact hx) (swd_true (by rw [f.sc]; exact hkd) (by rw [f.sc]; exact hx) hl ha) (pi_tI f.toFits) (by rw [f.N, f.sc]; exact ok)
      (fun s H C cl fp => pg_tG (fits_blk f.toFits scope s H C cl fp)) (fun s H C cl fp => pts_tTs (fits_blk f.toFits scope s H C cl fp)) (fun s H C cl fp => pe_tE (fits_blk f.toFits scope s H C cl fp)) (fun s H C cl fp => pe_tE (fits_blk f.toFits scope s H C cl fp)) (fold_ok ho _)) fun S D q => by
    rw [exS_asg, ev_dc] at q
    rw [ownOf_snd]
    rw [bnd_then] at q
    refine hi S _ (q.thn S fun J wk μ1 G1 H1 ι1 st hr wr q => ?_)
    have S1 := S.step st hr
    obtain ⟨sm, q⟩ := thn_need q
    exact dc_ok hg ht hk he (fun _ z => z) (fun _ z => z) S1 wr sm (q.thn S1 fun y v μ2 G2 H2 ι2 st2 hr2 rv q => by
      rw [asg_nm] at q
      unfold need at q
      split at q
      · exact PostS.nx q ((S1.step st2 hr2).set i rv)
      · exact q.elimB)
end
end Mp
end
section
set_option Elab.async false
set_option linter.all false
set_option maxRecDepth 100000
set_option maxHeartbeats 2000000
namespace Mp
open PySem L2 PySem.Spec PyProof.Rows
open Evl (Ex ex_l ex_t fresh_back)
section
variable {L : Lk} {X : Ext} {G H : Hp} {ι : Iot} {μ : Heap}
theorem setF_zip (f : Str) (u : Val) (w : V) : ∀ {ns : List Str} {ws : List V} {vs : List Val}, ns.length = vs.length → VRs L X G ι ws vs → VR L X G ι w u → ∃ (ns' : List Str) (ws' : List V) (vs' : List Val), setF f u (ns.zip vs) = ns'.zip vs' ∧ putF f w (ns.zip ws) = ns'.zip ws' ∧ ns'.length = vs'.length ∧ VRs L X G ι ws' vs'
  | [], _, [], _, .nil, r => ⟨[f], [w], [u], rfl, rfl, rfl, .cons r .nil⟩
  | n :: ns, a :: ws, b :: vs, h, .cons ra rs, r => by
    rw [List.zip_cons_cons, List.zip_cons_cons]
    unfold setF putF
    by_cases e : n = f
    · rw [if_pos e, if_pos e]
      exact ⟨n :: ns, w :: ws, u :: vs, rfl, rfl, by simpa using h, .cons r rs⟩
    · rw [if_neg e, if_neg e]
      obtain ⟨ns', ws', vs', h1, h2, h3, h4⟩ := setF_zip f u w (Nat.succ.inj h) rs r
      exact ⟨n :: ns', a :: ws', b :: vs', by rw [h1]; rfl, by rw [h2]; rfl, by rw [List.length_cons, List.length_cons, h3], .cons ra h4⟩
  | [], _ :: _, _ :: _, h, .cons _ _, _ => by cases h
  | _ :: _, [], [], h, .nil, _ => by cases h
/-- an attribute is set -/
theorem HR.mutO (h : HR L G H ι μ) {i : Nat} {p : Addr × Addr} {k : Nat} {ns ns' : List Str} {ws ws' : List V} {vs vs' : List Val} (e1 : ι[i]? = some p) (e2 : μ[i]? = some (.obj k (ns.zip vs))) (hH : H p.1 = some (.ins (L.clA k) p.2 (ns.zip ws))) (hO : H p.2 = some (.own p.1)) (hk : L.isO k = true) (hl : ns'.length = vs'.length) (hv : VRs L .no G ι ws' vs') :
    HR L G (upd H p.1 (.ins (L.clA k) p.2 (ns'.zip ws'))) ι (μ.set i (.obj k (ns'.zip vs'))) ∧ Stp ι.length G H ι μ G (upd H p.1 (.ins (L.clA k) p.2 (ns'.zip ws'))) ι (μ.set i (.obj k (ns'.zip vs'))) := by
  have hne : p.2 ≠ p.1 := (ne_of hH hO fun z => nomatch z).symm
  refine h.mut e1 e2 rfl (fun a ha => upd_ne fun z => ha (by rw [z]; exact List.mem_cons_self)) (fun a ha => ?_) ⟨ns', ws', vs', rfl, hl, hv, upd_same, by rw [upd_ne hne]; exact hO, hk⟩
  by_cases e : a = p.1
  · rw [e, upd_same]; exact fun z => nomatch z
  · rw [upd_ne e]; exact (h.own a ⟨i, p, _, e1, e2, ha⟩).2
end
section
variable {c : Ctx} {tg it elt a b d o : Expr} {es : List Expr} {scope : Scope} {T : Tbl} {R R1 : Run} {t : Tg} {ii : It} {ec : TO} {ee eo ea eb : E} {ees : Es} {tt : Tt} {w : Bool} {pos spos py p1 p2 : Pos} {x y : Str} {body els : List Stmt} {sb se : Ss}
theorem swaps_att (e : Expr) (o : Expr) (f : Str) (p : Pos) (l : Nat) (env : Env) : swapsWith e (some (.Attribute o f p)) l env = pure false := by
  cases e <;> rfl
/-- o.f = e -/
theorem sns_asgA (F : FldAt c x) (h : SndE c a (ev T R R1 ee)) (ho : SndE c o (ev T R R1 eo)) : SndS c (.Assign [.Attribute o x p1] a pos) (exS T R R1 (.asg (.att eo x) ee)) :=
  SndS.mk (t := sFld c.L.K (tE c o) (tE c a) x) (fun X f => by rw [← f.K]; exact ps_fld (pe_tE f.toFits) (pe_tE f.toFits) (swaps_att _ _ _ _ _ _)) fun S D q => by
    rw [exS_asg] at q
    refine h S _ (q.thn S fun y v μ1 G1 H1 ι1 st hr rv q => ?_)
    have S1 := S.step st hr
    rw [asg_att, bnd_then] at q
    refine ho S1 _ (q.thn S1 fun z u μ2 G2 H2 ι2 st2 hr2 ru q => ?_)
    have S2 := S1.step st2 hr2
    have rv' := rv.mono st2.g st2.pre'
    unfold setAtt at q
    split at q
    · rename_i i
      split at q
      · rename_i k fs e
        obtain ⟨p, h1, rfl, ns, ws, vs, rfl, hl, a2, a3, a4, a5⟩ := hr2.ref ru e
        unfold need at q
        split at q
        · rename_i hz
          rw [Bool.and_eq_true, decide_eq_true_eq] at hz
          obtain ⟨ns', ws', vs', g1, g2, g3, g4⟩ := setF_zip x v y hl a2 (rv'.toNo hz.2)
          rw [g1] at q
          obtain ⟨k1, k2⟩ := hr2.mutO h1 e a3 a4 a5 g3 g4
          refine ⟨p.1, _, p.2, _, rfl, a3, (F.no k a5).1, (F.no k a5).2, ?_, ?_⟩
          · have : (ns.zip ws).length = (ns.zip vs).length := by rw [List.length_zip, List.length_zip, vrs_len a2]
            rw [this]; omega
          · rw [g2]
            exact PostS.nx (PostS.step q k2) (S2.step k2 k1)
        · exact q.elimB
      · exact q.elimB
    · exact q.elimB
/-! ### suites -/
theorem snss_nil : SndSs c [] (exSs T R R1 .nil) := SndSs.mk (fun X f => pss_nil) fun S D q => by rw [exSs_nil] at q; exact q.nx S
theorem snss_cons {st : Stmt} {sts : List Stmt} {s : Mp.S} {ss : Ss} (h1 : SndS c st (exS T R R1 s)) (h2 : SndSs c sts (exSs T R R1 ss)) : SndSs c (st :: sts) (exSs T R R1 (.cons s ss)) :=
  SndSs.mk (t := tSeq (tS c st) (tSs c sts)) (fun X f => pss_cons (ps_tS f) (pss_tSs f)) fun S D q => by
    rw [exSs_cons] at q
    refine h1 S _ ?_
    cases z : exS T R R1 s _ _ with
    | ok δ' f μ' =>
      rw [z] at q
      cases f with
      | nx => exact fun σ' G' H' ι' st S' => h2 S' D (PostS.step q st)
      | rt v => exact q
      | bk => exact q
      | ct => exact q
    | ex x δ' μ' => rw [z] at q; exact q
    | bad => rw [z] at q; exact q
theorem snss_one {st : Stmt} {s : Mp.S} (h1 : SndS c st (exS T R R1 s)) : SndSs c [st] (exSs T R R1 (.cons s .nil)) := snss_cons h1 snss_nil
theorem snss_kill {sts : List Stmt} {is : List Nat} {ss : Ss} (h : SndSs c sts (exSs T R R1 ss)) : SndSs c sts (exSs T R R1 (.kill is ss)) := .intro fun S D q => by
  rw [exSs_kill] at q
  exact h (St.kill is S) D q
theorem sns_if (h : SndT c a (evt T R R1 tt)) (h1 : SndSs c body (exSs T R R1 sb)) (h2 : SndSs c els (exSs T R R1 se)) : SndS c (.If a body els pos) (exS T R R1 (.ife tt sb se)) :=
  SndS.mk (t := tIfS (tT c a) (tSs c body) (tSs c els)) (fun X f => ps_if (pt_tT f.toFits) (pss_tSs f) (pss_tSs f)) fun S D q => by
    rw [exS_ife] at q
    refine h S _ (q.thn S fun k k' μ1 G1 H1 ι1 st hr rv q => ?_)
    have rv : k = k' := rv
    subst rv
    cases k with
    | true => rw [if_pos rfl] at q ⊢; exact h1 (S.step st hr) D q
    | false => rw [if_neg Bool.false_ne_true] at q ⊢; exact h2 (S.step st hr) D q
/-! ### letting cells go -/
theorem below_at {n : Nat} : ∀ {vs : List Val} {v : Val}, belows n vs = true → v ∈ vs → below n v = true
  | [], _, _, h => by cases h
  | u :: us, v, h, hm => by
    have h : (below n u && belows n us) = true := h
    rw [Bool.and_eq_true] at h
    rcases List.mem_cons.mp hm with rfl | hm
    · exact h.1
    · exact below_at h.2 hm
theorem VR.cut {L : Lk} {X : Ext} {G : Hp} {ι : Iot} {w : V} {v : Val} (n : Nat) (r : VR L X G ι w v) (h : Mp.below n v = true) : VR L X G (ι.take n) w v := by
  cases v with
  | d x => exact r
  | ref i =>
    obtain ⟨p, h1, h2⟩ := r
    have h : i < n := of_decide_eq_true h
    exact ⟨p, by rw [List.getElem?_take_of_lt h]; exact h1, h2⟩
  | clo f c => exact r
  | exn x => exact r
theorem VRs.cut {L : Lk} {X : Ext} {G : Hp} {ι : Iot} (n : Nat) : ∀ {ws : List V} {vs : List Val}, VRs L X G ι ws vs → Mp.belows n vs = true → VRs L X G (ι.take n) ws vs
  | _, _, .nil, _ => .nil
  | _, _, .cons (v := v) (vs := vs) r t, h => by
    have h : (Mp.below n v && Mp.belows n vs) = true := h
    rw [Bool.and_eq_true] at h
    exact .cons (r.cut n h.1) (VRs.cut n t h.2)
theorem take_get {α : Type} {l : List α} {n i : Nat} {x : α} (h : (l.take n)[i]? = some x) : i < n ∧ l[i]? = some x := by
  have hi := (List.getElem?_eq_some_iff.mp h).1
  rw [List.length_take] at hi
  have : i < n := by omega
  exact ⟨this, by rw [List.getElem?_take_of_lt this] at h; exact h⟩
theorem gc_ok {on : Bool} {n n0 : Nat} {G0 H0 G H : Hp} {σ : L2.St} {ι0 ι : Iot} {δ : Slots} {μ0 μ μ2 : Heap} (S : St c G H σ ι δ μ) (st : Stp n0 G0 H0 ι0 μ0 G H ι μ) (hn : n0 ≤ n) (h : gcTo on n δ μ = some μ2) : ∃ ι2, St c G H σ ι2 δ μ2 ∧ Stp n0 G0 H0 ι0 μ0 G H ι2 μ2 ∧ (ι2 = ι ∨ ι2 = ι.take n) := by
  cases on with
  | false => cases h; exact ⟨ι, S, st, .inl rfl⟩
  | true =>
    unfold gcTo at h
    simp only at h
    split at h
    · rename_i hb
      cases h
      rw [Bool.and_eq_true] at hb
      have ft : ∀ a, Foot (ι.take n) (μ.take n) a → Foot ι μ a := fun a ⟨i, p, d, e1, e2, m⟩ => ⟨i, p, d, (take_get e1).2, (take_get e2).2, m⟩
      refine ⟨ι.take n, ⟨⟨S.hr.gh, by rw [List.length_take, List.length_take, S.hr.len], fun i p d e1 e2 => ?_, fun a f => S.hr.own a (ft a f), fun i j p q d e a e1 e2 e3 e4 m1 m2 => S.hr.dj i j p q d e a (take_get e1).2 (take_get e2).2 (take_get e3).2 (take_get e4).2 m1 m2⟩, S.len, fun i v hi => ?_⟩,
        ⟨st.g, fun i hi => by rw [List.getElem?_take_of_lt (by omega)]; exact st.pre i hi, by rw [List.length_take]; exact Nat.le_min.mpr ⟨hn, st.le⟩, st.keep, st.old, fun a f => st.live a (ft a f)⟩, .inr rfl⟩
      · have cr := S.hr.cell i p d (take_get e1).2 (take_get e2).2
        have bd : belowC n d = true := by
          have := List.all_eq_true.mp hb.2 d (List.mem_of_getElem? e2)
          exact this
        cases d with
        | lst vs => obtain ⟨xs, a1, a2⟩ := cr; exact ⟨xs, a1, a2.cut n bd⟩
        | dct kvs =>
          obtain ⟨ks, ws, vs, rfl, hl, a2, a3⟩ := cr
          have bd : belows n ((ks.zip vs).map (·.2)) = true := bd
          rw [map_zip_snd hl] at bd
          exact ⟨ks, ws, vs, rfl, hl, a2.cut n bd, a3⟩
        | obj k fs =>
          obtain ⟨ns, ws, vs, rfl, hl, a2, a3⟩ := cr
          have bd : belows n ((ns.zip vs).map (·.2)) = true := bd
          rw [map_zip_snd hl] at bd
          exact ⟨ns, ws, vs, rfl, hl, a2.cut n bd, a3⟩
        | frz x => exact cr
      · obtain ⟨w, h1, h2⟩ := S.sl i v hi
        refine ⟨w, h1, h2.cut n (below_at hb.1 ?_)⟩
        unfold Slots.at at hi
        split at hi
        · rename_i o e
          cases hi
          exact List.mem_filterMap.mpr ⟨some v, List.mem_of_getElem? e, rfl⟩
        · cases hi
    · cases h
end
end Mp
end
section
set_option Elab.async false
set_option linter.all false
set_option maxRecDepth 100000
set_option maxHeartbeats 2000000
namespace Mp
open PySem L2 PySem.Spec PyProof.Rows
open Evl (Ex ex_l ex_t fresh_back)
theorem forN {gc : Bool} {n : Nat} {g : List (Nat × Cell)} {step : Val → Slots → Heap → RS} {δ : Slots} {μ : Heap} (h : guardOk g μ) : forL gc n g step [] δ μ = .ok δ .nx μ := by unfold forL; exact if_pos h
theorem forC {gc : Bool} {n : Nat} {g : List (Nat × Cell)} {step : Val → Slots → Heap → RS} {v : Val} {vs : List Val} {δ : Slots} {μ : Heap} (h : guardOk g μ) : forL gc n g step (v :: vs) δ μ = (step v δ μ).turn gc n (fun δ μ => forL gc n g step vs δ μ) := by rw [forL]; exact if_pos h
theorem forB {gc : Bool} {n : Nat} {g : List (Nat × Cell)} {step : Val → Slots → Heap → RS} {vs : List Val} {δ : Slots} {μ : Heap} (h : ¬ guardOk g μ) : forL gc n g step vs δ μ = .bad := by cases vs <;> (rw [forL]; exact if_neg h)
section
variable {c : Ctx} {tg it a : Expr} {T : Tbl} {R R1 : Run} {t : Tg} {ii : It} {tt : Tt} {pos : Pos} {body : List Stmt} {sb : Ss} {sl : List Nat} {gc : Bool}
theorem sns_for (hc : c.calm = true) (hi : SndI c tg it (evi T R R1 ii)) (ho : okE it = true) (hg : SndG c tg sl (asg T R R1 t)) (hb : SndSs c body (exSs T R R1 sb)) : SndS c (.For tg it body [] pos) (exS T R R1 (.for_ gc t ii sb)) :=
  SndS.mk (t := tFor (tI c tg it) (tG c tg) (tSs c body)) (fun X f => ps_for (f.own hc) (f.calm.trans hc) (pi_tI f.toFits) (pg_tG f.toFits) (pss_tSs f) (fold_ok ho _)) fun S D q => by
    rw [exS_for] at q
    refine hi S _ (q.thn S fun J wk μ1 G1 H1 ι1 st hr wr q => ?_)
    have S1 := S.step st hr
    rw [← hr.len] at q
    refine ⟨fun i m σ H => m = wk.1.length - i ∧ i ≤ wk.1.length ∧ ∃ G ι δ μ, St c G H σ ι δ μ ∧ Stp ι1.length G1 H1 ι1 μ1 G H ι μ ∧ PostS c G1 H1 ι1 μ1 D (forL gc ι1.length wk.2 (stepF T R R1 t sb) (wk.1.drop i) δ μ),
      ⟨_, rfl, Nat.zero_le _, G1, ι1, _, μ1, S1, .refl (Nat.le_refl _), by rw [List.drop_zero]; exact q⟩, ?_⟩
    rintro i m σ H ⟨rfl, hi, G, ι, δ, μ, S, st, q⟩
    by_cases gd : guardOk wk.2 μ
    · obtain ⟨w1, w2⟩ := wr i S.hr st.g st.pre' gd
      by_cases hlt : i < wk.1.length
      · have hv : wk.1[i]? = some wk.1[i] := List.getElem?_eq_getElem hlt
        obtain ⟨go, yl⟩ := w2 _ hv
        refine .inr ⟨go, fun σ H => i + 1 ≤ wk.1.length ∧ ∃ G ι δ μ, St c G H σ ι δ μ ∧ Stp ι1.length G1 H1 ι1 μ1 G H ι μ ∧ PostS c G1 H1 ι1 μ1 D (forL gc ι1.length wk.2 (stepF T R R1 t sb) (wk.1.drop (i + 1)) δ μ),
          fun σ H z => ⟨wk.1.length - (i + 1), by omega, rfl, z⟩, fun x H2 hy => ?_⟩
        obtain ⟨G2, hr2, st2, rx⟩ := yl x H2 hy
        have S2 := S.step st2 hr2
        have stb2 := st.then_ st2
        rw [List.drop_eq_getElem_cons hlt, forC gd] at q
        unfold stepF at q
        refine hg S2 _ _ rx _ ?_
        cases za : asg T R R1 t wk.1[i] δ μ with
        | bad => rw [za] at q; exact q.elim
        | ex x μ3 => rw [za] at q; exact fun G3 H3 ι3 st3 hr3 => (q σ G3 H3 ι3 (stb2.then_ st3) (S2.step st3 hr3)).mono fun _ z => stb2.frs z
        | ok δ3 μ3 =>
          rw [za] at q
          intro σ3 G3 H3 ι3 st3 hr3 ⟨_, S3⟩
          have stb3 := stb2.then_ st3
          refine hb S3 _ ?_
          cases zb : exSs T R R1 sb δ3 μ3 with
          | bad => rw [then_ok, zb] at q; exact q.elim
          | ex x δ4 μ4 => rw [then_ok, zb] at q; exact fun σ4 G4 H4 ι4 st4 S4 => (q σ4 G4 H4 ι4 (stb3.then_ st4) S4).mono fun _ z => stb3.frs z
          | ok δ4 f μ4 =>
            rw [then_ok, zb] at q
            have again : PostS c G1 H1 ι1 μ1 D (match gcTo gc ι1.length δ4 μ4 with
                | some μ2 => forL gc ι1.length wk.2 (stepF T R R1 t sb) (wk.1.drop (i + 1)) δ4 μ2
                | none => .bad) → ∀ σ4 G4 H4 ι4, Stp ι3.length G3 H3 ι3 μ3 G4 H4 ι4 μ4 → St c G4 H4 σ4 ι4 δ4 μ4 → i + 1 ≤ wk.1.length ∧ ∃ G ι δ μ, St c G H4 σ4 ι δ μ ∧ Stp ι1.length G1 H1 ι1 μ1 G H4 ι μ ∧ PostS c G1 H1 ι1 μ1 D (forL gc ι1.length wk.2 (stepF T R R1 t sb) (wk.1.drop (i + 1)) δ μ) := fun q σ4 G4 H4 ι4 st4 S4 => by
              split at q
              · rename_i μ5 hz
                obtain ⟨ι5, S5, st5, _⟩ := gc_ok S4 (stb3.then_ st4) (Nat.le_refl _) hz
                exact ⟨by omega, G4, ι5, δ4, μ5, S5, st5, q⟩
              · exact q.elim
            cases f with
            | nx => exact again q
            | ct => exact again q
            | bk => exact fun σ4 G4 H4 ι4 st4 S4 => q σ4 G4 H4 ι4 (stb3.then_ st4) S4
            | rt v => exact fun σ4 G4 H4 ι4 st4 S4 => q σ4 G4 H4 ι4 (stb3.then_ st4) S4
      · have e : wk.1.drop i = [] := List.drop_eq_nil_of_le (by omega)
        rw [e, forN gd] at q
        exact .inl ⟨w1 (by omega), q _ _ _ _ st S⟩
    · rw [forB gd] at q
      exact q.elim
theorem sns_whl (hc : c.calm = true) (ht : SndT c a (evt T R R1 tt)) (hb : SndSs c body (exSs T R R1 sb)) : SndS c (.While a body [] pos) (exS T R R1 (.whl gc tt sb)) :=
  SndS.mk (t := tWhile (tT c a) (tSs c body)) (fun X f => ps_while (f.own hc) (pt_tT f.toFits) (pss_tSs f)) fun {G1 H1 σ1 ι1 δ1 μ1} S1 D q => by
    rw [exS_whl] at q
    rw [← S1.hr.len] at q
    have hnb : whl gc ι1.length (condF T R R1 tt) (bodyF T R R1 sb) δ1 μ1 ≠ .bad := fun z => by rw [z] at q; exact q.elim
    obtain ⟨k0, hk0⟩ := of_whl rfl hnb
    refine ⟨fun m σ H => ∃ G ι δ μ r, St c G H σ ι δ μ ∧ Stp ι1.length G1 H1 ι1 μ1 G H ι μ ∧ whlN gc ι1.length (condF T R R1 tt) (bodyF T R R1 sb) m δ μ = some r ∧ PostS c G1 H1 ι1 μ1 D r, ⟨k0, G1, ι1, δ1, μ1, _, S1, .refl (Nat.le_refl _), hk0, q⟩, ?_⟩
    rintro m σ H ⟨G, ι, δ, μ, r, S, st, hw, q⟩
    cases m with
    | zero => cases hw
    | succ m =>
      unfold whlN at hw
      refine ht S _ ?_
      cases zc : evt T R R1 tt δ μ with
      | bad =>
        rw [show condF T R R1 tt δ μ = .bad from zc] at hw
        cases hw; exact q.elim
      | ex x μ2 =>
        rw [show condF T R R1 tt δ μ = .ex x μ2 from zc] at hw
        cases hw
        exact fun G3 H3 ι3 st3 hr3 => (q σ G3 H3 ι3 (st.then_ st3) (S.step st3 hr3)).mono fun _ z => st.frs z
      | ok k μ2 =>
        intro k' G2 H2 ι2 st2 hr2 rk
        have rk : k' = k := rk
        subst rk
        have S2 := S.step st2 hr2
        have stb := st.then_ st2
        cases k' with
        | false =>
          rw [show condF T R R1 tt δ μ = .ok false μ2 from zc] at hw
          cases hw
          rw [if_neg Bool.false_ne_true]
          exact q _ _ _ _ stb S2
        | true =>
          rw [show condF T R R1 tt δ μ = .ok true μ2 from zc] at hw
          rw [if_pos rfl]
          refine ⟨fun σ H => ∃ G ι δ μ r, St c G H σ ι δ μ ∧ Stp ι1.length G1 H1 ι1 μ1 G H ι μ ∧ whlN gc ι1.length (condF T R R1 tt) (bodyF T R R1 sb) m δ μ = some r ∧ PostS c G1 H1 ι1 μ1 D r, fun σ H z => ⟨m, Nat.lt_succ_self m, z⟩, ?_⟩
          refine hb S2 _ ?_
          cases zb : exSs T R R1 sb δ μ2 with
          | bad =>
            simp only [show bodyF T R R1 sb δ μ2 = .bad from zb] at hw
            cases hw; exact q.elim
          | ex x δ4 μ4 =>
            simp only [show bodyF T R R1 sb δ μ2 = .ex x δ4 μ4 from zb] at hw
            cases hw
            exact fun σ4 G4 H4 ι4 st4 S4 => (q σ4 G4 H4 ι4 (stb.then_ st4) S4).mono fun _ z => stb.frs z
          | ok δ4 f μ4 =>
            have again : (match gcTo gc ι1.length δ4 μ4 with
                | some μ2 => whlN gc ι1.length (condF T R R1 tt) (bodyF T R R1 sb) m δ4 μ2
                | none => some .bad) = some r → ∀ σ4 G4 H4 ι4, Stp ι2.length G2 H2 ι2 μ2 G4 H4 ι4 μ4 → St c G4 H4 σ4 ι4 δ4 μ4 → ∃ G ι δ μ r, St c G H4 σ4 ι δ μ ∧ Stp ι1.length G1 H1 ι1 μ1 G H4 ι μ ∧ whlN gc ι1.length (condF T R R1 tt) (bodyF T R R1 sb) m δ μ = some r ∧ PostS c G1 H1 ι1 μ1 D r := fun hw σ4 G4 H4 ι4 st4 S4 => by
              split at hw
              · rename_i μ5 hz
                obtain ⟨ι5, S5, st5, _⟩ := gc_ok S4 (stb.then_ st4) (Nat.le_refl _) hz
                exact ⟨G4, ι5, δ4, μ5, r, S5, st5, hw, q⟩
              · cases hw; exact q.elim
            simp only [show bodyF T R R1 sb δ μ2 = .ok δ4 f μ4 from zb] at hw
            cases f with
            | nx => exact again hw
            | ct => exact again hw
            | bk => cases hw; exact fun σ4 G4 H4 ι4 st4 S4 => q σ4 G4 H4 ι4 (stb.then_ st4) S4
            | rt v => cases hw; exact fun σ4 G4 H4 ι4 st4 S4 => q σ4 G4 H4 ι4 (stb.then_ st4) S4
end
end Mp
end
section
set_option Elab.async false
set_option linter.all false
set_option maxRecDepth 100000
set_option maxHeartbeats 4000000
/-! An own exception whose __init__ says super().__init__(f'..') and keeps its argument: what the def promises. -/
namespace L2
open PySem PySem.Spec PyProof.Rows NdefX
/-! ### the text that it hands on -/
def jsOk (x : Str) : List Expr → Bool
  | [] => true
  | e :: r => (match e with
    | .FormattedValue (.Name y _) c none _ => decide (y = x) && decide (c = -1)
    | .Constant (.str z) _ _ => decide (z.length ≤ 1000)
    | _ => false) && jsOk x r
/-- what may be kept -/
def IniV (v : V) : Prop := (∃ y : Str, v = .str y ∧ y.length ≤ 1000000) ∨ ∃ i : Int, v = .int i ∧ i.natAbs.log2 < 1920
theorem int_short {i : Int} (h : i.natAbs.log2 < 1920) : (Str.ofString (toString i)).length ≤ 1000000 := by
  have e := int_text_length_le (k := 1920) (by decide) h
  rw [PySem.ofString_length]; omega
theorem str_app_len (a b : Str) : (a ++ b).length = a.length + b.length := by
  show (a.cps ++ b.cps).size = _
  rw [Array.size_append]; rfl
theorem js_run {X : Cx} {x : Str} {i : Nat} (hN : X.N[i]? = some x) (hv : Vis X.env.scope x) (hd : (x == ("__debug__" : Str)) = false) (hcd : (x == ("__classdict__" : Str)) = false) : ∀ (vs : List Expr), jsOk x vs = true →
    ∃ ts, PJ X vs ts ∧ ∀ (acc : Str) (σ : St) (H : Hp) (v : V) (Q : Str → Hp → Prop), σ[i]? = some (some v) → IniV v → acc.length + vs.length * 1000000 ≤ sizeLine → (∀ out, Q out H) → tJs ts acc σ H Q
  | [], _ => ⟨[], .nil, fun acc σ H v Q _ _ _ q => q acc⟩
  | e :: r, h => by
    unfold jsOk at h
    rw [Bool.and_eq_true] at h
    obtain ⟨h0, h1⟩ := h
    obtain ⟨ts, ht, hq⟩ := js_run hN hv hd hcd r h1
    have key : ∀ {acc z : Str} {σ : St} {H : Hp} {v : V} {Q : Str → Hp → Prop}, z.length ≤ 1000000 → σ[i]? = some (some v) → IniV v → acc.length + (e :: r).length * 1000000 ≤ sizeLine → (∀ out, Q out H) → (acc ++ z).length ≤ sizeLine ∧ tJs ts (acc ++ z) σ H Q := fun {acc z σ H v Q} hz e1 e2 e3 q => by
      rw [List.length_cons] at e3
      have l := str_app_len acc z
      exact ⟨by omega, hq _ σ H v Q e1 e2 (by omega) q⟩
    split at h0
    · rename_i y q1 c q2
      rw [Bool.and_eq_true, decide_eq_true_eq, decide_eq_true_eq] at h0
      obtain ⟨rfl, rfl⟩ := h0
      refine ⟨tFmt (tVar i) :: ts, .cons (pe_fmt (pe_var hN hv hd hcd)) ht, fun acc σ H v Q e1 e2 e3 q => ⟨v, e1, ?_⟩⟩
      rcases e2 with ⟨y, rfl, hy⟩ | ⟨j, rfl, hj⟩
      · exact .inl ⟨y, rfl, by rw [sizeLine_eq]; omega, y, rfl, key hy e1 (.inl ⟨y, rfl, hy⟩) e3 q⟩
      · exact .inr ⟨j, rfl, hj, _, rfl, key (int_short hj) e1 (.inr ⟨j, rfl, hj⟩) e3 q⟩
    · rename_i z k q2
      have h0 := of_decide_eq_true h0
      exact ⟨tC (.str z) :: ts, .cons pe_str ht, fun acc σ H v Q e1 e2 e3 q => ⟨z, rfl, key (by omega) e1 e2 e3 q⟩⟩
    · cases h0
/-! ### super() -/
section
variable {X : Cx} {pins : List (Addr × Obj)} {σ : St} {H : Hp} {s : Shared}
theorem Inv.pinNew {u : Addr} {o : Obj} {h' : Heap} {t' : Nat} (I : Inv X pins σ H s) (hp : s.heap.objs.size ≤ u) (k : ∀ b o, s.heap.get? b = some o → h'.get? b = some o) (hu : h'.get? u = some o) (nc : ∀ v, o.data ≠ .cell v) : Inv X ((u, o) :: pins) σ H { s with heap := h', toks := t' } := by
  have J := I.kept (t' := t') k
  refine J.pins_of fun p hp' => ?_
  rcases List.mem_cons.mp hp' with rfl | hp'
  · exact ⟨hu, I.hok.fresh hp, fun z => by have z' : u = X.env.locals := z; rw [z'] at hp; exact absurd I.lt (Nat.not_lt.mpr hp), I.nofs hp, nc⟩
  · exact J.pin p (List.mem_append_right _ hp')
theorem Inv.unpin {q : Addr × Obj} (I : Inv X (q :: pins) σ H s) : Inv X pins σ H s := I.pins_of fun p hp => I.pin p (by
  rcases List.mem_append.mp (List.mem_append_right X.pn hp) with z | z
  · exact List.mem_append_left _ z
  · exact List.mem_append_right _ (List.mem_cons_of_mem _ z))
end
/-- what the written part says, beside OexC, of the class at C whose __init__ at f says super().__init__ -/
structure SupC (P : Program) (K : PySem.W.Frag) (mg : Str → Option Value) (C cc cda : Addr) : Prop where
  cell : ∃ cl cld csl, K.lookup cc = some (⟨cl, cld, .cell (some (.ref C)), csl⟩ : Obj)
  code : ∃ ccl cdd vs ccs file tf, K.lookup cda = some (⟨ccl, cdd, .fields vs, ccs⟩ : Obj) ∧ vs[2]? = some (.str file tf) ∧ ((P.main.file : Str) == file) = true
  self : PySem.W.mroIn K C (.ref C) = some true
  any : PySem.W.nsIn K cStatics "thirdparty.any" = some none
  sup : PySem.W.ks_superIn K C C "__init__" = some (some (.builtin "ValueError.__init__"))
  ve : PySem.W.subIn K (.ref C) (.type "ValueError") = some true
  msup : mg "super" = none
  htop : (P.main.scope.names.lookup ("super" : Str)).isSome = false
/-- the promise: the argument is kept as the field fl -/
def spIni (C : Addr) (fl : Str) : Sp := fun vs H Q _ => ∃ (a : Addr) (x : V), vs = [.ref a, x] ∧ H a = some (exo a C none) ∧ IniV x ∧ ∀ dx, H dx = none → dx ≠ a → Q .non (upd (upd H dx (exd dx [(fl, x)])) a (exo a C (some dx)))
section
variable {CX : CXT} {P : Program} {w : World} {K : PySem.W.Frag} {mg : Str → Option Value} {base : Heap} {k : Nat} {f C cc cda : Addr} {name qual self x fl : Str} {params : Arguments} {scope : Scope} {dV kV doc pm ct oc : Value} {an od : Option Addr} {osl : Array (Option Value)}
  {p0 p1 p2 p3 p4 p5 p6 p7 p8 p9 : Pos} {v1 v2 : Expr} {vs : List Expr} {ar : Arg}
def iniBody (self x fl : Str) (p0 p1 p2 p3 p4 p5 p6 p7 p8 p9 : Pos) (v1 v2 : Expr) (vs : List Expr) : List Stmt :=
  [.Expr (.Call (.Attribute (.Call (.Name "super" p0) [] [] p1) "__init__" p2) [.JoinedStr (v1 :: v2 :: vs) p4] [] p3) p5, .Assign [.Attribute (.Name self p6) fl p7] (.Name x p8) p9]
theorem call_ve {prog : Program} {w : World} {A : Around} {E : Value → Shared → Prop} {h : Heap} {g : Array GenState} {d : Drawn} {t : Nat} {os : OsState} {nm q : Str} {C N : Addr} {bs bm : List Value} {hdct : Bool} {sn : List Str} {sub : List Value} {ab : Bool} {col : Option Bool} {dd : Option Addr} {k0 k1 k2 k3 k5 : Option Value} {u e t0 : Addr} {rest : List Value} {Q : Value → Shared → Prop}
    (hC : h.get? C = some (excClassObj nm q C N bs bm hdct sn sub ab col dd k0 k1 k2 k3 k5 "ValueError.__new__")) (he : h.get? e = some (HandSPX.excO C t0)) (hu : h.get? u = some (PySem.W.kxs_mw "ValueError.__init__" e)) (hrest : rest.length ≤ sizeLine)
    (hq : ∀ h' t1, (∀ b o, b ≠ e → h.get? b = some o → h'.get? b = some o) → h'.get? e = some (HandSPX.excO C t1) → Q .none ⟨h', g, d, t, os⟩) :
    wpAny (model prog w) A (call (.ref u) rest) Q E ⟨h, g, d, t, os⟩ := by
  refine wpAny_call (codeAny_of_tree ?_)
  show wpAny _ A.in1 (callAny (.ref u) ⟨rest, []⟩) _ _ _
  simp only [callAny]
  refine wpAny_bind (wpAny_load hu ?_)
  simp only [show (Value.type "method-wrapper" == Value.type "method" || Value.type "method-wrapper" == Value.type "builtin_function_or_method" || Value.type "method-wrapper" == Value.type "method-wrapper") = true by decide, if_true]
  refine W.KFB.if_so (by decide) ?_
  refine wpAny_bind (PySem.ESX.check_bound F.excBase_ValueError hC he rfl ?_)
  refine wpAny_bind (wpAny_pure (wpAny_pure ?_))
  refine ⟨Code.quiet_builtin _ (by decide +kernel), codeAny_builtin F.excBase_ValueError.initEntry ?_⟩
  rw [Around.under_plainId F.excBase_ValueError.init.plain _]
  wp_walk
  refine hq _ h.objs.size (fun b o hb ho => ?_) ?_
  · rw [Heap.get?_update_other _ _ (Ne.symm hb)]
    exact Heap.get?_push_of_some _ ho
  · rw [Heap.get?_update_self _ (Heap.get?_push_of_some _ he) rfl]
    rfl
theorem sup_eq {o : Expr} {m : Str} {apos pos pj : Pos} {js : List Expr} (hline : (apos.endLine == pos.line) = true) (env : Env) :
    eval (.Call (.Attribute o m apos) [.JoinedStr js pj] [] pos) env = (do
      let ov ← attributeBase o m env (eval o env)
      standAt apos.atName
      let (f, first) ← holding [ov] (getMethod ov m (do return (← importBound o env).getD true))
      callWith pos f first (backTo pos (starEach [.JoinedStr js pj] env)) []) := by
  have hf : methodCallForm (1 + 0) (backTo pos (starEach [.JoinedStr js pj] env)) (backToKw pos (keywordEach [] env)) = true := by
    unfold methodCallForm
    first | rfl | decide | simp [starEach, backTo, backToKw, keywordEach]
  rw [eval.eq_def]
  simp only
  unfold methodCall methodCallPos calleeOf
  simp only [hf, List.length_nil, List.length_cons, hline]
  rfl
/-- the body's walk -/
theorem sup_body {X : Cx} {L a : Addr} {y : V} {s : Shared} {H : Hp} {Q : VK} (he : X.env = PySem.W.ksEnv qual scope L f (.ref cda) cc) (hN : X.N = [self, x, "__class__"]) (T : OexC X.K C) (U : SupC X.prog X.K X.mg C cc cda) (hno : PySem.W.findIn X.K (.ref C) fl = some none)
    (lk : X.K.lookup f = some ⟨oc, od, .func (PySem.W.fnX name qual params (iniBody self x fl p0 p1 p2 p3 p4 p5 p6 p7 p8 p9 v1 v2 vs) scope [("__class__", cc)] dV kV doc pm an (.ref cda) ct), osl⟩)
    (S : NScope [self, x, "__class__"] [self, x] ["__class__"] scope) (hsup : scope.names.lookup ("super" : Str) = some .globalImplicit) (hp : (params.posonlyargs ++ params.args).head? = some ar) (har : ar.arg = self)
    (hline : (p2.endLine == p3.line) = true) (hj : jsOk x (v1 :: v2 :: vs) = true) (hl : vs.length ≤ 8) (hd : (x == ("__debug__" : Str)) = false) (hcdx : (x == ("__classdict__" : Str)) = false) (hds : (self == ("__debug__" : Str)) = false) (hcs : (self == ("__classdict__" : Str)) = false)
    (I : Inv X [] [some (.ref a), some y, some (.ref C)] H s) (hea : H a = some (exo a C none)) (hy : IniV y) (hq : ∀ dx, H dx = none → dx ≠ a → Q .non (upd (upd H dx (exd dx [(fl, y)])) a (exo a C (some dx)))) :
    _root_.PySem.wpAt (model X.prog X.w) X.A (.func (iniBody self x fl p0 p1 p2 p3 p4 p5 p6 p7 p8 p9 v1 v2 vs) X.env) (execs (iniBody self x fl p0 p1 p2 p3 p4 p5 p6 p7 p8 p9 v1 v2 vs) X.env) (fun fw s' => fw = .next ∧ ∃ σ' H', Inv X [] σ' H' s' ∧ Q .non H') X.xe s := by
  have hsc : X.env.scope = scope := by rw [he]
  have vis0 : scope.names.lookup self = some .local := S.par self (by simp)
  have vis1 : scope.names.lookup x = some .local := S.par x (by simp)
  have hcl : scope.names.lookup ("__class__" : Str) = some .free := S.frk _ (by simp)
  have hkind : X.env.scope.kind = .function := I.ok.kind
  have KX : X.K.In s.heap := I.kIn
  obtain ⟨nm, q, N, bs, bm, sn, sub, ab, col, dd, k0, k1, k2, k3, k5, hC, hbm⟩ := T.cls
  obtain ⟨t1, ho⟩ := exo_at I.hok hea
  obtain ⟨cl, cld, csl, hcell⟩ := U.cell
  obtain ⟨ccl, cdd, cvs, ccs, file, tf, hcode, hvs, hfile⟩ := U.code
  obtain ⟨mb, hb1, hb2⟩ := I.mod.blt
  obtain ⟨cdC, hcd, hmro⟩ : ∃ cdC : ClassData, PySem.W.clsIn X.K C = some cdC ∧ cdC.mro = .ref C :: bm := ⟨{ name := nm, bases := bs, mro := .ref C :: bm, ns := N, qualname := q, hasDict := true, slotNames := sn, subclasses := sub, abstract := ab, collection := col, hasDel := false }, by unfold PySem.W.clsIn; rw [hC] <;> rfl, rfl⟩
  obtain ⟨oD, hD1, hD2⟩ : ∃ oD, s.heap.get? C = some oD ∧ oD.data = .cls cdC := by
    unfold PySem.W.clsIn at hcd
    split at hcd
    · rename_i c d cd' sl ho
      cases hcd
      exact ⟨_, KX _ _ ho, rfl⟩
    · cases hcd
  have hxC : a ≠ C := fun z => by
    have e1 : s.heap.get? C = _ := z ▸ ho
    rw [hD1] at e1
    have e2 := Option.some.inj e1
    rw [e2] at hD2
    cases hD2
  unfold iniBody
  refine PySem.ks_wpAt_execs_cons ?_
  refine PySem.ks_wpAt_Expr_any ?_ I.quiet
  refine PySem.ks_wpAt_MethodCall ?_ (sup_eq hline X.env)
  refine PySem.ks_wpAt_super_base (env := X.env) (by show X.env.scope.names.lookup _ = _; rw [hsc]; exact hsup) (by show X.env.scope.names.lookup _ = _; rw [hsc]; exact hcl) (by decide) (by rw [he]) (KX _ _ lk) rfl hp (by rw [he]) (KX _ _ hcode) rfl hvs hfile U.htop ?_
  refine PySem.W.ks_loadName_global hkind (by show X.env.scope.names.lookup _ = _; rw [hsc]; exact hsup) (Calls.loadGlobal_builtin (by rw [I.ok.glob]; exact I.mod.glob.keeps I.bk) U.msup (by rw [I.ok.blt]; exact hb1.keeps I.bk) ((hb2 "super" (by decide)).trans (by with_unfolding_all rfl : bootBuiltins "super" = some (.type "super"))) ⟨rfl, ?_⟩)
  refine wpAny_loadName_free hkind (by show X.env.scope.names.lookup _ = _; rw [hsc]; exact hcl) (c := cc) (by rw [he]; rfl) ⟨_, KX _ _ hcell, rfl⟩ ?_
  obtain ⟨mL, hnL, hlL⟩ := I.loc
  obtain ⟨u0, ru0, lu0⟩ := hlL 0 self (.ref a) (by rw [hN]; rfl) rfl (.inl (by rw [hsc]; exact vis0))
  obtain rfl : u0 = Value.ref a := ru0
  have hm0 : mL self = some (.ref a) := by
    rcases lu0 with ⟨_, z⟩ | ⟨z, _⟩
    · exact z
    · have z' : X.env.scope.names.lookup self = some .cell ∨ X.env.scope.names.lookup self = some .free := z
      rw [hsc, vis0] at z'
      rcases z' with z' | z' <;> cases z'
  refine wpAny_loadName_local hkind (by show X.env.scope.names.lookup _ = _; rw [hsc, har]; exact vis0) hnL (by rw [har]; exact hm0) ?_
  refine PySem.ks_wpAny_isType_cls hD1 hD2 ⟨rfl, ?_⟩
  obtain ⟨hp0, g, dr, tk, os⟩ := s
  refine PySem.ks_wpAny_call_super hD1 hD2 ho rfl (fun c e => nomatch e) (PySem.W.looks_mroIn KX U.self) (fun h1 e1 k1 => ?_)
  have hI : PySem.W.Looks (model X.prog X.w) h1 (isInstance (.ref a) (.type "ValueError")) true := by
    have J : PySem.W.InstAt h1 a { cls := Value.ref C, data := Data.fields #[Value.ref t1, Value.none, Value.none, Value.none, Value.bool false, Value.none] } C none := ⟨k1 _ _ ho, rfl, rfl, trivial⟩
    exact J.type.andThen (PySem.W.looks_subIn (KX.keeps k1) U.ve)
  have hsupIn : PySem.W.alongIn X.K "__init__" ((cdC.mro.dropWhile (· != .ref C)).drop 1) = some (some (.builtin "ValueError.__init__")) := by
    have z := U.sup
    unfold PySem.W.ks_superIn at z
    rw [hcd] at z
    exact z
  refine PySem.W.kxs_getMethod PySem.W.kxs_ValueError e1 (PySem.W.looks_opaque (KX.keeps k1) U.any) (l₀ := cdC.mro) (fun A Q E s k q => wpAny_bind ((PySem.W.looks_clsIn (KX.keeps k1) hcd) A _ E s k (wpAny_pure q))) rfl (KX.keeps k1) hsupIn hI hxC (by decide) ?_
  have hsz : hp0.objs.size ≤ h1.objs.size := Nat.le_of_lt (Heap.lt_size e1)
  have I1 := I.pinNew (u := h1.objs.size) (o := PySem.W.kxs_mw "ValueError.__init__" a) (h' := h1.push (PySem.W.kxs_mw "ValueError.__init__" a)) (t' := tk + 1) hsz (fun b o e => Heap.get?_push_of_some _ (k1 b o e)) (Heap.get?_push_size _ rfl) (fun v z => nomatch z)
  generalize h1.objs.size = u at I1
  obtain ⟨ts, hts, hrun⟩ := js_run (X := X) (i := 1) (by rw [hN]; rfl) (.inl (by rw [hsc]; exact vis1)) hd hcdx _ hj
  have hA : PA X [.JoinedStr (v1 :: v2 :: vs) p4] (tCons (fun σ H Q => tJs ts Str.empty σ H fun out H1 => Q (.str out) H1) tNil) := pa_cons (pe_joined hts) pa_nil
  have hlen : (v1 :: v2 :: vs).length ≤ 10 := by rw [List.length_cons, List.length_cons]; omega
  have hr := hA.run p3 _ _ _ _ (fun xs H1 => xs.length = 1 ∧ H1 = H) I1 (hrun Str.empty _ H y _ rfl hy (by rw [sizeLine_eq]; show 0 + _ ≤ _; omega) fun out => ⟨rfl, rfl⟩)
  show wpAny _ _ (callWith p3 (.ref u) [] (backTo p3 (starEach [.JoinedStr (v1 :: v2 :: vs) p4] X.env)) []) _ _ _
  refine PySem.W.kxs_callWith (i := "ValueError.__init__") (x := a) rfl (Calls.evalArgs_plain (thn hr fun us s1 ⟨xs, H1, I2, r2, e2, e3⟩ => ?_))
  subst e3
  have hus : us.length ≤ sizeLine := by rw [← r2.length, e2, sizeLine_eq]; omega
  have hu2 := (I2.pin _ (List.mem_append_right _ (List.mem_cons_self ..))).1
  refine ⟨hu2, ?_⟩
  obtain ⟨t2, ho2⟩ := exo_at I2.hok hea
  obtain ⟨hp2, g2, dr2, tk2, os2⟩ := s1
  refine call_ve (I2.kIn _ _ hC) ho2 hu2 hus fun h3 t3 k3 e3 => ?_
  have J := I2.unpin.write (t' := tk2) (x := a) (e := a) (o := exo a C none) (h' := h3) (by rw [hea]; exact True.intro) (.inl rfl) k3 ⟨_, e3⟩ (exo_ok e3)
  have eu : upd H1 a (exo a C none) = H1 := by
    funext b
    by_cases hb : b = a
    · rw [hb, upd_same, hea]
    · rw [upd_ne hb]
  rw [eu] at J
  refine PySem.wpAt_of_wpAny ?_
  have hps : PSs X [.Assign [.Attribute (.Name self p6) fl p7] (.Name x p8) p9] _ := pss_one (ps_ost (f := fl) (pe_var (i := 0) (by rw [hN]; rfl) (.inl (by rw [hsc]; exact vis0)) hds hcs) (pe_var (i := 1) (by rw [hN]; rfl) (.inl (by rw [hsc]; exact vis1)) hd hcdx))
  refine thn (hps.run [] _ _ _ { nx := fun _ H' => Q .non H', rt := fun _ _ => False } J ⟨y, rfl, .ref a, rfl, a, C, rfl, T, hno, .inl ⟨hea, fun dx n ne => hq dx n ne⟩⟩) fun fw s' hs => ?_
  cases fw with
  | next =>
    obtain ⟨σ', H', J, q⟩ := hs
    exact ⟨rfl, σ', H', J, q⟩
  | ret u =>
    obtain ⟨v, σ', H', J, rv, q⟩ := hs
    exact q.elim
  | brk =>
    obtain ⟨_, _, _, q⟩ := hs
    exact False.elim q
  | cont =>
    obtain ⟨_, _, _, q⟩ := hs
    exact False.elim q
theorem sup_init (T : OexC K C) (U : SupC P K mg C cc cda) (hno : PySem.W.findIn K (.ref C) fl = some none)
    (lk : K.lookup f = some ⟨oc, od, .func (PySem.W.fnX name qual params (iniBody self x fl p0 p1 p2 p3 p4 p5 p6 p7 p8 p9 v1 v2 vs) scope [("__class__", cc)] dV kV doc pm an (.ref cda) ct), osl⟩) (hcd : PySem.W.codeIn K (.ref cda) qual = true)
    (S : NScope [self, x, "__class__"] [self, x] ["__class__"] scope) (hsup : scope.names.lookup ("super" : Str) = some .globalImplicit) (hp : (params.posonlyargs ++ params.args).head? = some ar) (har : ar.arg = self)
    (hline : (p2.endLine == p3.line) = true) (hj : jsOk x (v1 :: v2 :: vs) = true) (hl : vs.length ≤ 8) (hd : (x == ("__debug__" : Str)) = false) (hcdx : (x == ("__classdict__" : Str)) = false) (hds : (self == ("__debug__" : Str)) = false) (hcs : (self == ("__classdict__" : Str)) = false) :
    FnOk P w K mg base CX (k + 1) f (PySem.W.fnX name qual params (iniBody self x fl p0 p1 p2 p3 p4 p5 p6 p7 p8 p9 v1 v2 vs) scope [("__class__", cc)] dV kV doc pm an (.ref cda) ct) [self, x] (spIni C fl) := by
  refine ⟨fun ws H Q E ⟨a, y, e, _⟩ => by rw [e]; rfl, fun A outer s H args us ws Q E hr e0 hb r hsp => ?_⟩
  obtain ⟨a, y, rfl, hea, hy, hq⟩ := hsp
  have KX : K.In s.heap := e0.mod.kin.keeps fun b o e => (e0.bs b o e).1
  have lim : s.heap.NoLimit := e0.mod.nolimit.keeps fun b o e => (e0.bs b o e).1
  refine codeAny_call_function hr.depth (KX _ _ lk) rfl S.co S.gen rfl (PySem.W.codeRec_of KX hcd) (hb _ _ _ _ ?_)
  refine wpAny_newFunctionEnv S.nocell (fun ⟨n, _⟩ hy => S.par n (List.of_mem_zip hy).1) (fun h₁ hns hsb => ⟨lim.fresh _ hsb, ?_⟩) S.kind
  show codeAny _ _ (.func _ (PySem.W.ksEnv qual scope s.heap.objs.size f (.ref cda) cc)) _ _
  refine ks_codeAny_funcAt ?_
  have kp : ∀ b o, s.heap.get? b = some o → h₁.get? b = some o := fun b o e => hsb.extBut b o (Nat.ne_of_lt (Heap.lt_size e)) (Heap.get?_push_of_some _ e)
  obtain ⟨cl, cld, csl, hcell⟩ := U.cell
  have hccb := e0.mod.kin _ _ hcell
  have hcc := e0.bs _ _ hccb
  have CA : CellsAt [(("__class__" : Str), cc)] ["__class__"] [some (.ref C)] s.heap H := by
    refine ⟨rfl, fun y c e => ?_, fun x y c e1 e2 => ?_, fun i y e => ?_⟩
    · have q : (y, c) ∈ [(("__class__" : Str), cc)] := mem_of_lookup e
      cases List.mem_singleton.mp q
      exact ⟨hcc.2, _, _, hcc.1, rfl⟩
    · have q1 : (x, c) ∈ [(("__class__" : Str), cc)] := mem_of_lookup e1
      have q2 : (y, c) ∈ [(("__class__" : Str), cc)] := mem_of_lookup e2
      cases List.mem_singleton.mp q1
      cases List.mem_singleton.mp q2
      rfl
    · cases i with
      | succ i => cases e
      | zero =>
        cases e
        refine ⟨cc, by simp [List.lookup], fun v hv => ?_⟩
        cases hv
        exact ⟨.ref C, rfl, _, hcc.1, rfl⟩
  have I := inv_startN (CX := CX) (P := P) (w := w) (K := K) (mg := mg) (base := base) (N := [self, x, "__class__"]) (F := ⟨name, qual, params, iniBody self x fl p0 p1 p2 p3 p4 p5 p6 p7 p8 p9 v1 v2 vs, scope, [("__class__", cc)], cda⟩) (f := f) (E := E) (tk := s.toks + ([self, x].zip us).length) S hr.hd e0 rfl r CA hns kp
  have J := sup_body (X := ncx CX P w K mg base [self, x, "__class__"] ⟨name, qual, params, iniBody self x fl p0 p1 p2 p3 p4 p5 p6 p7 p8 p9 v1 v2 vs, scope, [("__class__", cc)], cda⟩ f A outer s H E) rfl rfl T U hno lk S hsup hp har hline hj hl hd hcdx hds hcs I hea hy hq
  refine PySem.wpAt_mono J (fun fw s' hs => ?_) fun e s' hs => hs
  obtain ⟨rfl, σ', H', J, q⟩ := hs
  exact ⟨.non, H', J.os, J.bare, J.base, J.hok, rfl, q⟩
end
end L2
namespace L2
open PySem PySem.Spec PyProof.Rows
/-! ### isinstance of a held exception that has a dict -/
section
variable {prog : Program} {w : World} {A : Around} {E : Value → Shared → Prop} {s : Shared} {K : PySem.W.Frag} {x D : Addr} {ox : Obj} {od : Option Obj}
theorem xd_cls (C : ExcC K D) : ∃ cd, PySem.W.clsIn K D = some cd := by
  obtain ⟨cd, hc, _⟩ := PySem.W.any_some C.hd
  exact ⟨cd, hc⟩
theorem xd_obj (C : ExcC K D) : ∃ c d sl cd, K.lookup D = some (⟨c, d, .cls cd, sl⟩ : Obj) := by
  obtain ⟨cd, h⟩ := xd_cls C
  unfold PySem.W.clsIn at h
  split at h
  · rename_i c d cd' sl ho
    exact ⟨c, d, sl, cd', ho⟩
  · cases h
theorem xd_find (C : ExcC K D) : PySem.W.findObj K D od "__class__" = some (.bind (.builtin "getset_descriptor.__get__") (.builtin "object.__class__")) := by
  obtain ⟨cd, h⟩ := xd_cls C
  unfold PySem.W.findObj
  simp [h, C.ha, C.hn, C.ht]
theorem xd_slot {R : Result → Shared → Prop} {hp : Heap} {g : Array GenState} {d : Drawn} {t k : Nat} {os : OsState} (C : ExcC K D) (X : K.In hp) (I : PySem.W.InstAt hp x ox D od) (h : R (.ok (.ret (.ref D))) ⟨hp, g, d, t, os⟩) :
    codeAny (model prog w) A (.call (.builtin "BaseException.__getattribute__") ⟨[.ref x, .str "__class__" k], []⟩) R ⟨hp, g, d, t, os⟩ := by
  have T : PySem.W.Looks (model prog w) hp (isInstance (.ref x) (.type "BaseException")) true := I.type.andThen (PySem.W.looks_subIn X C.hs)
  refine codeAny_call_builtin F.excAttr_ValueError.ga.plain F.entry_bexc_ga ?_
  refine @PySem.W.check_slot (model prog w) _ _ ⟨hp, g, d, t, os⟩ "BaseException.__getattribute__" "BaseException" "__getattribute__" (.ref x) [.str "__class__" k] [] _ (by decide +kernel) (by decide +kernel) T (F.args_bexc_ga _ _) ?_
  unfold Builtin.«object.__getattribute__»
  refine wpAny_bind (wpAny_of_eq (a := ((Value.ref x : Value), [Value.str "__class__" k])) (by first | rfl | (simp only [slotArgs]; rfl)) (wpAny_bind (wpAny_pure ?_)))
  refine wpAny_bind (I.type.at (wpAny_bind ((PySem.W.looks_find X I (xd_find C)).at ?_)))
  show wpAny _ _ (holding [Value.builtin "object.__class__"] (call (.builtin "getset_descriptor.__get__") [.builtin "object.__class__", .ref x, .ref D]) >>= ret) _ _ _
  exact wpAny_bind (wpAny_holding (wpAny_call (PySem.W.class_get (s := ⟨hp, g, d, t, os⟩) X I C.hm (wpAny_pure h))))
theorem xd_attr {Q : Option Value → Shared → Prop} (C : ExcC K D) (X : K.In s.heap) (I : PySem.W.InstAt s.heap x ox D od) (h : Q (some (.ref D)) { s with toks := s.toks + 1 }) : wpAny (model prog w) A (getAttr? (.ref x) "__class__") Q E s := by
  obtain ⟨hp, g, d, t, os⟩ := s
  have own : ∀ (b : Bool), (b && (Value.builtin "BaseException.__getattribute__" == Value.builtin "object.__getattribute__")) = false := fun b => by cases b <;> decide +kernel
  unfold getAttr? getAttrBy? getAttrBy
  repeat (first | with_reducible refine wpAny_mkText ?_ | with_reducible refine wpAny_bind ?_ | refine wpAny_attempt ?_ | refine wpAny_holding ?_ | refine (I.type (M := model prog w)).at ?_ | refine (PySem.W.looks_findIn (M := model prog w) X C.hg).at ?_)
  simp only [own, Bool.false_eq_true, if_false]
  unfold getAttrByItsOwn hookBefore callGetattribute boundAndCalled
  refine wpAny_bind ?_
  rw [if_pos (show onTheHeap (Value.ref D) = true from rfl)]
  refine (PySem.W.looks_findIn (M := model prog w) X C.hk).at ?_
  refine wpAny_bind (wpAny_attempt (wpAny_holding ?_))
  simp only [Bool.false_and, Bool.false_eq_true, if_false, F.excAttr_ValueError.ga.bind (.ref x)]
  refine wpAny_bind (wpAny_pure (wpAny_call (xd_slot C X I ?_)))
  show wpAny _ _ (handedOut (.ref D)) _ _ _
  rw [PySem.W.handedOut_of (v := .ref D) rfl]
  first
    | exact wpAny_pure (wpAny_pure h)
    | exact wpAny_pure h
    | exact wpAny_pure (wpAny_bind (wpAny_pure (wpAny_pure h)))
theorem xd_kit (C : ExcC K D) : PySem.W.KitX K (.ref x) (.ref D) (fun h => PySem.W.InstAt h x ox D od) := by
  obtain ⟨c, dD, sl, cd, hD⟩ := xd_obj C
  refine ⟨fun _ _ _ I => I.type, fun _ _ X _ A' Q' E' s' k q => ?_, fun h tp dd its n sl' X htp => Bool.eq_false_iff.mpr fun q => ?_, fun X I k => xd_attr C X I k⟩
  · unfold isType loadHead
    exact wpAny_bind (wpAny_loadPart (k _ _ (X _ _ hD)) (wpAny_pure q))
  · cases PySem.Value.ref.inj (beq_iff_eq.mp q)
    cases (X _ _ hD).symm.trans htp
end
/-- isinstance(e, c), e the exception with a field that the suite holds -/
def rIsD (K : PySem.W.Frag) (D a dd : Addr) : List V → Hp → VK → Prop := fun xs H Q => (∃ fs, H dd = some (.xd fs)) ∧ ∃ (c : V) (cv : Value) (b : Bool), xs = [.ref a, c] ∧ (∀ u, RelV c u → u = cv) ∧ PySem.W.kitOne K (.ref D) cv = some b ∧ Q (.bl b) H
theorem call_isD {X : Cx} {a D dd : Addr} {oe : Obj} {pn : List (Addr × Obj)} (C : ExcC X.K D) (hz : Zc (.ref D) (some dd) oe) (hf : ∃ vs, oe.data = .fields vs) : CallR (X.suite a ((a, oe) :: pn)) (.builtin "isinstance") (rIsD X.K D a dd) := by
  intro pins s σ H xs us Q I r h
  obtain ⟨⟨fs, hdd⟩, c, cv, b, rfl, hcv, e, q⟩ := h
  cases r with
  | cons rx rr =>
    cases rr with
    | cons rt rr =>
      cases rr
      cases rx
      have ec := hcv _ rt
      subst ec
      obtain ⟨hget, _⟩ := I.pin (a, oe) (List.mem_append.mpr (.inl List.mem_cons_self))
      obtain ⟨vs, hv⟩ := hf
      have hx : ObjOk X.prog X.w H s.heap dd (.xd fs) := I.hok dd _ hdd
      obtain ⟨mA, hns, hr⟩ := hx
      obtain ⟨od, ho, _⟩ := lookIn_ns hns
      have J : PySem.W.InstAt s.heap a oe D (some od) := ⟨hget, hz.1, by unfold PySem.W.notCls; rw [hv] <;> rfl, by rw [hz.2]; exact ho⟩
      exact PySem.W.kia_one (xd_kit C) I.kIn J e (fun z => nomatch z) fun tk => ⟨.bl b, H, I.kept (t' := tk) fun _ _ z => z, rfl, q⟩
end L2
/-! ### the facts, from the head -/
namespace L2
open PySem PySem.Spec PyProof.Rows NdefX
theorem bind2 {name qual : Str} {a1 a2 : Arg} {body : List Stmt} {scope : Scope} {cl : List (Str × Addr)} {kV doc pm cdv ct : Value} {an : Option Addr} (hne : (a2.arg == a1.arg) = false) (us : List Value) (hl : us.length = 2) :
    bindArgs (PySem.W.fnX name qual ⟨[], [a1, a2], none, [], [], none, []⟩ body scope cl .none kV doc pm an cdv ct) ⟨us, []⟩ = pure ([a1.arg, a2.arg].zip us) := by
  match us, hl with
  | [u, v], _ =>
    simp [bindArgs, seqItems?, List.lookup, hne]
    rfl
def oexB (K : PySem.W.Frag) (C : Addr) : Bool := (match K.lookup C with
  | some ⟨.type "type", _, .cls cd, sl⟩ => (match cd.mro, sl.toList with
    | .ref C' :: bm, [_, _, _, _, some (.builtin n), _] => C' == C && (n == "ValueError.__new__" && (!cd.hasDel && (cd.hasDict && PySem.HandSPX.refsVE bm)))
    | _, _ => false)
  | _ => false) && (decide (PySem.W.findIn K (.ref C) "__setattr__" = some (some (.builtin "object.__setattr__"))) && (decide (PySem.W.subIn K (.ref C) (.type "BaseException") = some true) && (decide (PySem.W.typeIn K (.ref C) = some (.type "type")) && PySem.W.keepIn K (.ref C))))
theorem oexB_ok {K : PySem.W.Frag} {C : Addr} (h : oexB K C = true) : OexC K C := by
  unfold oexB at h
  simp only [Bool.and_eq_true, decide_eq_true_eq] at h
  obtain ⟨h0, h1, h2, h3, h4⟩ := h
  refine ⟨?_, h1, h2, h3, h4⟩
  split at h0
  · rename_i dd cd sl ho
    split at h0
    · rename_i C' bm k0 k1 k2 k3 n k5 hm hs
      simp only [Bool.and_eq_true, beq_iff_eq, Bool.not_eq_true'] at h0
      obtain ⟨rfl, rfl, hdel, hdc, ht⟩ := h0
      obtain ⟨nm, bs, mro, ns, qn, hd, sn, sub, ab, col, del⟩ := cd
      dsimp only at hm hdel hdc
      subst hm hdel hdc
      have hsl : sl = #[k0, k1, k2, k3, some (.builtin "ValueError.__new__"), k5] := by
        obtain ⟨l⟩ := sl
        simp only at hs
        rw [hs]
      subst hsl
      exact ⟨nm, qn, ns, bs, bm, sn, sub, ab, col, dd, k0, k1, k2, k3, k5, ho, ht⟩
    · cases h0
  · cases h0
def bodyB (fl self y : Str) : FuncBody → Bool
  | .stmts [.Expr (.Call (.Attribute (.Call (.Name s0 _) [] [] _) m0 p2) [.JoinedStr (v1 :: v2 :: vs) _] [] p3) _, .Assign [.Attribute (.Name self' _) fl' _] (.Name y' _) _] =>
    decide (s0 = "super") && (decide (m0 = "__init__") && (decide (self' = self) && (decide (fl' = fl) && (decide (y' = y) && ((p2.endLine == p3.line) && (jsOk y (v1 :: v2 :: vs) && decide (vs.length ≤ 8)))))))
  | _ => false
theorem bodyB_ok {fl self y : Str} {b : FuncBody} (h : bodyB fl self y b = true) : ∃ p0 p1 p2 p3 p4 p5 p6 p7 p8 p9 v1 v2 vs, b = .stmts (iniBody self y fl p0 p1 p2 p3 p4 p5 p6 p7 p8 p9 v1 v2 vs) ∧ (p2.endLine == p3.line) = true ∧ jsOk y (v1 :: v2 :: vs) = true ∧ vs.length ≤ 8 := by
  unfold bodyB at h
  split at h
  · rename_i s0 p0 p1 m0 p2 v1 v2 vs p4 p3 p5 self' p6 fl' p7 y' p8 p9
    simp only [Bool.and_eq_true, decide_eq_true_eq] at h
    obtain ⟨rfl, rfl, rfl, rfl, rfl, h1, h2, h3⟩ := h
    exact ⟨p0, p1, p2, p3, p4, p5, p6, p7, p8, p9, v1, v2, vs, rfl, h1, h2, h3⟩
  · cases h
def nmB (x : Str) : Bool := !(x == ("__debug__" : Str)) && !(x == ("__classdict__" : Str))
/-- the __init__ at fI -/
def fnB (K : PySem.W.Frag) (file fl : Str) (C fI : Addr) : Bool := match K.lookup fI with
  | some ⟨_, _, .func ⟨_, qual, ⟨[], [a1, a2], none, [], [], none, []⟩, body, scope, gl, [(cn, cc)], .none, _, _, _, _, .ref cda, _, bn⟩, _⟩ =>
    bodyB fl a1.arg a2.arg body && (decide (gl = mainGlobals) && (decide (bn = builtinsNs) && (decide (cn = "__class__") && (!(a2.arg == a1.arg) && (nscB [a1.arg, a2.arg, "__class__"] [a1.arg, a2.arg] ["__class__"] scope && (decide (scope.names.lookup ("super" : Str) = some .globalImplicit) &&
    (nmB a1.arg && (nmB a2.arg && (PySem.W.codeIn K (.ref cda) qual && ((match K.lookup cc with
      | some ⟨_, _, .cell (some (.ref C')), _⟩ => C' == C
      | _ => false) && (match K.lookup cda with
      | some ⟨_, _, .fields vs, _⟩ => (match (vs[2]? : Option Value) with
        | some (.str f _) => decide (f = file)
        | _ => false)
      | _ => false)))))))))))
  | _ => false
def iniB (K : PySem.W.Frag) (file x fl : Str) : Bool :=
  oexB K (He.ga K x) && (decide (PySem.W.findIn K (.ref (He.ga K x)) "__init__" = some (some (.ref (He.ma K (He.ga K x) "__init__")))) && (decide (PySem.W.typeIn K (.ref (He.ma K (He.ga K x) "__init__")) = some (.type "function")) && (decide (PySem.W.findIn K (.ref (He.ga K x)) fl = some none) &&
  (fnB K file fl (He.ga K x) (He.ma K (He.ga K x) "__init__") && (decide (PySem.W.mroIn K (He.ga K x) (.ref (He.ga K x)) = some true) && (decide (PySem.W.nsIn K cStatics "thirdparty.any" = some none) && (decide (PySem.W.ks_superIn K (He.ga K x) (He.ga K x) "__init__" = some (some (.builtin "ValueError.__init__"))) &&
  (decide (PySem.W.subIn K (.ref (He.ga K x)) (.type "ValueError") = some true) && decide (PySem.W.nsIn K mainGlobals "super" = some none)))))))))
theorem nmB_ok {x : Str} (h : nmB x = true) : (x == ("__debug__" : Str)) = false ∧ (x == ("__classdict__" : Str)) = false := by
  unfold nmB at h
  simpa only [Bool.and_eq_true, Bool.not_eq_true'] using h
theorem ini_ok {K : PySem.W.Frag} {mg : Str → Option Value} {P : Program} {h : Heap} {x fl file : Str} (q : iniB K file x fl = true) (hfile : P.main.file = file) (htop : (P.main.scope.names.lookup ("super" : Str)).isSome = false) (X : K.In h) (G : h.Ns mainGlobals mg) :
    OexC K (He.ga K x) ∧ ∃ fI fd ps, PySem.W.findIn K (.ref (He.ga K x)) "__init__" = some (some (.ref fI)) ∧ PySem.W.typeIn K (.ref fI) = some (.type "function") ∧ (∀ (CX : CXT) (w : World) (base : Heap), FnOk P w K mg base CX 1 fI fd ps (spIni (He.ga K x) fl)) ∧ Binds K fd ps [] := by
  unfold iniB at q
  simp only [Bool.and_eq_true, decide_eq_true_eq] at q
  obtain ⟨q1, q2, q3, q4, q5, q6, q7, q8, q9, q10⟩ := q
  have T := oexB_ok q1
  refine ⟨T, He.ma K (He.ga K x) "__init__", ?_⟩
  unfold fnB at q5
  split at q5
  · rename_i oc od name qual a1 a2 body scope gl cn cc kV doc pm an cda ct bn osl lk
    simp only [Bool.and_eq_true, decide_eq_true_eq, Bool.not_eq_true'] at q5
    obtain ⟨r1, r2, r3, r4, r5, r6, r7, r8, r9, r10, r11, r12⟩ := q5
    obtain ⟨p0, p1, p2, p3, p4, p5, p6, p7, p8, p9, v1, v2, vs, eb, b1, b2, b3⟩ := bodyB_ok r1
    subst eb r2 r3 r4
    have U : SupC P K mg (He.ga K x) cc cda := by
      refine ⟨?_, ?_, q6, q7, q8, q9, PySem.W.mg_none_of X G q10, htop⟩
      · split at r11
        · rename_i cl cld C' csl ho
          rw [beq_iff_eq.mp r11] at ho
          exact ⟨cl, cld, csl, ho⟩
        · cases r11
      · split at r12
        · rename_i ccl cdd vs' ccs ho
          split at r12
          · rename_i f tf hv
            exact ⟨ccl, cdd, vs', ccs, f, tf, ho, hv, by rw [hfile, of_decide_eq_true r12]; exact beq_self_eq_true _⟩
          · cases r12
        · cases r12
    obtain ⟨n1, n2⟩ := nmB_ok r8
    obtain ⟨n3, n4⟩ := nmB_ok r9
    exact ⟨_, _, q2, q3, fun CX w base => sup_init (name := name) (qual := qual) (params := ⟨[], [a1, a2], none, [], [], none, []⟩) (ar := a1) T U q4 lk r10 (nscope_by r6) r7 rfl rfl b1 b2 b3 n3 n4 n1 n2, .all fun us hl => bind2 r5 us hl⟩
  · cases q5
end L2
end
section
set_option Elab.async false
set_option linter.all false
set_option maxRecDepth 100000
set_option maxHeartbeats 2000000
namespace Mp
open PySem L2 PySem.Spec PyProof.Rows
open Evl (Ex ex_l ex_t fresh_back)
/-! ### isinstance of a built-in type -/
def tyS : Ty → String
  | .non => "NoneType" | .bl => "bool" | .int => "int" | .str => "str" | .lst => "list" | .tup => "tuple" | .dct => "dict"
theorem kit_tys (t u : Ty) (h : u ≠ .non) : kitB (tyS t) (tyS u) = some (isTy t u) := by
  cases u <;> first | (exact absurd rfl h) | (cases t <;> decide +kernel)
def tyName : Ty → Option Str
  | .bl => some "bool" | .int => some "int" | .str => some "str" | .lst => some "list" | .tup => some "tuple" | .dct => some "dict" | .non => none
theorem tyName_ok {u : Ty} {y : Str} (h : tyName u = some y) : bootBuiltins y = some (.type (tyS u)) ∧ y ≠ "__name__" ∧ (y == ("__debug__" : Str)) = false ∧ u ≠ .non := by
  cases u <;> first | (cases h; done) | (cases h; exact ⟨by with_unfolding_all rfl, by decide, by decide, fun z => nomatch z⟩)
section
variable {L : Lk} {X : Ext} {G H : Hp} {ι : Iot} {μ : Heap} {w : V} {v : Val}
theorem dr_tyx {G : Hp} {d : D} {t : Ty} (h : Dr L G w d) (q : tyOf μ (.d d) = some t) : TyX L.K G w (.type (tyS t)) := by
  have lst : ∀ {a xs}, SqL L.K G a xs → TyX L.K G (.ref a) (.type "list") := fun {a xs} s => by
    rcases s with (s | ⟨o, s⟩) | ⟨o, its, n, h1, h2, _⟩
    · exact .base (.lst s)
    · exact .base (.frz s)
    · exact .kList h1 h2
  cases d with
  | non => cases q; rw [dr_non h]; exact .base .non
  | bl b => cases q; rw [dr_bl h]; exact .base (.bl b)
  | int i => cases q; rw [dr_int h]; exact .base (.int i)
  | str x => cases q; rw [dr_str h]; exact .base (.str x)
  | lst ds =>
    cases q
    obtain ⟨a, xs, rfl, s, _⟩ := dr_lst h
    exact lst s
  | tup ds =>
    cases q
    obtain ⟨a, xs, rfl, s, _⟩ := dr_tup h
    rcases s with (s | ⟨o, s⟩) | ⟨o, its, n, h1, h2, _⟩
    · exact .base (.tup s)
    · exact .fTuple s
    · exact .kTuple h1 h2
  | _ => cases q
theorem HR.tyx (h : HR L G H ι μ) (r : VR L X G ι w v) {t : Ty} (q : tyOf μ v = some t) : TyX L.K H w (.type (tyS t)) := by
  cases v with
  | d x => exact dr_tyx (μ := μ) (dr_ex h.gh r) q
  | ref i =>
    rw [tyOf_ref] at q
    cases e : μ[i]? with
    | none => rw [e] at q; cases q
    | some c =>
      rw [e] at q
      obtain ⟨p, h1, rfl, cr⟩ := h.ref r e
      cases c with
      | lst vs => cases q; obtain ⟨xs, a1, _⟩ := cr; exact .base (.lst a1)
      | frz d =>
        cases d with
        | lst ds => cases q; exact dr_tyx (μ := μ) (dr_ex h.gh cr) rfl
        | _ => cases q
      | _ => cases q
  | clo f c => cases q
  | exn x => cases q
end
section
variable {c : Ctx} {tg it elt a b d o : Expr} {es : List Expr} {scope : Scope} {T : Tbl} {R R1 : Run} {t : Tg} {ii : It} {ec : TO} {ee eo ea eb : E} {ees : Es} {tt : Tt} {w : Bool} {pos spos py p p1 p2 pos2 np : Pos} {x y n : Str} {body els suite : List Stmt} {sb se : Ss}
theorem snd_isi {u : Ty} (F : Free c "isinstance") (hy : tyName u = some y) (F2 : Free c y) (h : SndE c a (ev T R R1 ea)) (ha : okE a = true) : SndE c (.Call (.Name "isinstance" p) [a, .Name y p2] [] pos) (ev T R R1 (.blt (.isi [u]) w (.cons ea .nil))) := by
  obtain ⟨y1, y2, y3, y4⟩ := tyName_ok hy
  refine SndE.mk (t := tCB (rIsi c.L.K) (tCons (tE c a) (tCons (tC (.ty (tyS u))) tNil))) (fun X f => ?_) fun S Q q => ?_
  · exact pe_callB (by rw [← f.K]; exact call_isi) (gl_of f F.g) (by rw [f.mg]; exact F.m) (by with_unfolding_all rfl) (pa_cons (pe_tE f) (pa_cons (pe_bltn (v := .ty (tyS u)) (gl_of f F2.g) (by rw [f.mg]; exact F2.m) y1 rfl y2 y3) pa_nil (star_ok rfl _ _)) (star_ok ha _ _)) (by decide) (by decide) (star_ok ha _ _) (plain_args (es := [.Name y p2]) rfl _ _)
  · rw [ev_blt, evs_cons, bnd_assoc] at q
    refine h S _ (q.bnd fun z v μ1 G1 H1 ι1 st hr rv q => ?_)
    rw [evs_nil, bnd_ok, bnd_ok] at q
    cases e : tyOf μ1 v with
    | none =>
      have e2 : bltD T (.isi [u]) [v] μ1 = none := by rw [isi_of, e]
      rw [e2] at q; exact q.elim
    | some t =>
      have e2 : bltD T (.isi [u]) [v] μ1 = some (D.bl ([u].any fun u => isTy t u)) := by rw [isi_of, e]
      rw [e2] at q
      have e3 : ([u].any fun u => isTy t u) = isTy t u := by rw [List.any_cons, List.any_nil, Bool.or_false]
      rw [e3] at q
      exact ⟨z, .ty (tyS u), .type (tyS t), .type (tyS u), isTy t u, rfl, .ty _, hr.tyx rv e, kit_ty (kit_tys t u y4), q.okD hr (.bl _)⟩
/-! ### raise -/
/-- what the module says of an exception's class -/
structure ExAt (c : Ctx) (x : Str) (k : Nat) : Prop where
  g : c.sc.names.lookup x = some .globalImplicit
  m : c.mg x = some (.ref (c.L.clA k))
  d : (x == ("__debug__" : Str)) = false
  ex : PySem.W.excIn c.L.K (c.L.clA k) He.veBase "ValueError.__new__" = true
  kp : PySem.W.keepIn c.L.K (.ref (c.L.clA k)) = true
  b : PySem.W.subIn c.L.K (.ref (c.L.clA k)) (.type "BaseException") = some true
  t : PySem.W.typeIn c.L.K (.ref (c.L.clA k)) = some (.type "type")
  x : c.L.isX k = true
theorem sns_raise {k : Nat} (M : ExAt c x k) (hk : T.exk k = .pl) (hc : c.calm = true) (ha : okE a = true) (h : SndE c a (ev T R R1 ea)) : SndS c (.Raise (some (.Call (.Name x p) [a] [] pos)) none pos2) (exS T R R1 (.raise k (.cons ea .nil))) :=
  SndS.mk (t := fun _ σ H => tE c a σ H fun _ H1 => c.W (.ref (c.L.clA k)) none σ H1) (fun X f => ps_raise (f.calm.trans hc) f.take
    (SkE.pmk_own1 (X := X) PySem.F.excBase_ValueError (by rw [f.K]; exact M.ex) (by rw [f.mg]; exact M.m) (by rw [f.K]; exact M.kp) (raises_own (by rw [f.K]; exact M.b) (by rw [f.K]; exact M.t)) (gl_of f.toFits M.g) (pe_tE f.toFits) (star_ok ha _ _) M.d)) fun S D q => by
    rw [exS_raise, evs_cons, bnd_then] at q
    refine h S _ (q.thn S fun z v μ1 G1 H1 ι1 st hr rv q => ?_)
    rw [evs_nil, bnd_ok, then_ok] at q
    unfold exnOf at q
    rw [hk] at q
    cases v with
    | d y => cases y with
      | str y => exact q _ _ _ _ (.refl (Nat.le_refl _)) (S.step st hr) M.x
      | _ => exact (show PostS c G1 H1 ι1 μ1 D .bad from q).elimB
    | _ => exact (show PostS c G1 H1 ι1 μ1 D .bad from q).elimB
/-- .. of one whose own __init__ keeps its argument -/
structure EfAt (c : Ctx) (x : Str) (k : Nat) (fl : Str) : Prop where
  g : c.sc.names.lookup x = some .globalImplicit
  m : c.mg x = some (.ref (c.L.clA k))
  d : (x == ("__debug__" : Str)) = false
  x : c.L.isX k = true
  T : OexC c.L.K (c.L.clA k)
  i : ∃ fI fd ps, PySem.W.findIn c.L.K (.ref (c.L.clA k)) "__init__" = some (some (.ref fI)) ∧ PySem.W.typeIn c.L.K (.ref fI) = some (.type "function") ∧ FnOk c.P c.w c.L.K c.mg c.base (L2.CX c.P c.w) 1 fI fd ps (spIni (c.L.clA k) fl) ∧ Binds c.L.K fd ps []
theorem upd_del {H : Hp} {a d : Addr} {u v w o : HO} (ha : H a = none) (hd : d ≠ a) : upd (del (upd (upd (upd H a o) d u) a v) a) d w = upd H d w := by
  funext b
  by_cases hb : b = d
  · rw [hb, upd_same, upd_same]
  · rw [upd_ne hb, upd_ne hb]
    by_cases h2 : b = a
    · rw [h2, del_same, ha]
    · rw [del_ne h2, upd_ne h2, upd_ne hb, upd_ne h2]
theorem sns_raiseF {k : Nat} {fl : Str} (M : EfAt c x k fl) (hk : T.exk k = .fld fl) (hc : c.calm = true) (ha : okE a = true) (h : SndE c a (ev T R R1 ea)) : SndS c (.Raise (some (.Call (.Name x p) [a] [] pos)) none pos2) (exS T R R1 (.raise k (.cons ea .nil))) := by
  obtain ⟨fI, fd, ps, i1, i2, i3, i4⟩ := M.i
  refine SndS.mk (t := fun _ σ H => tMkO (c.L.clA k) (spIni (c.L.clA k) fl) [] (tCons (tE c a) tNil) σ H fun cls d H' => c.W cls d σ H') (fun X f => ?_) fun {G H σ ι δ μ} S D q => ?_
  · have F' : FnOk X.prog X.w X.K X.mg X.base (L2.CX X.prog X.w) 1 fI fd ps (spIni (c.L.clA k) fl) := by rw [f.p, f.w, f.K, f.mg, f.base]; exact i3
    exact ps_raise (f.calm.trans hc) f.take (pmk_oex (ds := []) (dvs := []) (by rw [f.K]; exact M.T) (by rw [f.K]; exact i1) (by rw [f.K]; exact i2) F' ((f.room hc).mono (by omega)) (by rw [f.K]; exact i4) .nil (fun _ _ _ _ _ _ _ z => by obtain ⟨_, _, _, _, _, _, _, _, _, _, _, _, z⟩ := z; exact z.elim) (gl_of f.toFits M.g) (by rw [f.mg]; exact M.m) (pa_cons (pe_tE f.toFits) pa_nil (star_ok ha _ _)) M.d (star_ok ha _ _))
  · rw [exS_raise, evs_cons, bnd_then] at q
    refine h S _ (q.thn S fun z v μ1 G1 H1 ι1 st hr rv q => ?_)
    rw [evs_nil, bnd_ok, then_ok] at q
    have fin : ∀ d, exnOf T k [v] = some (.fld k fl d) → v = .d d → IniV z → ([z] : List V).length ≤ 1000 ∧ ∀ a, H1 a = none → spIni (c.L.clA k) fl (.ref a :: ([z] ++ [])) (upd H1 a (exo a (c.L.clA k) none))
        (fun v H2 => v = .non ∧ ∃ (d : Addr) (fs : List (Str × V)), H2 a = some (exo a (c.L.clA k) (some d)) ∧ H2 d = some (exd d fs) ∧ H1 d = none ∧ c.W (.ref (c.L.clA k)) (some d) σ (upd (del H2 a) d (.xd fs))) (fun _ _ _ => False) := fun d ed ev hz => by
      rw [ed] at q
      subst ev
      refine ⟨by simp, fun e he => ⟨e, z, rfl, upd_same, hz, fun dx hdx hne => ?_⟩⟩
      have hd1 : H1 dx = none := by rw [upd_ne hne] at hdx; exact hdx
      refine ⟨rfl, dx, [(fl, z)], upd_same, by rw [upd_ne hne, upd_same], hd1, ?_⟩
      rw [upd_del he hne]
      obtain ⟨k1, k2⟩ := hr.grow (.xd [(fl, z)]) hd1
      exact q _ _ _ _ k2 ((S.step st hr).step k2 k1) M.x dx z (.inl hd1) upd_same (dr_ex k2.g rv)
    have no : exnOf T k [v] = none → False := fun e => by rw [e] at q; exact q.elimB
    unfold exnOf at fin no
    rw [hk] at fin no
    cases v with
    | d y => cases y with
      | str y =>
        by_cases hy : y.length ≤ 1000000
        · exact fin (.str y) (if_pos hy) rfl (.inl ⟨y, dr_str rv, hy⟩)
        · exact (no (if_neg hy)).elim
      | int i =>
        by_cases hy : i.natAbs.log2 < 1920
        · exact fin (.int i) (if_pos hy) rfl (.inr ⟨i, dr_int rv, hy⟩)
        · exact (no (if_neg hy)).elim
      | _ => exact (no rfl).elim
    | _ => exact (no rfl).elim
/-! ### try -/
end
section
variable {c : Ctx}
def Ctx.try_ (c : Ctx) (W : L2.WX) : Ctx := { c with W := W }
/-- where an exception of x's class is held at a -/
def Ctx.suit (c : Ctx) (a : Addr) (cls : Value) (d : Option Addr) (x : Exn) : Ctx := { c with W := fun _ _ _ _ => False, calm := false, su := some (a, cls, d), X := ⟨c.X.clo, fun w y => w = .ref a ∧ y = x ∧ cls = .ref (c.L.clA x.cls) ∧ c.L.isX x.cls = true ∧ ∀ k, x = .pl k → d = none, d⟩ }
theorem fits_try {X : Cx} (f : FitsS c X) (W : L2.WX) {pn : List (Addr × Obj)} {xe : Value → Shared → Prop} (tk : Takes (X.tr pn xe) W) (po : PassesOwn (model X.prog X.w) X.A X.env xe) (hs : c.su = none) : FitsS (c.try_ W) (X.tr pn xe) :=
  ⟨⟨f.p, f.w, f.K, f.mg, f.base, f.N, f.sc, f.calm, f.room, f.un, tk, f.fn, f.nd, (fun a cls d z => by rw [show (c.try_ W).su = c.su from rfl, hs] at z; cases z), f.tp⟩, fun _ => po, f.stk⟩
theorem fits_suit {X : Cx} (f : FitsS c X) {a : Addr} {oe : Obj} {cls : Value} {d : Option Addr} {pn : List (Addr × Obj)} (e : Exn) (hz : Zc cls d oe) (hf : ∃ vs, oe.data = .fields vs) : FitsS (c.suit a cls d e) (X.suite a ((a, oe) :: pn)) :=
  ⟨⟨f.p, f.w, f.K, f.mg, f.base, f.N, f.sc, rfl, (fun z => nomatch z), f.un, takes0, f.fn, f.nd, (fun a' cls' d' z => by cases z; exact ⟨X, oe, pn, rfl, hz, hf⟩), f.tp⟩, (fun z => nomatch z), (fun z => nomatch z)⟩
theorem St.try_ {G H : Hp} {σ : L2.St} {ι : Iot} {δ : Slots} {μ : Heap} (S : St c G H σ ι δ μ) (W : L2.WX) : St (c.try_ W) G H σ ι δ μ := ⟨S.hr, S.len, S.sl⟩
theorem St.untry {G H : Hp} {σ : L2.St} {ι : Iot} {δ : Slots} {μ : Heap} {W : L2.WX} (S : St (c.try_ W) G H σ ι δ μ) : St c G H σ ι δ μ := ⟨S.hr, S.len, S.sl⟩
theorem clr_at {δ : Slots} {j : Nat} {v : Val} (h : (clrX δ).at j = some v) : δ.at j = some v ∧ noX v = true := by
  unfold clrX Slots.at at h
  rw [List.getElem?_map] at h
  unfold Slots.at
  cases e : δ[j]? with
  | none => rw [e] at h; cases h
  | some o =>
    rw [e] at h
    cases o with
    | none => cases h
    | some u => cases u <;> first | (cases h; exact ⟨rfl, rfl⟩) | (cases h; done)
theorem clr_len (δ : Slots) : (clrX δ).length = δ.length := List.length_map ..
theorem St.suit {G H : Hp} {σ : L2.St} {ι : Iot} {δ : Slots} {μ : Heap} (S : St c G H σ ι δ μ) (hx : ∀ w x, ¬ c.X.exv w x) (a : Addr) (cls : Value) (d : Option Addr) (x : Exn) (h1 : cls = .ref (c.L.clA x.cls)) (h2 : c.L.isX x.cls = true) (h3 : ∀ k, x = .pl k → d = Option.none) (h4 : XdR c.L G d x) (i : Nat) : St (c.suit a cls d x) G H (σ.set i (some (.ref a))) ι (δ.set i (some (.exn x))) μ := by
  have S' : St (c.suit a cls d x) G H σ ι δ μ := ⟨S.hr, S.len, fun j v hj => by
    obtain ⟨w, h1, h2⟩ := S.sl j v hj
    refine ⟨w, h1, ?_⟩
    cases v with
    | d y => exact h2
    | ref k => exact h2
    | clo f cs => exact h2
    | exn y => exact (hx _ _ h2.1).elim⟩
  exact S'.set i (v := .exn x) ⟨⟨rfl, rfl, h1, h2, h3⟩, h4⟩
/-- the dict of an exception in the air doesn't change -/
theorem xd_in {L : Lk} {G H G' H' : Hp} {ι ι' : Iot} {μ μ' : Heap} {n : Nat} {dd : Addr} {fs : List (Str × V)} (hr : HR L G' H' ι' μ') (st : Stp n G H ι μ G' H' ι' μ') (fr : Frs H ι μ dd) (h1 : H' dd = some (.xd fs)) :
    HR L (upd G' dd (.xd fs)) H' ι' μ' ∧ Stp n G H ι μ (upd G' dd (.xd fs)) H' ι' μ' ∧ Ex G' (upd G' dd (.xd fs)) := by
  have nf : ∀ a, Foot ι' μ' a → a ≠ dd := fun a ⟨i, p, c, e1, e2, e3⟩ z => by
    have cr := hr.cell i p c e1 e2
    subst z
    cases c with
    | frz d => cases e3
    | lst vs =>
      cases List.mem_singleton.mp e3
      obtain ⟨xs, q, _⟩ := cr
      rw [h1] at q; cases q
    | dct kvs =>
      cases List.mem_singleton.mp e3
      obtain ⟨_, _, _, _, _, _, _, _, q⟩ := cr
      rw [h1] at q; cases q
    | obj k fs =>
      obtain ⟨_, _, _, _, _, _, q1, q2, _⟩ := cr
      rcases List.mem_cons.mp e3 with e3 | e3
      · subst e3; rw [h1] at q1; cases q1
      · cases List.mem_singleton.mp e3
        rw [h1] at q2; cases q2
  have ex1 : Ex G' (upd G' dd (.xd fs)) := fun a o q => by
    by_cases z : a = dd
    · subst z
      have q2 := hr.gh _ _ q
      rw [h1] at q2; cases q2
      exact upd_same
    · rw [upd_ne z]; exact q
  have ex2 : Ex (upd G' dd (.xd fs)) H' := fun a o q => by
    by_cases z : a = dd
    · subst z; rw [upd_same] at q; cases q; exact h1
    · rw [upd_ne z] at q; exact hr.gh _ _ q
  refine ⟨hr.keep ex1 ex2 fun a f => ⟨by rw [upd_ne (nf a f)]; exact (hr.own a f).1, rfl⟩, ⟨st.g.trans ex1, st.pre, st.le, st.keep, fun a q f => ?_, st.live⟩, ex1⟩
  have z : a ≠ dd := fun z => by
    subst z
    rcases fr with fr | fr
    · exact q fr
    · exact f fr
  rw [upd_ne z]
  exact st.old a q f
theorem VR.unsuit {G : Hp} {ι : Iot} {w : V} {v : Val} {a : Addr} {cls : Value} {d : Option Addr} {x : Exn} (r : VR c.L (c.suit a cls d x).X G ι w v) (h : noX v = true) : VR c.L c.X G ι w v := by
  cases v with
  | d y => exact r
  | ref k => exact r
  | clo f cs => exact r
  | exn y => cases h
theorem St.unsuit {G H : Hp} {σ : L2.St} {ι : Iot} {δ : Slots} {μ : Heap} {a : Addr} {cls : Value} {d : Option Addr} {x : Exn} (S : St (c.suit a cls d x) G H σ ι δ μ) (i : Nat) (o : Option V) : St c G H (σ.set i o) ι (clrX (δ.set i Option.none)) μ := by
  have S1 := S.none i o
  refine ⟨S1.hr, by rw [clr_len]; exact S1.len, fun j v hj => ?_⟩
  obtain ⟨h1, h2⟩ := clr_at hj
  obtain ⟨w, h3, h4⟩ := S1.sl j v h1
  exact ⟨w, h3, VR.unsuit h4 h2⟩
/-- what the module says of an exception's class in a handler -/
structure ExsAt (c : Ctx) (x : Str) (j : Nat) : Prop where
  g : c.sc.names.lookup x = some .globalImplicit
  d : (x == ("__debug__" : Str)) = false
  n : c.mg x = some (.ref (c.L.clA j))
  m : ∀ k, c.L.isX k = true → PySem.W.exmOne c.L.K (.ref (c.L.clA k)) (.ref (c.L.clA j)) = some (c.T.sub k j)
/-- behind a suite -/
theorem PostS.unsuit {G H : Hp} {ι : Iot} {μ : Heap} {D : Ends} {a : Addr} {cls : Value} {d : Option Addr} {x : Exn} {i : Nat} {r : RS} (q : PostS c G H ι μ D (r.clr i)) :
    PostS (c.suit a cls d x) G H ι μ { nx := fun σ' H' => D.nx (σ'.set i none) H', rt := D.rt, bk := fun σ' H' => D.bk (σ'.set i none) H', ct := fun σ' H' => D.ct (σ'.set i none) H' } r := by
  cases r with
  | bad => exact q.elimB
  | ex y δ' μ' => exact PostS.elimB q
  | ok δ' f μ' =>
    intro σ' G' H' ι' st S'
    cases f with
    | nx => exact q _ _ _ _ st (S'.unsuit i none)
    | bk => exact q _ _ _ _ st (S'.unsuit i none)
    | ct => exact q _ _ _ _ st (S'.unsuit i none)
    | rt v =>
      intro w rv
      have rv : VR c.L (c.suit a cls d x).X G' ι' w v := rv
      have q : PostS c G H ι μ D (if noX v = true then .ok (clrX (δ'.set i none)) (.rt v) μ' else .bad) := q
      by_cases hv : noX v = true
      · rw [if_pos hv] at q
        exact q _ _ _ _ st (S'.unsuit i none) w (VR.unsuit rv hv)
      · rw [if_neg hv] at q
        exact q.elimB
end
section
variable {c : Ctx} {x n : Str} {body suite : List Stmt} {b0 : Stmt} {pos pos2 np : Pos} {sb ss : Ss} {i j : Nat}
theorem sns_try (hc : c.calm = true) (hsu : c.su = none) (hX : ∀ w x, ¬ c.X.exv w x) (M : ExsAt c x j) (hi : c.N[i]? = some n) (hln : c.sc.names.lookup n = some .local)
    (hb : ∀ W, SndSs (c.try_ W) body (exSs c.T c.R c.R1 sb)) (hs : ∀ a cls d y, SndSs (c.suit a cls d y) (b0 :: suite) (exSs c.T c.R c.R1 ss)) :
    SndS c (.Try body [.ExceptHandler (some (.Name x np)) (some n) (b0 :: suite) pos2] [] [] pos) (exS c.T c.R c.R1 (.try_ sb (.cons [j] (some i) ss .nil))) :=
  SndS.mk (t := fun D σ H => (fun W => tSs (c.try_ W) body) (wAs c.L.K (.ref (c.L.clA j)) i (fun a cls d => fun D σ H => ∃ y, tSs (c.suit a cls d y) (b0 :: suite) D σ H) c.W D) D σ H) (fun X f => by
    rw [← f.K]
    exact ps_try_as (tb := fun W => tSs (c.try_ W) body) (ts := fun a cls d => fun D σ H => ∃ y, tSs (c.suit a cls d y) (b0 :: suite) D σ H) (f.stk hc).1 (f.stk hc).2 (f.N ▸ f.nd : X.N.Nodup) (by rw [f.N]; exact hi)
      (by show X.env.scope.names.lookup n = _; rw [f.sc]; exact hln) ⟨gl_of f.toFits M.g, M.d, .inl (by rw [f.mg]; exact M.n)⟩ f.take
      (fun W pn xe tk po => pss_tSs (fits_try f W tk po hsu)) (fun a oe cls d pn hz hf => ⟨fun pins s σ H D I ⟨y, q⟩ => (pss_tSs (fits_suit f y hz hf)).run pins s σ H D I q⟩)) fun {G H σ ι δ μ} S D q => by
    rw [exS_try] at q
    refine (hb _).run (S.try_ _) D ?_
    cases z : exSs c.T c.R c.R1 sb δ μ with
    | bad => rw [z] at q; exact q.elim
    | ok δ' f μ' => rw [z] at q; exact fun σ' G' H' ι' st S' => q σ' G' H' ι' st S'.untry
    | ex y δ' μ' =>
      rw [z] at q
      have q : PostS c G H ι μ D (exHs c.T c.R c.R1 (.cons [j] (some i) ss .nil) y δ' μ') := q
      rw [exHs_cons, List.any_cons, List.any_nil, Bool.or_false] at q
      intro σ' G' H' ι' st S'
      have S' := S'.untry
      have go : c.L.isX y.cls = true → ∀ dd G2, (∀ k, y = .pl k → dd = none) → Stp ι.length G H ι μ G2 H' ι' μ' → St c G2 H' σ' ι' δ' μ' → XdR c.L G2 dd y → (c.L.isX y.cls = true → c.T.sub y.cls j = false → c.W (.ref (c.L.clA y.cls)) dd σ' H') → wAs c.L.K (.ref (c.L.clA j)) i (fun a cls d => fun D σ H => ∃ y, tSs (c.suit a cls d y) (b0 :: suite) D σ H) c.W D (.ref (c.L.clA y.cls)) dd σ' H' := fun hx dd G2 hdd st2 S2 xd hw => by
        refine ⟨c.T.sub y.cls j, M.m _ hx, fun hb a ha => ⟨y, ?_⟩, fun hb => hw hx hb⟩
        rw [if_pos hb] at q
        exact (hs _ _ _ _).run (S2.suit hX a _ _ y rfl hx hdd xd i) _ (PostS.unsuit (PostS.step q st2))
      have out : c.T.sub y.cls j = false → EOk c.L (c.E σ') (Frs H ι μ) G' H' y := fun hb => by
        rw [if_neg (by rw [hb]; exact Bool.false_ne_true), exHs_nil] at q
        exact q σ' G' H' ι' st S'
      cases y with
      | pl k => exact fun hx => go hx none G' (fun _ _ => rfl) st S' True.intro fun hx hb => out hb hx
      | fld k g d =>
        intro hx dd v fr h1 h2
        obtain ⟨k1, k2, k3⟩ := xd_in S'.hr st fr h1
        exact go hx (some dd) _ (fun _ e => nomatch e) k2 ⟨k1, S'.len, fun i v h => by
          obtain ⟨w, e1, e2⟩ := S'.sl i v h
          exact ⟨w, e1, e2.mono k3 fun _ _ h => h⟩⟩ ⟨dd, v, rfl, upd_same, dr_ex k3 h2⟩ fun hx hb => out hb hx dd v fr h1 h2
end
/-! ### a handler without a name -/
section
variable {c : Ctx}
theorem St.suit0 {G H : Hp} {σ : L2.St} {ι : Iot} {δ : Slots} {μ : Heap} (S : St c G H σ ι δ μ) (hx : ∀ w x, ¬ c.X.exv w x) (a : Addr) (cls : Value) (d : Option Addr) (x : Exn) : St (c.suit a cls d x) G H σ ι δ μ := ⟨S.hr, S.len, fun j v hj => by
    obtain ⟨w, h1, h2⟩ := S.sl j v hj
    refine ⟨w, h1, ?_⟩
    cases v with
    | d y => exact h2
    | ref k => exact h2
    | clo f cs => exact h2
    | exn y => exact (hx _ _ h2.1).elim⟩
theorem St.unsuit0 {G H : Hp} {σ : L2.St} {ι : Iot} {δ : Slots} {μ : Heap} {a : Addr} {cls : Value} {d : Option Addr} {x : Exn} (S : St (c.suit a cls d x) G H σ ι δ μ) : St c G H σ ι (clrX δ) μ :=
  ⟨S.hr, by rw [clr_len]; exact S.len, fun j v hj => by
    obtain ⟨h1, h2⟩ := clr_at hj
    obtain ⟨w, h3, h4⟩ := S.sl j v h1
    exact ⟨w, h3, VR.unsuit h4 h2⟩⟩
theorem PostS.unsuit0 {G H : Hp} {ι : Iot} {μ : Heap} {D : Ends} {a : Addr} {cls : Value} {d : Option Addr} {x : Exn} {r : RS} (q : PostS c G H ι μ D r.nos) : PostS (c.suit a cls d x) G H ι μ D r := by
  cases r with
  | bad => exact q.elimB
  | ex y δ' μ' => exact PostS.elimB q
  | ok δ' f μ' =>
    intro σ' G' H' ι' st S'
    cases f with
    | nx => exact q _ _ _ _ st S'.unsuit0
    | bk => exact q _ _ _ _ st S'.unsuit0
    | ct => exact q _ _ _ _ st S'.unsuit0
    | rt v =>
      intro w rv
      have rv : VR c.L (c.suit a cls d x).X G' ι' w v := rv
      have q : PostS c G H ι μ D (if noX v = true then .ok (clrX δ') (.rt v) μ' else .bad) := q
      by_cases hv : noX v = true
      · rw [if_pos hv] at q
        exact q _ _ _ _ st S'.unsuit0 w (VR.unsuit rv hv)
      · rw [if_neg hv] at q
        exact q.elimB
end
section
variable {c : Ctx} {x : Str} {body suite : List Stmt} {b0 : Stmt} {pos pos2 np : Pos} {sb ss : Ss} {j : Nat}
theorem sns_try0 (hc : c.calm = true) (hsu : c.su = none) (hX : ∀ w x, ¬ c.X.exv w x) (M : ExsAt c x j)
    (hb : ∀ W, SndSs (c.try_ W) body (exSs c.T c.R c.R1 sb)) (hs : ∀ a cls d y, SndSs (c.suit a cls d y) (b0 :: suite) (exSs c.T c.R c.R1 ss)) :
    SndS c (.Try body [.ExceptHandler (some (.Name x np)) none (b0 :: suite) pos2] [] [] pos) (exS c.T c.R c.R1 (.try_ sb (.cons [j] none ss .nil))) :=
  SndS.mk (t := fun D σ H => (fun W => tSs (c.try_ W) body) (wOnly c.L.K (.ref (c.L.clA j)) (fun a cls d => fun D σ H => ∃ y, tSs (c.suit a cls d y) (b0 :: suite) D σ H) c.W D) D σ H) (fun X f => by
    rw [← f.K]
    exact ps_try_only (tb := fun W => tSs (c.try_ W) body) (ts := fun a cls d => fun D σ H => ∃ y, tSs (c.suit a cls d y) (b0 :: suite) D σ H) (f.stk hc).1 (f.stk hc).2
      ⟨gl_of f.toFits M.g, M.d, .inl (by rw [f.mg]; exact M.n)⟩ f.take
      (fun W pn xe tk po => pss_tSs (fits_try f W tk po hsu)) (fun a oe cls d pn hz hf => ⟨fun pins s σ H D I ⟨y, q⟩ => (pss_tSs (fits_suit f y hz hf)).run pins s σ H D I q⟩)) fun {G H σ ι δ μ} S D q => by
    rw [exS_try] at q
    refine (hb _).run (S.try_ _) D ?_
    cases z : exSs c.T c.R c.R1 sb δ μ with
    | bad => rw [z] at q; exact q.elim
    | ok δ' f μ' => rw [z] at q; exact fun σ' G' H' ι' st S' => q σ' G' H' ι' st S'.untry
    | ex y δ' μ' =>
      rw [z] at q
      have q : PostS c G H ι μ D (exHs c.T c.R c.R1 (.cons [j] none ss .nil) y δ' μ') := q
      rw [exHs_cons, List.any_cons, List.any_nil, Bool.or_false] at q
      intro σ' G' H' ι' st S'
      have S' := S'.untry
      have go : c.L.isX y.cls = true → ∀ dd G2, Stp ι.length G H ι μ G2 H' ι' μ' → St c G2 H' σ' ι' δ' μ' → (c.L.isX y.cls = true → c.T.sub y.cls j = false → c.W (.ref (c.L.clA y.cls)) dd σ' H') → wOnly c.L.K (.ref (c.L.clA j)) (fun a cls d => fun D σ H => ∃ y, tSs (c.suit a cls d y) (b0 :: suite) D σ H) c.W D (.ref (c.L.clA y.cls)) dd σ' H' := fun hx dd G2 st2 S2 hw => by
        refine ⟨c.T.sub y.cls j, M.m _ hx, fun hb a ha => ⟨y, ?_⟩, fun hb => hw hx hb⟩
        rw [if_pos hb] at q
        exact (hs _ _ _ _).run (S2.suit0 hX a _ _ y) _ (PostS.unsuit0 (PostS.step q st2))
      have out : c.T.sub y.cls j = false → EOk c.L (c.E σ') (Frs H ι μ) G' H' y := fun hb => by
        rw [if_neg (by rw [hb]; exact Bool.false_ne_true), exHs_nil] at q
        exact q σ' G' H' ι' st S'
      cases y with
      | pl k => exact fun hx => go hx none G' st S' fun hx hb => out hb hx
      | fld k g d =>
        intro hx dd v fr h1 h2
        exact go hx (some dd) G' st S' fun hx hb => out hb hx dd v fr h1 h2
end
/-! ### isinstance of the exception that a suite holds -/
section
variable {c : Ctx} {R R1 : Run} {w : Bool} {p p1 p2 pos : Pos} {y n : Str} {i k : Nat}
theorem snd_isx (F : Free c "isinstance") (hN : c.N[i]? = some n) (hv : Vis c.sc n) (hd : (n == ("__debug__" : Str)) = false) (hcd : (n == ("__classdict__" : Str)) = false)
    (hxv : ∀ w x, c.X.exv w x → ∃ a, w = .ref a ∧ c.su = some (a, .ref (c.L.clA x.cls), c.X.dd) ∧ c.L.isX x.cls = true ∧ ∀ k, x = .pl k → c.X.dd = none) (hkt : ∀ j, c.L.isX j = true → ExcC c.L.K (c.L.clA j) ∧ PySem.W.kitOne c.L.K (.ref (c.L.clA j)) (.ref (c.L.clA k)) = some (c.T.sub j k))
    (hg : c.sc.names.lookup y = some .globalImplicit) (hm : c.mg y = some (.ref (c.L.clA k))) (hy : (y == ("__debug__" : Str)) = false) : SndE c (.Call (.Name "isinstance" p) [.Name n p1, .Name y p2] [] pos) (ev c.T c.R c.R1 (.blt (.isx [k]) w (.cons (.var i) .nil))) := .intro fun {G H σ ι δ μ} S Q q => by
  rw [ev_blt, evs_cons, bnd_assoc, ev_var] at q
  cases e : δ.at i with
  | none => rw [e] at q; exact q.elim
  | some v =>
    rw [e, opt_some, bnd_ok, evs_nil, bnd_ok, bnd_ok] at q
    obtain ⟨z, h1, h2⟩ := S.sl i v e
    have no : bltD c.T (.isx [k]) [v] μ = none → False := fun e2 => by
      rw [e2] at q; exact q.elim
    have hP : ∀ X, Fits c X → PA X [.Name n p1, .Name y p2] (tCons (tVar i) (tCons (tC (.ref (c.L.clA k))) tNil)) := fun X f => pa_cons (pe_var (by rw [f.N]; exact hN) (by rw [f.sc]; exact hv) hd hcd) (pa_cons (pe_glob (gl_of f hg) (by rw [f.mg]; exact hm) rfl hy) pa_nil (star_ok rfl _ _)) (star_ok rfl _ _)
    cases v with
    | d x => exact (no rfl).elim
    | ref j => exact (no rfl).elim
    | clo f cs => exact (no rfl).elim
    | exn x =>
      obtain ⟨h2, h3⟩ := h2
      obtain ⟨a, rfl, hsu, hx, hpl⟩ := hxv z x h2
      obtain ⟨hE, hK⟩ := hkt _ hx
      have e2 : bltD c.T (.isx [k]) [.exn x] μ = some (D.bl (c.T.sub x.cls k)) := by
        rw [isx_of', List.any_cons, List.any_nil, Bool.or_false]
      rw [e2] at q
      have qq := q.okD S.hr (.bl _)
      cases x with
      | pl j =>
        rw [hpl j rfl] at hsu
        refine ⟨tCB (rIsE c.L.K (c.L.clA j) a) (tCons (tVar i) (tCons (tC (.ref (c.L.clA k))) tNil)), fun X f => ?_, ?_⟩
        · have hP := hP X f
          have hgl := gl_of f F.g
          have hmg : X.mg "isinstance" = none := by rw [f.mg]; exact F.m
          have hK' := f.K
          obtain ⟨X0, oe, pn, rfl, hz, hf⟩ := f.su _ _ _ hsu
          refine pe_callB (r := rIsE c.L.K (c.L.clA j) a) ?_ hgl hmg (by with_unfolding_all rfl) hP (by decide) (by decide) (star_ok rfl _ _) (plain_args (es := [.Name y p2]) rfl _ _)
          rw [← hK']
          exact call_isE (X := X0) (by rw [show X0.K = c.L.K from hK']; exact hE) hz hf
        · exact ⟨.ref a, h1, .ref (c.L.clA k), .ref (c.L.clA k), c.T.sub j k, rfl, fun u r => r, hK, qq⟩
      | fld j f d =>
        obtain ⟨dd, v, e5, e6, e7⟩ := h3
        rw [e5] at hsu
        refine ⟨tCB (rIsD c.L.K (c.L.clA j) a dd) (tCons (tVar i) (tCons (tC (.ref (c.L.clA k))) tNil)), fun X f => ?_, ?_⟩
        · have hP := hP X f
          have hgl := gl_of f F.g
          have hmg : X.mg "isinstance" = none := by rw [f.mg]; exact F.m
          have hK' := f.K
          obtain ⟨X0, oe, pn, rfl, hz, hf⟩ := f.su _ _ _ hsu
          refine pe_callB (r := rIsD c.L.K (c.L.clA j) a dd) ?_ hgl hmg (by with_unfolding_all rfl) hP (by decide) (by decide) (star_ok rfl _ _) (plain_args (es := [.Name y p2]) rfl _ _)
          rw [← hK']
          exact call_isD (X := X0) (by rw [show X0.K = c.L.K from hK']; exact hE) hz hf
        · exact ⟨.ref a, h1, ⟨_, S.hr.gh _ _ e6⟩, .ref (c.L.clA k), .ref (c.L.clA k), c.T.sub j k, rfl, fun u r => r, hK, qq⟩
/-- the field of the exception that a suite holds -/
theorem snd_xat {f : Str} (hN : c.N[i]? = some n) (hv : Vis c.sc n) (hd : (n == ("__debug__" : Str)) = false) (hcd : (n == ("__classdict__" : Str)) = false)
    (hxv : ∀ w x, c.X.exv w x → ∃ a, w = .ref a ∧ c.su = some (a, .ref (c.L.clA x.cls), c.X.dd) ∧ c.L.isX x.cls = true ∧ ∀ k, x = .pl k → c.X.dd = none) (hkt : ∀ j, c.L.isX j = true → ExcC c.L.K (c.L.clA j) ∧ PySem.W.findIn c.L.K (.ref (c.L.clA j)) f = some none) :
    SndE c (.Attribute (.Name n p1) f pos) (ev c.T c.R c.R1 (.xat i f)) := .intro fun {G H σ ι δ μ} S Q q => by
  rw [ev_xat] at q
  cases e : δ.at i with
  | none => rw [e] at q; exact q.elim
  | some v =>
    rw [e] at q
    obtain ⟨z, h1, h2⟩ := S.sl i v e
    cases v with
    | d x => exact q.elim
    | ref j => exact q.elim
    | clo f cs => exact q.elim
    | exn x =>
      obtain ⟨h2, h3⟩ := h2
      obtain ⟨a, rfl, hsu, hx, hpl⟩ := hxv z x h2
      obtain ⟨hE, hK⟩ := hkt _ hx
      cases x with
      | pl j => exact q.elim
      | fld j g d =>
        obtain ⟨dd, v, e5, e6, e7⟩ := h3
        have q : Post c.L _ (RvV c.L c.X) G H ι μ Q (if g = f then .ok (.d d) μ else .bad) := q
        by_cases hgf : g = f
        · subst hgf
          rw [if_pos rfl] at q
          have qq := q.okD S.hr e7
          rw [e5] at hsu
          refine ⟨tXf a (.ref (c.L.clA j)) (some dd) (c.L.clA j) g (tVar i), fun X ft => ?_, ?_⟩
          · have hV : PE X (.Name n p1) (tVar i) := pe_var (by rw [ft.N]; exact hN) (by rw [ft.sc]; exact hv) hd hcd
            have hK' := ft.K
            obtain ⟨X0, oe, pn, rfl, hz, hf⟩ := ft.su _ _ _ hsu
            have hK0 : X0.K = c.L.K := hK'
            exact pe_xf (X := X0) (by rw [hK0]; exact ⟨hE.hg, hE.hk, hE.hs, hE.hd⟩) (by rw [hK0]; exact hK) hz hf hV (base_ok rfl _ _)
          · exact ⟨.ref a, h1, rfl, rfl, dd, _, v, rfl, S.hr.gh _ _ e6, by simp [List.lookup], qq⟩
        · rw [if_neg hgf] at q
          exact q.elim
end
end Mp
end
section
set_option Elab.async false
set_option linter.all false
set_option maxRecDepth 100000
set_option maxHeartbeats 2000000
namespace Mp
open PySem L2 PySem.Spec PyProof.Rows
/-! ### a text and its term -/
inductive Gk where
  | fn (f : Nat) | cl (k : Nat) | gl (g : Nat) | ex (k : Nat) | xc (k : Nat) | ef (k : Nat) | free
  deriving DecidableEq
structure Cs where
  N : List Str
  sc : Scope
  calm : Bool
  fn : Str → Bool
  gn : List (Str × Gk)
  fl : List Str
  me : List Str
  su : Bool
  xfl : List Str
  top : Bool
def nmOk (x : Str) : Bool := !(x == ("__debug__" : Str)) && !(x == ("__classdict__" : Str))
def Cs.isG (cs : Cs) (x : Str) (k : Gk) : Bool := decide (cs.sc.names.lookup x = some .globalImplicit) && decide (cs.gn.lookup x = some k) && nmOk x
def Cs.isV (cs : Cs) (x : Str) (i : Nat) : Bool := decide (cs.N[i]? = some x) && (decide (cs.sc.names.lookup x = some .local) || decide (cs.sc.names.lookup x = some .cell) || decide (cs.sc.names.lookup x = some .free)) && nmOk x
def Cs.isT (cs : Cs) (x : Str) (i : Nat) : Bool := decide (cs.N[i]? = some x) && (decide (cs.sc.names.lookup x = some .local) || (decide (cs.sc.names.lookup x = some .cell) && cs.fn x))
def Cs.blk (cs : Cs) (scope : Scope) : Cs := { cs with sc := relS scope cs.sc, fn := fun x => scope.names.lookup x == some .cell, su := false, top := false }
def Cs.suit (cs : Cs) : Cs := { cs with calm := false, su := true }
def restE (op : PySem.BoolOp) (y : Expr) (r : List Expr) (pos : Pos) : Expr := match r with
  | [] => y
  | z :: r => .BoolOp op (y :: z :: r) pos
def isCmp : Expr → Bool
  | .Compare _ _ _ _ => true
  | _ => false
def isCC : E → Bool
  | .cmp _ _ _ => true
  | .chn _ _ _ _ _ => true
  | _ => false
mutual
def ckE (cs : Cs) : E → Expr → Bool
  | .non, a => match a with
    | .Constant .none _ _ => true
    | _ => false
  | .bl b, a => match a with
    | .Constant (.bool c) _ _ => decide (b = c)
    | _ => false
  | .int i, a => match a with
    | .Constant (.int j) _ _ => decide (i = j)
    | _ => false
  | .str s, a => match a with
    | .Constant (.str z) _ _ => decide (s = z)
    | _ => false
  | .var i, a => match a with
    | .Name x _ => cs.isV x i
    | _ => false
  | .frz e, a => ckE cs e a
  | .frzD e, a => ckE cs e a
  | .dc _ t it c k v, a => match a with
    | .DictComp x y [⟨tg, i, ifs, 0⟩] scope _ => cs.calm && blkC cs.N cs.sc scope (ownOf cs.N (tgSlots t)) && okE i && ckI cs it tg i && ckG (cs.blk scope) t tg && ckC (cs.blk scope) c ifs && ckE (cs.blk scope) k x && ckE (cs.blk scope) v y
    | _ => false
  | .glb g, a => match a with
    | .Name x _ => cs.isG x (.gl g)
    | _ => false
  | .fnv f, a => match a with
    | .Name x _ => cs.isG x (.fn f)
    | _ => false
  | .bin op e1 e2, a => match a with
    | .BinOp x o y _ => decide (opOf op = o) && ckE cs e1 x && ckE cs e2 y
    | _ => false
  | .binL _ op e1 e2, a => match a with
    | .BinOp x o y _ => decide (opOf op = o) && ckE cs e1 x && ckE cs e2 y
    | _ => false
  | .neg e, a => match a with
    | .UnaryOp .USub x _ => ckE cs e x
    | _ => false
  | .not e, a => match a with
    | .UnaryOp .Not x _ => ckE cs e x
    | _ => false
  | .and e1 e2, a => match a with
    | .BoolOp .And (x :: y :: r) pos => ckE cs e1 x && ckE cs e2 (restE .And y r pos)
    | _ => false
  | .or e1 e2, a => match a with
    | .BoolOp .Or (x :: y :: r) pos => ckE cs e1 x && ckE cs e2 (restE .Or y r pos)
    | _ => false
  | .cmp op e1 e2, a => match a with
    | .Compare x [o] [y] _ => decide (opC op = o) && okE y && ckE cs e1 x && ckE cs e2 y
    | _ => false
  | .chn o1 o2 e1 e2 e3, a => match a with
    | .Compare x [p, q] [y, z] _ => decide (opC o1 = p) && decide (opC o2 = q) && okE y && okE z && ckE cs e1 x && ckE cs e2 y && ckE cs e3 z
    | _ => false
  | .ife t e1 e2, a => match a with
    | .IfExp d x y _ => ckT cs t d && ckE cs e1 x && ckE cs e2 y
    | _ => false
  | .idx e1 e2, a => match a with
    | .Subscript x y _ => okE y && ckE cs e1 x && ckE cs e2 y
    | _ => false
  | .slc _ e lo hi, a => match a with
    | .Subscript x (.Slice l h none _) _ => ckE cs e x && ckO cs lo l && ckO cs hi h
    | _ => false
  | .bck _ e, a => match a with
    | .Subscript x (.Slice none none (some (.UnaryOp .USub (.Constant (.int 1) _ _) _)) _) _ => ckE cs e x
    | _ => false
  | .att e f, a => match a with
    | .Attribute x g _ => decide (f = g) && cs.fl.contains f && nsE x && ckE cs e x
    | _ => false
  | .tup es, a => match a with
    | .Tuple xs _ _ => ckS cs es xs
    | _ => false
  | .lst _ es, a => match a with
    | .List xs _ => ckS cs es xs
    | _ => false
  | .dsp w es, a => match a with
    | .Dict ks vs _ => match ks, vs, es with
      | [], [], .nil => true
      | _, _, _ => !w && decide (ks ≠ []) && decide (ks.length ≤ 15) && ckP cs es ks vs
    | _ => false
  | .cal f es, a => match a with
    | .Call (.Name x _) [] [] _ => match es with
      | .nil => cs.calm && cs.isG x (.fn f)
      | _ => false
    | .Call (.Name x _) (y :: ys) [] _ => cs.calm && cs.isG x (.fn f) && (y :: ys).all okE && ckS cs es (y :: ys)
    | _ => false
  | .cai f es, a => match a with
    | .Call (.Name x _) (y :: ys) [] _ => cs.calm && cs.isG x (.fn f) && (y :: ys).all okE && ckS cs es (y :: ys)
    | _ => false
  | .met m o es, a => match a with
    | .Call (.Attribute x g p) ys [] pos => cs.calm && decide (m = g) && cs.me.contains m && nsE x && (p.endLine == pos.line) && ys.all okE && decide (ys.length < 30) && ckE cs o x && ckS cs es ys
    | _ => false
  | .mk k es, a => match a with
    | .Call (.Name x _) (y :: ys) [] _ => cs.calm && cs.isG x (.cl k) && (y :: ys).all okE && ckS cs es (y :: ys)
    | _ => false
  | .blt b _ es, a => match b with
    | .isi ts => match a, ts, es with
      | .Call (.Name x _) [y, .Name z _] [] _, [t], .cons e .nil => decide (x = "isinstance") && cs.isG x .free && decide (tyName t = some z) && cs.isG z .free && okE y && ckE cs e y
      | _, _, _ => false
    | .maxd => match a, es with
      | .Call (.Name x _) [y] [⟨some n, z, _⟩] _, .cons e1 es2 => cs.calm && decide (x = "max") && cs.isG x .free && decide (n = "default") && okE y && ckE cs e1 y && ckOne cs es2 z
      | _, _ => false
    | .isx ks => match a, ks, es with
      | .Call (.Name x _) [.Name n _, .Name z _] [] _, [k], .cons (.var i) .nil => cs.su && decide (x = "isinstance") && cs.isG x .free && cs.isV n i && (cs.isG z (.ex k) || (cs.isG z (.xc k) || cs.isG z (.ef k)))
      | _, _, _ => false
    | b => match a with
      | .Call (.Name x _) (y :: ys) [] _ => (match bName b with
        | some (n, _) => decide (n = x)
        | none => false) && cs.isG x .free && (!bCalm b || cs.calm) && (y :: ys).all okE && ckS cs es (y :: ys)
      | _ => false
  | .bme m _ o es, a => match m with
    | .get1 => match a with
      | .Call (.Attribute x g p) [y] [] pos => decide (g = "get") && nsE x && (p.endLine == pos.line) && okE y && ckE cs o x && ckS cs es [y]
      | _ => false
    | .get2 => match a with
      | .Call (.Attribute x g p) [y, z] [] pos => decide (g = "get") && nsE x && (p.endLine == pos.line) && okE y && okE z && ckE cs o x && ckS cs es [y, z]
      | _ => false
    | .update => match a with
      | .Call (.Attribute x g p) [y] [] pos => decide (g = "update") && nsE x && (p.endLine == pos.line) && okE y && ckE cs o x && ckS cs es [y]
      | _ => false
    | m => match a with
      | .Call (.Attribute x g p) (y :: ys) [] pos => (match mName m with
        | some (_, _, n) => decide (n = g)
        | none => false) && nsE x && (p.endLine == pos.line) && (y :: ys).all okE && decide ((y :: ys).length < 30) && ckE cs o x && ckS cs es (y :: ys)
      | _ => false
  | .lc _ t it c e, a => match a with
    | .ListComp x [⟨tg, i, ifs, 0⟩] scope _ => cs.calm && blkC cs.N cs.sc scope (ownOf cs.N (tgSlots t)) && okE i && ckI cs it tg i && ckG (cs.blk scope) t tg && ckC (cs.blk scope) c ifs && ckE (cs.blk scope) e x
    | _ => false
  | .lcE _ t it c e, a => match a with
    | .ListComp x [⟨tg, i, ifs, 0⟩] scope _ => cs.top && cs.calm && blkC cs.N cs.sc scope (ownOf cs.N (tgSlots t)) && okE i && ckI cs it tg i && ckG (cs.blk scope) t tg && ckC (cs.blk scope) c ifs && ckE (cs.blk scope) e x
    | _ => false
  | .xat i f, a => match a with
    | .Attribute (.Name n _) g _ => cs.su && decide (f = g) && cs.xfl.contains f && cs.isV n i
    | _ => false
  | _, _ => false
termination_by structural x => x
def ckT (cs : Cs) : Tt → Expr → Bool
  | .val e, a => ((isCmp a && isCC e) || pltE a) && ckE cs e a
  | .not t, a => match a with
    | .UnaryOp .Not x _ => ckT cs t x
    | _ => false
  | .and s t, a => match a with
    | .BoolOp .And (x :: y :: r) pos => ckT cs s x && ckT cs t (restE .And y r pos)
    | _ => false
  | .or s t, a => match a with
    | .BoolOp .Or (x :: y :: r) pos => ckT cs s x && ckT cs t (restE .Or y r pos)
    | _ => false
  | .ife _ _ _, _ => false
termination_by structural x => x
def ckS (cs : Cs) : Es → List Expr → Bool
  | .nil, as => match as with
    | [] => true
    | _ => false
  | .cons e es, as => match as with
    | a :: as => okE a && ckE cs e a && ckS cs es as
    | _ => false
  | .star e es, as => match as with
    | .Starred a _ :: as => cs.calm && (ckE cs e a && ckS cs es as)
    | _ => false
termination_by structural x => x
def ckOne (cs : Cs) : Es → Expr → Bool
  | .nil, _ => false
  | .cons e es, a => (match es with
    | .nil => true
    | _ => false) && ckE cs e a
  | .star _ _, _ => false
termination_by structural x => x
def ckP (cs : Cs) : Es → List (Option Expr) → List Expr → Bool
  | .nil, ks, vs => match ks, vs with
    | [], [] => true
    | _, _ => false
  | .cons e es, ks, vs => match es with
    | .cons e2 es2 => match ks, vs with
      | some a :: ks, b :: vs => ckE cs e a && (ckE cs e2 b && ckP cs es2 ks vs)
      | _, _ => false
    | _ => false
  | .star _ _, _, _ => false
termination_by structural x => x
def ckO (cs : Cs) : EO → Option Expr → Bool
  | .no, o => match o with
    | none => true
    | _ => false
  | .so e, o => match o with
    | some a => ckE cs e a
    | _ => false
termination_by structural x => x
def ckC (cs : Cs) : TO → List Expr → Bool
  | .no, as => match as with
    | [] => true
    | _ => false
  | .so t, as => match as with
    | [a] => ckT cs t a
    | _ => false
termination_by structural x => x
def ckI (cs : Cs) : It → Expr → Expr → Bool
  | .val e, _, a => ckE cs e a
  | .rng1 e, _, a => match a with
    | .Call (.Name n _) [x] [] _ => decide (n = "range") && cs.isG n .free && okE x && ckE cs e x
    | _ => false
  | .rng2 e1 e2, _, a => match a with
    | .Call (.Name n _) [x, y] [] _ => decide (n = "range") && cs.isG n .free && okE x && okE y && ckE cs e1 x && ckE cs e2 y
    | _ => false
  | .vals e, _, a => match a with
    | .Call (.Attribute x m p) [] [] pos => decide (m = "values") && nsE x && (p.endLine == pos.line) && ckE cs e x
    | _ => false
  | .itms e, tg, a => match a, tg with
    | .Call (.Attribute x m p) [] [] pos, .Tuple _ _ _ => decide (m = "items") && nsE x && (p.endLine == pos.line) && ckE cs e x
    | _, _ => false
  | .keys e, _, a => ckE cs e a
  | .enm e, tg, a => match a, tg with
    | .Call (.Name n _) [x] [] _, .Tuple _ _ _ => decide (n = "enumerate") && cs.isG n .free && okE x && ckE cs e x
    | _, _ => false
  | .zip e1 e2, tg, a => match a, tg with
    | .Call (.Name n _) [x, y] [] _, .Tuple _ _ _ => decide (n = "zip") && cs.isG n .free && okE x && okE y && ckE cs e1 x && ckE cs e2 y
    | _, _ => false
  | _, _, _ => false
termination_by structural x => x
def ckG (cs : Cs) : Tg → Expr → Bool
  | .nm i, a => match a with
    | .Name x _ => cs.isT x i
    | _ => false
  | .tp ts, a => match a with
    | .Tuple xs _ _ => cs.calm && xs.all okE && decide (xs.length = tgsLen ts) && ckGs cs ts xs
    | _ => false
  | .sub e1 e2, a => match a with
    | .Subscript x y _ => okE y && ckE cs e1 x && ckE cs e2 y
    | _ => false
  | _, _ => false
termination_by structural x => x
def ckGs (cs : Cs) : Tgs → List Expr → Bool
  | .nil, as => match as with
    | [] => true
    | _ => false
  | .cons t ts, as => match as with
    | a :: as => okE a && ckG cs t a && ckGs cs ts as
    | _ => false
termination_by structural x => x
end
mutual
def ckSt (cs : Cs) : Mp.S → Stmt → Bool
  | .asg t e, st => match st with
    | .Assign [b] a pos => match t, b with
      | .nm i, .Name x p => match e, a with
        | .lc w t' it c e', .ListComp y [⟨tg, i', ifs, 0⟩] scope p2 => (decide (cs.N[i]? = some x) && decide (cs.sc.names.lookup x = some .cell) && cs.fn x && ckE cs (.lc w t' it c e') (.ListComp y [⟨tg, i', ifs, 0⟩] scope p2)) || cs.calm && decide (cs.N[i]? = some x) && decide (cs.sc.names.lookup x = some .local) && decide (cs.sc.kind = .function) && (p.line == p2.line) && !(scope.names.any fun (n, k) => n == x && (k == .local || k == .cell)) &&
            blkC cs.N cs.sc scope (ownOf cs.N (tgSlots t')) && okE i' && ckI cs it tg i' && ckG (cs.blk scope) t' tg && ckC (cs.blk scope) c ifs && ckE (cs.blk scope) e' y
        | .lcE w t' it c e', .ListComp y [⟨tg, i', ifs, 0⟩] scope p2 => (decide (cs.N[i]? = some x) && decide (cs.sc.names.lookup x = some .cell) && cs.fn x && ckE cs (.lcE w t' it c e') (.ListComp y [⟨tg, i', ifs, 0⟩] scope p2)) || cs.top && cs.calm && decide (cs.N[i]? = some x) && decide (cs.sc.names.lookup x = some .local) && decide (cs.sc.kind = .function) && (p.line == p2.line) && !(scope.names.any fun (n, k) => n == x && (k == .local || k == .cell)) &&
            blkC cs.N cs.sc scope (ownOf cs.N (tgSlots t')) && okE i' && ckI cs it tg i' && ckG (cs.blk scope) t' tg && ckC (cs.blk scope) c ifs && ckE (cs.blk scope) e' y
        | .dc w t' it c k v, .DictComp y z [⟨tg, i', ifs, 0⟩] scope p2 => cs.calm && decide (cs.N[i]? = some x) && decide (cs.sc.names.lookup x = some .local) && decide (cs.sc.kind = .function) && (p.line == p2.line) && !(scope.names.any fun (n, k) => n == x && (k == .local || k == .cell)) &&
            blkC cs.N cs.sc scope (ownOf cs.N (tgSlots t')) && okE i' && ckI cs it tg i' && ckG (cs.blk scope) t' tg && ckC (cs.blk scope) c ifs && ckE (cs.blk scope) k y && ckE (cs.blk scope) v z
        | e, a => ncE a && cs.isT x i && ckE cs e a
      | .att o f, .Attribute x g _ => decide (f = g) && cs.fl.contains f && ckE cs e a && ckE cs o x
      | .tp (.cons (.nm i) (.cons (.nm j) .nil)), .Tuple [.Name x px, .Name y py] kt pt => (ncE a && noTup (.Tuple [.Name x px, .Name y py] kt pt) a && ckE cs e a && ckG cs (.tp (.cons (.nm i) (.cons (.nm j) .nil))) (.Tuple [.Name x px, .Name y py] kt pt)) || (match e, a with
        | .tup es, .Tuple [a1, b1] _ _ => cs.calm && decide (cs.N[i]? = some x) && decide (cs.N[j]? = some y) && decide (i ≠ j) && parB cs.sc x y px py a1 b1 && ckS cs es [a1, b1]
        | _, _ => false)
      | t, b => ncT b a && okE b && noTup b a && ckE cs e a && ckG cs t b
    | _ => false
  | .asg2 t u e, st => match st with
    | .Assign [b1, b2] a _ => okE b1 && okE b2 && ckE cs e a && ckG cs t b1 && ckG cs u b2
    | _ => false
  | .aug t op e, st => match st, t with
    | .AugAssign (.Name x _) o a _, .nm i => (decide (op = .add) || decide (op = .sub)) && decide (opOf op = o) && cs.isT x i && ckE cs e a
    | _, _ => false
  | .expr e, st => match st with
    | .Expr a _ => ncE a && ckE cs e a
    | _ => false
  | .ret e, st => match st with
    | .Return (some a) _ => ckE cs e a
    | _ => false
  | .retN, st => match st with
    | .Return none _ => true
    | _ => false
  | .ife t s1 s2, st => match st with
    | .If a b1 b2 _ => ckT cs t a && ckSs cs s1 b1 && ckSs cs s2 b2
    | _ => false
  | .for_ _ t it b, st => match st with
    | .For tg i body [] _ => cs.calm && okE i && ckI cs it tg i && ckG cs t tg && ckSs cs b body
    | _ => false
  | .whl _ t b, st => match st with
    | .While a body [] _ => cs.calm && ckT cs t a && ckSs cs b body
    | _ => false
  | .raise k es, st => match st, es with
    | .Raise (some (.Call (.Name x _) [a] [] _)) none _, .cons e .nil => cs.calm && (cs.isG x (.ex k) || cs.isG x (.ef k)) && okE a && ckE cs e a
    | _, .nil => true
    | _, _ => false
  | .try_ b hs, st => match st with
    | .Try body [.ExceptHandler (some (.Name x _)) n (b0 :: suite) _] [] [] _ => cs.calm && ckSs cs b body && ckH cs hs x n (b0 :: suite)
    | _ => false
  | .pass, st => match st with
    | .Pass _ => true
    | _ => false
  | .brk, st => match st with
    | .Break _ => true
    | _ => false
  | .cont, st => match st with
    | .Continue _ => true
    | _ => false
  | _, _ => false
termination_by structural x => x
def ckSs (cs : Cs) : Ss → List Stmt → Bool
  | .nil, sts => match sts with
    | [] => true
    | _ => false
  | .cons s ss, sts => match sts with
    | st :: sts => ckSt cs s st && ckSs cs ss sts
    | _ => false
  | .kill _ ss, sts => ckSs cs ss sts
termination_by structural x => x
def ckH (cs : Cs) : Hs → Str → Option Str → List Stmt → Bool
  | .cons ks as_ ss hs, x, n, suite => match ks, as_, hs, n with
    | [j], none, .nil, none => (cs.isG x (.ex j) || cs.isG x (.ef j)) && ckSs cs.suit ss suite
    | [j], some i, .nil, some n => (cs.isG x (.ex j) || cs.isG x (.ef j)) && decide (cs.N[i]? = some n) && decide (cs.sc.names.lookup n = some .local) && ckSs cs.suit ss suite
    | _, _, _, _ => false
  | .nil, _, _, _ => false
termination_by structural x => x
end
end Mp
end
section
set_option Elab.async false
set_option linter.all false
set_option maxRecDepth 100000
set_option maxHeartbeats 2000000
namespace Mp
open PySem L2 PySem.Spec PyProof.Rows
/-- the checker's facts are the context's -/
structure Gd (c : Ctx) (cs : Cs) : Prop where
  N : c.N = cs.N
  sc : c.sc = cs.sc
  calm : c.calm = cs.calm
  fn : c.fn = cs.fn
  top : c.top = cs.top
  nfn : ∀ x f, cs.gn.lookup x = some (.fn f) → c.mg x = some (.ref (c.L.fnA f)) ∧ c.FnAt c.k f
  ncl : ∀ x k, cs.gn.lookup x = some (.cl k) → c.mg x = some (.ref (c.L.clA k)) ∧ c.L.isO k = true ∧ ∃ f, c.T.init k = some f ∧ Mk c.L.K (c.L.clA k) (c.L.fnA f) ∧ (∃ fd ps, Binds c.L.K fd ps []) ∧ ∀ j, c.k = j + 1 → c.FnAt j f
  ngl : ∀ x g, cs.gn.lookup x = some (.gl g) → ∃ d v u, c.T.gl g = some d ∧ c.mg x = some u ∧ RelV v u ∧ ∀ {G}, Dr c.L G v d
  nex : ∀ x k, cs.gn.lookup x = some (.ex k) → c.T.exk k = .pl ∧ c.mg x = some (.ref (c.L.clA k)) ∧ PySem.W.excIn c.L.K (c.L.clA k) He.veBase "ValueError.__new__" = true ∧ PySem.W.keepIn c.L.K (.ref (c.L.clA k)) = true ∧ PySem.W.subIn c.L.K (.ref (c.L.clA k)) (.type "BaseException") = some true ∧ PySem.W.typeIn c.L.K (.ref (c.L.clA k)) = some (.type "type") ∧ c.L.isX k = true ∧ ∀ j, c.L.isX j = true → PySem.W.exmOne c.L.K (.ref (c.L.clA j)) (.ref (c.L.clA k)) = some (c.T.sub j k)
  nfr : ∀ x, cs.gn.lookup x = some .free → c.mg x = none
  fl : ∀ f, cs.fl.contains f = true → FldAt c f
  me : ∀ m, cs.me.contains m = true → MetAt c m
  su : cs.calm = true → c.su = none ∧ ∀ w x, ¬ c.X.exv w x
  nxc : ∀ x k, cs.gn.lookup x = some (.xc k) → c.mg x = some (.ref (c.L.clA k)) ∧ c.L.isX k = true
  xv : cs.su = true → ∀ w x, c.X.exv w x → ∃ a, w = .ref a ∧ c.su = some (a, .ref (c.L.clA x.cls), c.X.dd) ∧ c.L.isX x.cls = true ∧ ∀ k, x = .pl k → c.X.dd = none
  kit : ∀ j k, c.L.isX j = true → c.L.isX k = true → ExcC c.L.K (c.L.clA j) ∧ PySem.W.kitOne c.L.K (.ref (c.L.clA j)) (.ref (c.L.clA k)) = some (c.T.sub j k)
  nef : ∀ x k, cs.gn.lookup x = some (.ef k) → c.mg x = some (.ref (c.L.clA k)) ∧ c.L.isX k = true ∧ (∀ j, c.L.isX j = true → PySem.W.exmOne c.L.K (.ref (c.L.clA j)) (.ref (c.L.clA k)) = some (c.T.sub j k)) ∧ ∃ f, c.T.exk k = .fld f ∧ OexC c.L.K (c.L.clA k) ∧
    ∃ fI fd ps, PySem.W.findIn c.L.K (.ref (c.L.clA k)) "__init__" = some (some (.ref fI)) ∧ PySem.W.typeIn c.L.K (.ref fI) = some (.type "function") ∧ FnOk c.P c.w c.L.K c.mg c.base (L2.CX c.P c.w) 1 fI fd ps (spIni (c.L.clA k) f) ∧ Binds c.L.K fd ps []
  xno : ∀ j f, c.L.isX j = true → cs.xfl.contains f = true → PySem.W.findIn c.L.K (.ref (c.L.clA j)) f = some none
theorem Gd.blk {c : Ctx} {cs : Cs} (g : Gd c cs) (scope : Scope) : Gd (c.blk scope) (cs.blk scope) :=
  ⟨g.N, by show relS scope c.sc = relS scope cs.sc; rw [g.sc], g.calm, rfl, rfl, g.nfn, g.ncl, g.ngl, g.nex, g.nfr, fun f h => ⟨(g.fl f h).no⟩, fun m h => ⟨(g.me m h).ok⟩, fun h => ⟨rfl, (g.su h).2⟩, g.nxc, (fun h => nomatch h), g.kit, g.nef, g.xno⟩
theorem Gd.blkX {c : Ctx} {cs : Cs} (g : Gd c cs) (σ : L2.St) (scope : Scope) : Gd (c.blkX σ scope) (cs.blk scope) :=
  ⟨g.N, by show relS scope c.sc = relS scope cs.sc; rw [g.sc], g.calm, rfl, rfl, g.nfn, g.ncl, g.ngl, g.nex, g.nfr, fun f h => ⟨(g.fl f h).no⟩, fun m h => ⟨(g.me m h).ok⟩, fun h => ⟨rfl, (g.su h).2⟩, g.nxc, (fun h => nomatch h), g.kit, g.nef, g.xno⟩
theorem Gd.try_ {c : Ctx} {cs : Cs} (g : Gd c cs) (W : L2.WX) : Gd (c.try_ W) cs :=
  ⟨g.N, g.sc, g.calm, g.fn, g.top, g.nfn, g.ncl, g.ngl, g.nex, g.nfr, fun f h => ⟨(g.fl f h).no⟩, fun m h => ⟨(g.me m h).ok⟩, fun h => ⟨(g.su h).1, (g.su h).2⟩, g.nxc, g.xv, g.kit, g.nef, g.xno⟩
theorem Gd.suit {c : Ctx} {cs : Cs} (g : Gd c cs) (a : Addr) (cls : Value) (d : Option Addr) (x : Exn) : Gd (c.suit a cls d x) cs.suit :=
  ⟨g.N, g.sc, rfl, g.fn, g.top, g.nfn, g.ncl, g.ngl, g.nex, g.nfr, fun f h => ⟨(g.fl f h).no⟩, fun m h => ⟨(g.me m h).ok⟩, (fun h => nomatch h), g.nxc, (fun _ w y ⟨h1, h2, h3, h4, h5⟩ => by subst h2; subst h3; exact ⟨a, h1, rfl, h4, h5⟩), g.kit, g.nef, g.xno⟩
section
variable {c : Ctx} {cs : Cs}
theorem nm_ok {x : Str} (h : nmOk x = true) : (x == ("__debug__" : Str)) = false ∧ (x == ("__classdict__" : Str)) = false := by
  unfold nmOk at h
  rw [Bool.and_eq_true, Bool.not_eq_true', Bool.not_eq_true'] at h
  exact h
theorem Gd.isG (g : Gd c cs) {x : Str} {k : Gk} (h : cs.isG x k = true) : c.sc.names.lookup x = some .globalImplicit ∧ cs.gn.lookup x = some k ∧ (x == ("__debug__" : Str)) = false := by
  unfold Cs.isG at h
  rw [Bool.and_eq_true, Bool.and_eq_true, decide_eq_true_eq, decide_eq_true_eq] at h
  exact ⟨by rw [g.sc]; exact h.1.1, h.1.2, (nm_ok h.2).1⟩
theorem Gd.isV (g : Gd c cs) {x : Str} {i : Nat} (h : cs.isV x i = true) : c.N[i]? = some x ∧ Vis c.sc x ∧ (x == ("__debug__" : Str)) = false ∧ (x == ("__classdict__" : Str)) = false := by
  unfold Cs.isV at h
  simp only [Bool.and_eq_true, Bool.or_eq_true, decide_eq_true_eq] at h
  refine ⟨by rw [g.N]; exact h.1.1, ?_, nm_ok h.2⟩
  rw [g.sc]
  rcases h.1.2 with (z | z) | z
  · exact .inl z
  · exact .inr (.inl z)
  · exact .inr (.inr z)
theorem Gd.isT (g : Gd c cs) {x : Str} {i : Nat} (h : cs.isT x i = true) : c.N[i]? = some x ∧ (c.sc.names.lookup x = some .local ∨ (c.sc.names.lookup x = some .cell ∧ c.fn x = true)) := by
  unfold Cs.isT at h
  simp only [Bool.and_eq_true, Bool.or_eq_true, decide_eq_true_eq] at h
  exact ⟨by rw [g.N]; exact h.1, by rw [g.sc, g.fn]; exact h.2⟩
theorem Gd.free (g : Gd c cs) {x : Str} (h : cs.isG x .free = true) : Free c x := by
  obtain ⟨h1, h2, _⟩ := g.isG h
  exact ⟨h1, g.nfr x h2⟩
theorem Gd.def_ (g : Gd c cs) {x : Str} {f : Nat} (h : cs.isG x (.fn f) = true) : DefAt c x f := by
  obtain ⟨h1, h2, h3⟩ := g.isG h
  obtain ⟨h4, h5⟩ := g.nfn x f h2
  exact ⟨h1, h4, h3, h5⟩
theorem Gd.cls (g : Gd c cs) {x : Str} {k : Nat} (h : cs.isG x (.cl k) = true) : MkAt c x k := by
  obtain ⟨h1, h2, h3⟩ := g.isG h
  obtain ⟨h4, h5, h6⟩ := g.ncl x k h2
  exact ⟨h1, h4, h3, h5, h6⟩
theorem Gd.exa (g : Gd c cs) {x : Str} {k : Nat} (h : cs.isG x (.ex k) = true) : ExAt c x k ∧ c.T.exk k = .pl := by
  obtain ⟨h1, h2, h3⟩ := g.isG h
  obtain ⟨h0, h4, h5, h6, h7, h8, h9, _⟩ := g.nex x k h2
  exact ⟨⟨h1, h4, h3, h5, h6, h7, h8, h9⟩, h0⟩
theorem Gd.efa (g : Gd c cs) {x : Str} {k : Nat} (h : cs.isG x (.ef k) = true) : ∃ f, EfAt c x k f ∧ c.T.exk k = .fld f := by
  obtain ⟨h1, h2, h3⟩ := g.isG h
  obtain ⟨h4, h5, _, f, h6, h7, h8⟩ := g.nef x k h2
  exact ⟨f, ⟨h1, h4, h3, h5, h7, h8⟩, h6⟩
theorem Gd.exs (g : Gd c cs) {x : Str} {k : Nat} (h : (cs.isG x (.ex k) || cs.isG x (.ef k)) = true) : ExsAt c x k := by
  rw [Bool.or_eq_true] at h
  rcases h with h | h
  rotate_left
  · obtain ⟨h1, h2, h3⟩ := g.isG h
    obtain ⟨h4, h5, h6, _⟩ := g.nef x k h2
    exact ⟨h1, h3, h4, h6⟩
  obtain ⟨h1, h2, h3⟩ := g.isG h
  obtain ⟨h0, h4, h5, h6, h7, h8, h9, h10⟩ := g.nex x k h2
  exact ⟨h1, h3, h4, h10⟩
theorem rest_e {op : PySem.BoolOp} {y : Expr} {r : List Expr} {pos : Pos} {m : Slots → Heap → Res Val} (h : SndE c (restE op y r pos) m) : SndE c (.BoolOp op (y :: r) pos) m := by
  cases r with
  | nil => exact snd_one h
  | cons z r => exact h
theorem rest_t {op : PySem.BoolOp} {y : Expr} {r : List Expr} {pos : Pos} {m : Slots → Heap → Res Bool} (h : SndT c (restE op y r pos) m) : SndW c (.BoolOp op (y :: r) pos) m := by
  cases r with
  | nil => cases op with
    | And => exact snw_and1 h
    | Or => exact snw_or1 h
  | cons z r => exact h.toW
end
section
variable {c : Ctx} {cs : Cs}
theorem Gd.isx (g : Gd c cs) {z : Str} {k : Nat} (h : (cs.isG z (.ex k) || (cs.isG z (.xc k) || cs.isG z (.ef k))) = true) : c.sc.names.lookup z = some .globalImplicit ∧ c.mg z = some (.ref (c.L.clA k)) ∧ (z == ("__debug__" : Str)) = false ∧ c.L.isX k = true := by
  rw [Bool.or_eq_true, Bool.or_eq_true] at h
  rcases h with h | h | h
  rotate_left 2
  · obtain ⟨h1, h2, h3⟩ := g.isG h
    obtain ⟨h4, h5, _⟩ := g.nef z k h2
    exact ⟨h1, h4, h3, h5⟩
  · obtain ⟨h1, h2, h3⟩ := g.isG h
    obtain ⟨_, h4, _, _, _, _, h5, _⟩ := g.nex z k h2
    exact ⟨h1, h4, h3, h5⟩
  · obtain ⟨h1, h2, h3⟩ := g.isG h
    obtain ⟨h4, h5⟩ := g.nxc z k h2
    exact ⟨h1, h4, h3, h5⟩
end
end Mp
end
section
set_option Elab.async false
set_option linter.all false
set_option maxRecDepth 100000
set_option maxHeartbeats 4000000
namespace Mp
open PySem L2 PySem.Spec PyProof.Rows
theorem imp_of {a b : Bool} (h : (!a || b) = true) : a = true → b = true := fun z => by rw [z] at h; exact h
theorem all_cons_or {α : Type} {p : α → Bool} {y : α} {ys : List α} (h : (y :: ys).all p = true) : p y = true ∧ ys.all p = true := by rw [List.all_cons, Bool.and_eq_true] at h; exact h
mutual
theorem sndE : ∀ (e : E) {c : Ctx} {cs : Cs} {a : Expr}, Gd c cs → ckE cs e a = true → SndE c a (ev c.T c.R c.R1 e)
  | .non, c, cs, a, g, h => by
    unfold ckE at h; split at h
    · exact snd_non
    · cases h
  | .bl b, c, cs, a, g, h => by
    unfold ckE at h; split at h
    · have h := of_decide_eq_true h; subst h; exact snd_bl
    · cases h
  | .int i, c, cs, a, g, h => by
    unfold ckE at h; split at h
    · have h := of_decide_eq_true h; subst h; exact snd_int
    · cases h
  | .str s, c, cs, a, g, h => by
    unfold ckE at h; split at h
    · have h := of_decide_eq_true h; subst h; exact snd_str
    · cases h
  | .var i, c, cs, a, g, h => by
    unfold ckE at h; split at h
    · obtain ⟨h1, h2, h3, h4⟩ := g.isV h; exact snd_var h1 h2 h3 h4
    · cases h
  | .frz e, c, cs, a, g, h => by
    unfold ckE at h; exact snd_frz (sndE e g h)
  | .glb k, c, cs, a, g, h => by
    unfold ckE at h; split at h
    · obtain ⟨h1, h2, h3⟩ := g.isG h
      obtain ⟨d, v, u, k1, k2, k3, k4⟩ := g.ngl _ _ h2
      exact snd_glb k1 h1 k2 k3 k4 h3
    · cases h
  | .fnv f, c, cs, a, g, h => by
    unfold ckE at h; split at h
    · obtain ⟨h1, h2, h3⟩ := g.isG h
      exact snd_fnv h1 (g.nfn _ _ h2).1 h3
    · cases h
  | .bin op e1 e2, c, cs, a, g, h => by
    unfold ckE at h; split at h
    · simp only [Bool.and_eq_true, decide_eq_true_eq] at h
      obtain ⟨⟨h0, h1⟩, h2⟩ := h
      subst h0
      exact snd_bin (sndE e1 g h1) (sndE e2 g h2)
    · cases h
  | .binL w op e1 e2, c, cs, a, g, h => by
    unfold ckE at h; split at h
    · simp only [Bool.and_eq_true, decide_eq_true_eq] at h
      obtain ⟨⟨h0, h1⟩, h2⟩ := h
      subst h0
      exact snd_binL (sndE e1 g h1) (sndE e2 g h2)
    · cases h
  | .neg e, c, cs, a, g, h => by
    unfold ckE at h; split at h
    · exact snd_neg (sndE e g h)
    · cases h
  | .not e, c, cs, a, g, h => by
    unfold ckE at h; split at h
    · exact snd_not (sndE e g h)
    · cases h
  | .and e1 e2, c, cs, a, g, h => by
    unfold ckE at h; split at h
    · rw [Bool.and_eq_true] at h
      exact snd_and (op2 := []) (sndE e1 g h.1) (rest_e (sndE e2 g h.2))
    · cases h
  | .or e1 e2, c, cs, a, g, h => by
    unfold ckE at h; split at h
    · rw [Bool.and_eq_true] at h
      exact snd_or (sndE e1 g h.1) (rest_e (sndE e2 g h.2))
    · cases h
  | .cmp op e1 e2, c, cs, a, g, h => by
    unfold ckE at h; split at h
    · simp only [Bool.and_eq_true, decide_eq_true_eq] at h
      obtain ⟨⟨⟨h0, h1⟩, h3⟩, h4⟩ := h
      subst h0
      exact snd_cmp (sndE e1 g h3) (sndE e2 g h4) h1
    · cases h
  | .chn o1 o2 e1 e2 e3, c, cs, a, g, h => by
    unfold ckE at h; split at h
    · simp only [Bool.and_eq_true, decide_eq_true_eq] at h
      obtain ⟨⟨⟨⟨⟨⟨h0, h1⟩, h2⟩, h3⟩, h5⟩, h6⟩, h7⟩ := h
      subst h0 h1
      exact snd_chn (sndE e1 g h5) (sndE e2 g h6) (sndE e3 g h7) h2 h3
    · cases h
  | .ife t e1 e2, c, cs, a, g, h => by
    unfold ckE at h; split at h
    · simp only [Bool.and_eq_true] at h
      exact snd_ife (sndT t g h.1.1) (sndE e1 g h.1.2) (sndE e2 g h.2)
    · cases h
  | .idx e1 e2, c, cs, a, g, h => by
    unfold ckE at h; split at h
    · simp only [Bool.and_eq_true] at h
      exact snd_idx (sndE e1 g h.1.2) (sndE e2 g h.2) h.1.1
    · cases h
  | .slc w e lo hi, c, cs, a, g, h => by
    unfold ckE at h; split at h
    · simp only [Bool.and_eq_true] at h
      exact snd_slc (sndE e g h.1.1) (sndO lo g h.1.2) (sndO hi g h.2)
    · cases h
  | .bck w e, c, cs, a, g, h => by
    unfold ckE at h; split at h
    · exact snd_bck (sndE e g h)
    · cases h
  | .att e f, c, cs, a, g, h => by
    unfold ckE at h; split at h
    · simp only [Bool.and_eq_true, decide_eq_true_eq] at h
      obtain ⟨⟨⟨h0, h1⟩, h2⟩, h3⟩ := h
      subst h0
      exact snd_att (g.fl _ h1) (sndE e g h3) h2
    · cases h
  | .tup es, c, cs, a, g, h => by
    unfold ckE at h; split at h
    · exact snd_tup (sndS es g h)
    · cases h
  | .lst w es, c, cs, a, g, h => by
    unfold ckE at h; split at h
    · exact snd_lst (sndS es g h)
    · cases h
  | .cal f es, c, cs, a, g, h => by
    unfold ckE at h; split at h
    · split at h
      · simp only [Bool.and_eq_true] at h
        exact snd_cal0 (g.def_ h.2) (g.calm.trans h.1)
      · cases h
    · simp only [Bool.and_eq_true] at h
      exact snd_cal (g.def_ h.1.1.2) (g.calm.trans h.1.1.1) h.1.2 (sndS es g h.2)
    · cases h
  | .cai f es, c, cs, a, g, h => by
    unfold ckE at h; split at h
    · simp only [Bool.and_eq_true] at h
      exact snd_cai (g.def_ h.1.1.2) (g.calm.trans h.1.1.1) h.1.2 (sndS es g h.2)
    · cases h
  | .met m o es, c, cs, a, g, h => by
    unfold ckE at h; split at h
    · rename_i x gg p ys pos
      simp only [Bool.and_eq_true, decide_eq_true_eq] at h
      obtain ⟨⟨⟨⟨⟨⟨⟨⟨h0, h1⟩, h2⟩, h3⟩, h4⟩, h5⟩, h6⟩, h7⟩, h8⟩ := h
      subst h1
      cases ys with
      | nil =>
        have : es = .nil := by
          cases es with
          | nil => rfl
          | cons _ _ => unfold ckS at h8; cases h8
          | star _ _ => unfold ckS at h8; cases h8
        subst this
        exact snd_met0 (g.me _ h2) (g.calm.trans h0) h3 h4 (sndE o g h7)
      | cons y ys => exact snd_met (g.me _ h2) (g.calm.trans h0) h3 h5 h6 h4 (sndE o g h7) (sndS es g h8)
    · cases h
  | .mk k es, c, cs, a, g, h => by
    unfold ckE at h; split at h
    · simp only [Bool.and_eq_true] at h
      exact snd_mk (g.cls h.1.1.2) (g.calm.trans h.1.1.1) h.1.2 (sndS es g h.2)
    · cases h
  | .blt b w .nil, c, cs, a, g, h => by
    unfold ckE at h; split at h
    · split at h
      · rename_i he; cases he
      · cases h
    · split at h
      · rename_i he; cases he
      · cases h
    · split at h
      · rename_i he; cases he
      · cases h
    · split at h
      · simp only [Bool.and_eq_true] at h
        obtain ⟨⟨⟨⟨h0, h1⟩, h2⟩, h3⟩, h4⟩ := h
        split at h0
        · rename_i n f hn
          have h0 := of_decide_eq_true h0
          subst h0
          exact snd_blt hn (g.free h1) (by rw [g.calm]; exact imp_of h2) h3 (sndS .nil g h4)
        · cases h0
      · cases h
  | .blt b w (.star e es), c, cs, a, g, h => by
    unfold ckE at h; split at h
    · split at h
      · rename_i he; cases he
      · cases h
    · split at h
      · rename_i he; cases he
      · cases h
    · split at h
      · rename_i he; cases he
      · cases h
    · split at h
      · simp only [Bool.and_eq_true] at h
        obtain ⟨⟨⟨⟨h0, h1⟩, h2⟩, h3⟩, h4⟩ := h
        split at h0
        · rename_i n f hn
          have h0 := of_decide_eq_true h0
          subst h0
          exact snd_blt hn (g.free h1) (by rw [g.calm]; exact imp_of h2) h3 (sndS (.star e es) g h4)
        · cases h0
      · cases h
  | .blt b w (.cons e es), c, cs, a, g, h => by
    unfold ckE at h; split at h
    · split at h
      · rename_i x _ y z _ _ t e0 he
        simp only [Bool.and_eq_true, decide_eq_true_eq] at h
        obtain ⟨⟨⟨⟨⟨h0, h1⟩, h2⟩, h3⟩, h4⟩, h5⟩ := h
        subst h0
        cases he
        exact snd_isi (g.free h1) h2 (g.free h3) (sndE e g h5) h4
      · cases h
    · split at h
      · rename_i x _ y n z _ _ e1 es2 he
        simp only [Bool.and_eq_true, decide_eq_true_eq] at h
        obtain ⟨⟨⟨⟨⟨⟨h0, h1⟩, h2⟩, h3⟩, h4⟩, h5⟩, h6⟩ := h
        cases he
        subst h3
        obtain ⟨e2, rfl, k2⟩ := sndOne es g h6
        exact snd_maxd h1 (g.free h2) (g.calm.trans h0) h4 (sndE e g h5) k2
      · cases h
    · split at h
      · rename_i x _ n _ z _ _ k i he
        simp only [Bool.and_eq_true, decide_eq_true_eq] at h
        obtain ⟨⟨⟨⟨h0, h1⟩, h2⟩, h3⟩, h4⟩ := h
        subst h1
        cases he
        obtain ⟨v1, v2, v3, v4⟩ := g.isV h3
        obtain ⟨z1, z2, z3, z4⟩ := g.isx h4
        exact snd_isx (g.free h2) v1 v2 v3 v4 (g.xv h0) (fun j hj => g.kit j k hj z4) z1 z2 z3
      · cases h
    · split at h
      · simp only [Bool.and_eq_true] at h
        obtain ⟨⟨⟨⟨h0, h1⟩, h2⟩, h3⟩, h4⟩ := h
        split at h0
        · rename_i n f hn
          have h0 := of_decide_eq_true h0
          subst h0
          exact snd_blt hn (g.free h1) (by rw [g.calm]; exact imp_of h2) h3 (sndS (.cons e es) g h4)
        · cases h0
      · cases h
  | .bme m w o es, c, cs, a, g, h => by
    unfold ckE at h; split at h
    · split at h
      · simp only [Bool.and_eq_true, decide_eq_true_eq] at h
        obtain ⟨⟨⟨⟨⟨h0, h1⟩, h2⟩, h3⟩, h4⟩, h5⟩ := h
        subst h0
        exact snd_get1 h1 (by rw [List.all_cons, h3]; rfl) h2 (sndE o g h4) (sndS es g h5)
      · cases h
    · split at h
      · simp only [Bool.and_eq_true, decide_eq_true_eq] at h
        obtain ⟨⟨⟨⟨⟨⟨h0, h1⟩, h2⟩, h3⟩, h3'⟩, h4⟩, h5⟩ := h
        subst h0
        exact snd_get2 h1 (by rw [List.all_cons, List.all_cons, h3, h3']; rfl) h2 (sndE o g h4) (sndS es g h5)
      · cases h
    · split at h
      · simp only [Bool.and_eq_true, decide_eq_true_eq] at h
        obtain ⟨⟨⟨⟨⟨h0, h1⟩, h2⟩, h3⟩, h4⟩, h5⟩ := h
        subst h0
        exact snd_upd h1 (by rw [List.all_cons, h3]; rfl) h2 (sndE o g h4) (sndS es g h5)
      · cases h
    · split at h
      · simp only [Bool.and_eq_true, decide_eq_true_eq] at h
        obtain ⟨⟨⟨⟨⟨⟨h0, h1⟩, h2⟩, h3⟩, h4⟩, h5⟩, h6⟩ := h
        split at h0
        · rename_i t i n hn
          have h0 := of_decide_eq_true h0
          subst h0
          exact snd_bme hn h1 h3 h4 h2 (sndE o g h5) (sndS es g h6)
        · cases h0
      · cases h
  | .lc w t it cc e, c, cs, a, g, h => by
    unfold ckE at h; split at h
    · rename_i scope _
      simp only [Bool.and_eq_true] at h
      obtain ⟨⟨⟨⟨⟨⟨h0, h1⟩, h2⟩, h3⟩, h4⟩, h5⟩, h6⟩ := h
      exact snd_lc (g.calm.trans h0) (by rw [g.N, g.sc]; exact blkOk_by h1) (sndI it g h3) h2 (sndG t (g.blk scope) h4) (sndC cc (g.blk scope) h5) (sndE e (g.blk scope) h6)
    · cases h
  | .lcE w t it cc e, c, cs, a, g, h => by
    unfold ckE at h; split at h
    · rename_i scope _
      simp only [Bool.and_eq_true] at h
      obtain ⟨⟨⟨⟨⟨⟨⟨hT, h0⟩, h1⟩, h2⟩, h3⟩, h4⟩, h5⟩, h6⟩ := h
      exact snd_lcX (g.calm.trans h0) (g.top.trans hT) (by rw [g.N, g.sc]; exact blkOk_by h1) (sndI it g h3) h2 (fun σ => sndG t (g.blkX σ scope) h4) (fun σ => sndC cc (g.blkX σ scope) h5) (fun σ => sndE e (g.blkX σ scope) h6)
    · cases h
  | .xat i f, c, cs, a, g, h => by
    unfold ckE at h; split at h
    · simp only [Bool.and_eq_true, decide_eq_true_eq] at h
      obtain ⟨⟨⟨h0, h1⟩, h2⟩, h3⟩ := h
      subst h1
      obtain ⟨v1, v2, v3, v4⟩ := g.isV h3
      exact snd_xat v1 v2 v3 v4 (g.xv h0) (fun j hj => ⟨(g.kit j j hj hj).1, g.xno j _ hj h2⟩)
    · cases h
  | .dsp w es, c, cs, a, g, h => by
    unfold ckE at h; split at h
    · split at h
      · cases w with
        | true => exact snd_dspE
        | false => exact snd_dsp0
      · simp only [Bool.and_eq_true, decide_eq_true_eq, Bool.not_eq_true'] at h
        obtain ⟨⟨⟨h0, h1⟩, h2⟩, h3⟩ := h
        subst h0
        exact snd_dsp (sndP es g h3) h1 h2
    · cases h
  | .cac _ _, _, _, _, _, h => by unfold ckE at h; cases h
  | .cav _ _, _, _, _, _, h => by unfold ckE at h; cases h
  | .sup _ _, _, _, _, _, h => by unfold ckE at h; cases h
  | .srtK _ _ _, _, _, _, _, h => by unfold ckE at h; cases h
  | .lcc _ _ _ _ _ _ _, _, _, _, _, h => by unfold ckE at h; cases h
  | .frzD e, c, cs, a, g, h => by
    unfold ckE at h
    exact snd_frzD (sndE e g h)
  | .dc w t it cc k v, c, cs, a, g, h => by
    unfold ckE at h; split at h
    · rename_i scope _
      simp only [Bool.and_eq_true] at h
      obtain ⟨⟨⟨⟨⟨⟨⟨h0, h1⟩, h2⟩, h3⟩, h4⟩, h5⟩, h6⟩, h7⟩ := h
      exact snd_dc (g.calm.trans h0) (by rw [g.N, g.sc]; exact blkOk_by h1) (sndI it g h3) h2 (sndG t (g.blk scope) h4) (sndC cc (g.blk scope) h5) (sndE k (g.blk scope) h6) (sndE v (g.blk scope) h7)
    · cases h
  | .lam _ _, _, _, _, _, h => by unfold ckE at h; cases h
  | .fst _, _, _, _, _, h => by unfold ckE at h; cases h
termination_by structural x => x
theorem sndT : ∀ (t : Tt) {c : Ctx} {cs : Cs} {a : Expr}, Gd c cs → ckT cs t a = true → SndT c a (evt c.T c.R c.R1 t)
  | .val e, c, cs, a, g, h => by
    unfold ckT at h
    rw [Bool.and_eq_true, Bool.or_eq_true, Bool.and_eq_true] at h
    rcases h.1 with hc | hp
    · have hc := hc.2
      cases e with
      | cmp op e1 e2 =>
        have h := h.2
        unfold ckE at h; split at h
        · simp only [Bool.and_eq_true, decide_eq_true_eq] at h
          obtain ⟨⟨⟨h0, h1⟩, h3⟩, h4⟩ := h
          subst h0
          exact snt_cmp (sndE e1 g h3) (sndE e2 g h4) h1
        · cases h
      | chn o1 o2 e1 e2 e3 =>
        have h := h.2
        unfold ckE at h; split at h
        · simp only [Bool.and_eq_true, decide_eq_true_eq] at h
          obtain ⟨⟨⟨⟨⟨⟨h0, h1⟩, h2⟩, h3⟩, h5⟩, h6⟩, h7⟩ := h
          subst h0 h1
          exact snt_chn (sndE e1 g h5) (sndE e2 g h6) (sndE e3 g h7) h2 h3
        · cases h
      | _ => cases hc
    · exact snt_val (sndE e g h.2) hp
  | .not t, c, cs, a, g, h => by
    unfold ckT at h; split at h
    · exact snt_not (sndT t g h)
    · cases h
  | .and s t, c, cs, a, g, h => by
    unfold ckT at h; split at h
    · rw [Bool.and_eq_true] at h
      exact (snw_and (sndT s g h.1) (rest_t (sndT t g h.2))).tx
    · cases h
  | .or s t, c, cs, a, g, h => by
    unfold ckT at h; split at h
    · rw [Bool.and_eq_true] at h
      exact (snw_or (sndT s g h.1) (rest_t (sndT t g h.2))).tx
    · cases h
  | .ife _ _ _, _, _, _, _, h => by unfold ckT at h; cases h
termination_by structural x => x
theorem sndS : ∀ (es : Es) {c : Ctx} {cs : Cs} {as : List Expr}, Gd c cs → ckS cs es as = true → SndA c as (evs c.T c.R c.R1 es)
  | .nil, c, cs, as, g, h => by
    unfold ckS at h; split at h
    · exact sna_nil
    · cases h
  | .cons e es, c, cs, as, g, h => by
    unfold ckS at h; split at h
    · simp only [Bool.and_eq_true] at h
      exact sna_cons (sndE e g h.1.2) (sndS es g h.2) h.1.1
    · cases h
  | .star e es, c, cs, as, g, h => by
    unfold ckS at h; split at h
    · rw [Bool.and_eq_true, Bool.and_eq_true] at h
      exact sna_star (g.calm.trans h.1) (sndE e g h.2.1) (sndS es g h.2.2)
    · cases h
termination_by structural x => x
theorem sndO : ∀ (e : EO) {c : Ctx} {cs : Cs} {o : Option Expr}, Gd c cs → ckO cs e o = true → SndO c o (evo c.T c.R c.R1 e)
  | .no, c, cs, o, g, h => by
    unfold ckO at h; split at h
    · exact sno_no
    · cases h
  | .so e, c, cs, o, g, h => by
    unfold ckO at h; split at h
    · exact sno_so (sndE e g h)
    · cases h
termination_by structural x => x
theorem sndOne : ∀ (es : Es) {c : Ctx} {cs : Cs} {a : Expr}, Gd c cs → ckOne cs es a = true → ∃ e, es = .cons e .nil ∧ SndE c a (ev c.T c.R c.R1 e)
  | .nil, c, cs, a, g, h => by unfold ckOne at h; cases h
  | .cons e es, c, cs, a, g, h => by
    unfold ckOne at h
    rw [Bool.and_eq_true] at h
    refine ⟨e, ?_, sndE e g h.2⟩
    have h1 := h.1
    cases es with
    | nil => rfl
    | _ => cases h1
  | .star _ _, c, cs, a, g, h => by unfold ckOne at h; cases h
termination_by structural x => x
theorem sndP : ∀ (es : Es) {c : Ctx} {cs : Cs} {ks : List (Option Expr)} {vs : List Expr}, Gd c cs → ckP cs es ks vs = true → PrS c c.T c.R c.R1 ks vs es
  | .nil, c, cs, ks, vs, g, h => by
    unfold ckP at h; split at h
    · exact .nil
    · cases h
  | .cons e .nil, c, cs, ks, vs, g, h => by unfold ckP at h; cases h
  | .cons e (.star _ _), c, cs, ks, vs, g, h => by unfold ckP at h; cases h
  | .cons e (.cons e2 es2), c, cs, ks, vs, g, h => by
    unfold ckP at h
    simp only at h
    split at h
    · simp only [Bool.and_eq_true] at h
      exact .cons (sndE e g h.1) (sndE e2 g h.2.1) (sndP es2 g h.2.2)
    · cases h
  | .star _ _, c, cs, ks, vs, g, h => by unfold ckP at h; cases h
termination_by structural x => x
theorem sndC : ∀ (t : TO) {c : Ctx} {cs : Cs} {as : List Expr}, Gd c cs → ckC cs t as = true → SndTs c as (evc c.T c.R c.R1 t)
  | .no, c, cs, as, g, h => by
    unfold ckC at h; split at h
    · exact snts_no
    · cases h
  | .so t, c, cs, as, g, h => by
    unfold ckC at h; split at h
    · exact snts_so (sndT t g h)
    · cases h
termination_by structural x => x
theorem sndI : ∀ (i : It) {c : Ctx} {cs : Cs} {tg a : Expr}, Gd c cs → ckI cs i tg a = true → SndI c tg a (evi c.T c.R c.R1 i)
  | .val e, c, cs, tg, a, g, h => by unfold ckI at h; exact sni_val (sndE e g h)
  | .rng1 e, c, cs, tg, a, g, h => by
    unfold ckI at h; split at h
    · simp only [Bool.and_eq_true, decide_eq_true_eq] at h
      obtain ⟨⟨⟨h0, h1⟩, h2⟩, h3⟩ := h
      subst h0
      exact sni_rng1 (g.free h1) (sndE e g h3) h2
    · cases h
  | .rng2 e1 e2, c, cs, tg, a, g, h => by
    unfold ckI at h; split at h
    · simp only [Bool.and_eq_true, decide_eq_true_eq] at h
      obtain ⟨⟨⟨⟨⟨h0, h1⟩, h2⟩, h3⟩, h4⟩, h5⟩ := h
      subst h0
      exact sni_rng2 (g.free h1) (sndE e1 g h4) (sndE e2 g h5) h2 h3
    · cases h
  | .zip e1 e2, c, cs, tg, a, g, h => by
    unfold ckI at h; split at h
    · simp only [Bool.and_eq_true, decide_eq_true_eq] at h
      obtain ⟨⟨⟨⟨⟨h0, h1⟩, h2⟩, h3⟩, h4⟩, h5⟩ := h
      subst h0
      exact sni_zip (g.free h1) (sndE e1 g h4) (sndE e2 g h5) h2 h3
    · cases h
  | .rng3 _ _ _, _, _, _, _, _, h => by unfold ckI at h; cases h
  | .enm e, c, cs, tg, a, g, h => by
    unfold ckI at h; split at h
    · simp only [Bool.and_eq_true, decide_eq_true_eq] at h
      obtain ⟨⟨⟨h0, h1⟩, h2⟩, h3⟩ := h
      subst h0
      exact sni_enm (g.free h1) (sndE e g h3) h2
    · cases h
  | .enmFrom _ _, _, _, _, _, _, h => by unfold ckI at h; cases h
  | .rev _, _, _, _, _, _, h => by unfold ckI at h; cases h
  | .keys e, c, cs, tg, a, g, h => by unfold ckI at h; exact sni_keys (sndE e g h)
  | .vals e, c, cs, tg, a, g, h => by
    unfold ckI at h; split at h
    · simp only [Bool.and_eq_true, decide_eq_true_eq] at h
      obtain ⟨⟨⟨h0, h1⟩, h2⟩, h3⟩ := h
      subst h0
      exact sni_vals (sndE e g h3) h1 h2
    · cases h
  | .itms e, c, cs, tg, a, g, h => by
    unfold ckI at h; split at h
    · simp only [Bool.and_eq_true, decide_eq_true_eq] at h
      obtain ⟨⟨⟨h0, h1⟩, h2⟩, h3⟩ := h
      subst h0
      exact sni_itms (sndE e g h3) h1 h2
    · cases h
termination_by structural x => x
theorem sndG : ∀ (t : Tg) {c : Ctx} {cs : Cs} {a : Expr}, Gd c cs → ckG cs t a = true → SndG c a (tgSlots t) (asg c.T c.R c.R1 t)
  | .nm i, c, cs, a, g, h => by
    unfold ckG at h; split at h
    · obtain ⟨h1, h2⟩ := g.isT h; exact sng_nm h1 h2
    · cases h
  | .tp ts, c, cs, a, g, h => by
    unfold ckG at h; split at h
    · simp only [Bool.and_eq_true, decide_eq_true_eq] at h
      obtain ⟨⟨⟨h0, h1⟩, h2⟩, h3⟩ := h
      exact sng_tp (sndGs ts g h3) (g.calm.trans h0) h1 h2
    · cases h
  | .sub e1 e2, c, cs, a, g, h => by
    unfold ckG at h; split at h
    · simp only [Bool.and_eq_true] at h
      exact sng_subD (sndE e1 g h.1.2) (sndE e2 g h.2) h.1.1
    · cases h
  | .slc _ _ _, _, _, _, _, h => by unfold ckG at h; cases h
  | .att _ _, _, _, _, _, h => by unfold ckG at h; cases h
termination_by structural x => x
theorem sndGs : ∀ (t : Tgs) {c : Ctx} {cs : Cs} {as : List Expr}, Gd c cs → ckGs cs t as = true → SndGs c as (tgsSlots t) (asgs c.T c.R c.R1 t)
  | .nil, c, cs, as, g, h => by
    unfold ckGs at h; split at h
    · exact sngs_nil
    · cases h
  | .cons t ts, c, cs, as, g, h => by
    unfold ckGs at h; split at h
    · simp only [Bool.and_eq_true] at h
      exact sngs_cons (sndG t g h.1.2) (sndGs ts g h.2) h.1.1
    · cases h
termination_by structural x => x
end
end Mp
end
section
set_option Elab.async false
set_option linter.all false
set_option maxRecDepth 100000
set_option maxHeartbeats 4000000
namespace Mp
open PySem L2 PySem.Spec PyProof.Rows
mutual
theorem sndSt : ∀ (s : Mp.S) {c : Ctx} {cs : Cs} {st : Stmt}, Gd c cs → ckSt cs s st = true → SndS c st (exS c.T c.R c.R1 s)
  | .asg t e, c, cs, st, g, h => by
    unfold ckSt at h; split at h
    · split at h
      · split at h
        · rename_i i x p _ _ w t' it cc e' y tg i' ifs scope p2
          rw [Bool.or_eq_true] at h
          rcases h with h | h
          · simp only [Bool.and_eq_true, decide_eq_true_eq] at h
            obtain ⟨⟨⟨h1, h2⟩, h3⟩, h4⟩ := h
            exact sns_asgNc (sndE _ g h4) (by rw [g.N]; exact h1) (by rw [g.sc]; exact h2) (by rw [g.fn]; exact h3)
          simp only [Bool.and_eq_true, decide_eq_true_eq, Bool.not_eq_true'] at h
          obtain ⟨⟨⟨⟨⟨⟨⟨⟨⟨⟨⟨h0, h1⟩, h2⟩, h3⟩, h4⟩, h5⟩, h6⟩, h7⟩, h8⟩, h9⟩, h10⟩, h11⟩ := h
          exact sns_asgLc (g.calm.trans h0) (by rw [g.N]; exact h1) (by rw [g.sc]; exact h2) (by rw [g.sc]; exact h3) h4 h5 (by rw [g.N, g.sc]; exact blkOk_by h6) (sndI it g h8) h7 (sndG t' (g.blk scope) h9) (sndC cc (g.blk scope) h10) (sndE e' (g.blk scope) h11)
        · rename_i i x p _ _ w t' it cc e' y tg i' ifs scope p2
          rw [Bool.or_eq_true] at h
          rcases h with h | h
          · simp only [Bool.and_eq_true, decide_eq_true_eq] at h
            obtain ⟨⟨⟨h1, h2⟩, h3⟩, h4⟩ := h
            exact sns_asgNc (sndE _ g h4) (by rw [g.N]; exact h1) (by rw [g.sc]; exact h2) (by rw [g.fn]; exact h3)
          simp only [Bool.and_eq_true, decide_eq_true_eq, Bool.not_eq_true'] at h
          obtain ⟨⟨⟨⟨⟨⟨⟨⟨⟨⟨⟨⟨hT, h0⟩, h1⟩, h2⟩, h3⟩, h4⟩, h5⟩, h6⟩, h7⟩, h8⟩, h9⟩, h10⟩, h11⟩ := h
          exact sns_asgLcX (g.calm.trans h0) (g.top.trans hT) (by rw [g.N]; exact h1) (by rw [g.sc]; exact h2) (by rw [g.sc]; exact h3) h4 h5 (by rw [g.N, g.sc]; exact blkOk_by h6) (sndI it g h8) h7 (fun σ => sndG t' (g.blkX σ scope) h9) (fun σ => sndC cc (g.blkX σ scope) h10) (fun σ => sndE e' (g.blkX σ scope) h11)
        · rename_i i x p _ _ w t' it cc k v y z tg i' ifs scope p2
          simp only [Bool.and_eq_true, decide_eq_true_eq, Bool.not_eq_true'] at h
          obtain ⟨⟨⟨⟨⟨⟨⟨⟨⟨⟨⟨⟨h0, h1⟩, h2⟩, h3⟩, h4⟩, h5⟩, h6⟩, h7⟩, h8⟩, h9⟩, h10⟩, h11⟩, h12⟩ := h
          exact sns_asgDc (g.calm.trans h0) (by rw [g.N]; exact h1) (by rw [g.sc]; exact h2) (by rw [g.sc]; exact h3) h4 h5 (by rw [g.N, g.sc]; exact blkOk_by h6) (sndI it g h8) h7 (sndG t' (g.blk scope) h9) (sndC cc (g.blk scope) h10) (sndE k (g.blk scope) h11) (sndE v (g.blk scope) h12)
        · simp only [Bool.and_eq_true] at h
          obtain ⟨⟨h0, h1⟩, h2⟩ := h
          obtain ⟨h3, h4⟩ := g.isT h1
          exact sns_asgN (sndE e g h2) h0 h3 h4
      · simp only [Bool.and_eq_true, decide_eq_true_eq] at h
        obtain ⟨⟨⟨h0, h1⟩, h2⟩, h3⟩ := h
        subst h0
        exact sns_asgA (g.fl _ h1) (sndE e g h2) (sndE _ g h3)
      · rename_i i j _ x px y py _ _ _
        rw [Bool.or_eq_true] at h
        rcases h with h | h
        · simp only [Bool.and_eq_true] at h
          obtain ⟨⟨⟨h0, h2⟩, h3⟩, h4⟩ := h
          exact sns_asg (sndE e g h3) (sndG _ g h4) h0 rfl h2
        · split at h
          · rename_i es a1 b1 _ _
            simp only [Bool.and_eq_true, decide_eq_true_eq] at h
            obtain ⟨⟨⟨⟨⟨h0, h1⟩, h2⟩, h3⟩, h4⟩, h5⟩ := h
            exact sns_par (g.calm.trans h0) (sndS es g h5) (by rw [g.N]; exact h1) (by rw [g.N]; exact h2) h3 (by rw [g.sc]; exact h4)
          · cases h
      · simp only [Bool.and_eq_true] at h
        obtain ⟨⟨⟨⟨h0, h1⟩, h2⟩, h3⟩, h4⟩ := h
        exact sns_asg (sndE e g h3) (sndG t g h4) h0 h1 h2
    · cases h
  | .expr e, c, cs, st, g, h => by
    unfold ckSt at h; split at h
    · rw [Bool.and_eq_true] at h; exact sns_expr (sndE e g h.2) h.1
    · cases h
  | .ret e, c, cs, st, g, h => by
    unfold ckSt at h; split at h
    · exact sns_ret (sndE e g h)
    · cases h
  | .retN, c, cs, st, g, h => by
    unfold ckSt at h; split at h
    · exact sns_retN
    · cases h
  | .ife t s1 s2, c, cs, st, g, h => by
    unfold ckSt at h; split at h
    · simp only [Bool.and_eq_true] at h
      exact sns_if (sndT t g h.1.1) (sndSs s1 g h.1.2) (sndSs s2 g h.2)
    · cases h
  | .for_ gc t it b, c, cs, st, g, h => by
    unfold ckSt at h; split at h
    · simp only [Bool.and_eq_true] at h
      obtain ⟨⟨⟨⟨h0, h1⟩, h2⟩, h3⟩, h4⟩ := h
      exact sns_for (g.calm.trans h0) (sndI it g h2) h1 (sndG t g h3) (sndSs b g h4)
    · cases h
  | .whl gc t b, c, cs, st, g, h => by
    unfold ckSt at h; split at h
    · simp only [Bool.and_eq_true] at h
      obtain ⟨⟨h0, h1⟩, h2⟩ := h
      exact sns_whl (g.calm.trans h0) (sndT t g h1) (sndSs b g h2)
    · cases h
  | .raise k .nil, c, cs, st, g, h => SndS.mk (t := fun _ _ _ => False) (fun X f => ⟨fun _ _ σ H _ I h => h.elim⟩) fun S D q => by
    rw [exS_raise, evs_nil, then_ok] at q
    have e : exnOf c.T k [] = none := by unfold exnOf; cases c.T.exk k <;> rfl
    rw [e] at q
    exact q.elimB
  | .raise k (.star e es), c, cs, st, g, h => by
    unfold ckSt at h; split at h
    · rename_i he; cases he
    · rename_i he; cases he
    · cases h
  | .raise k (.cons e es), c, cs, st, g, h => by
    unfold ckSt at h; split at h
    · rename_i he
      cases he
      simp only [Bool.and_eq_true] at h
      obtain ⟨⟨⟨h0, h1⟩, h2⟩, h3⟩ := h
      rw [Bool.or_eq_true] at h1
      rcases h1 with h1 | h1
      · obtain ⟨k1, k2⟩ := g.exa h1
        exact sns_raise k1 k2 (g.calm.trans h0) h2 (sndE e g h3)
      · obtain ⟨f, k1, k2⟩ := g.efa h1
        exact sns_raiseF k1 k2 (g.calm.trans h0) h2 (sndE e g h3)
    · rename_i he; cases he
    · cases h
  | .try_ b hs, c, cs, st, g, h => by
    unfold ckSt at h; split at h
    · simp only [Bool.and_eq_true] at h
      obtain ⟨⟨h0, h1⟩, h2⟩ := h
      cases hs with
      | nil => unfold ckH at h2; cases h2
      | cons ks as_ ss hs =>
        unfold ckH at h2; split at h2
        · simp only [Bool.and_eq_true] at h2
          obtain ⟨k1, k4⟩ := h2
          exact sns_try0 (g.calm.trans h0) (g.su h0).1 (g.su h0).2 (g.exs k1) (fun W => sndSs b (g.try_ W) h1) (fun a cls d y => sndSs ss (g.suit a cls d y) k4)
        · simp only [Bool.and_eq_true, decide_eq_true_eq] at h2
          obtain ⟨⟨⟨k1, k2⟩, k3⟩, k4⟩ := h2
          exact sns_try (g.calm.trans h0) (g.su h0).1 (g.su h0).2 (g.exs k1) (by rw [g.N]; exact k2) (by rw [g.sc]; exact k3) (fun W => sndSs b (g.try_ W) h1) (fun a cls d y => sndSs ss (g.suit a cls d y) k4)
        · cases h2
    · cases h
  | .pass, c, cs, st, g, h => by
    unfold ckSt at h; split at h
    · exact sns_pass
    · cases h
  | .brk, c, cs, st, g, h => by
    unfold ckSt at h; split at h
    · exact sns_brk
    · cases h
  | .cont, c, cs, st, g, h => by
    unfold ckSt at h; split at h
    · exact sns_cont
    · cases h
  | .asg2 t u e, c, cs, st, g, h => by
    unfold ckSt at h; split at h
    · simp only [Bool.and_eq_true] at h
      obtain ⟨⟨⟨⟨h0, h1⟩, h2⟩, h3⟩, h4⟩ := h
      exact sns_asg2 (sndE e g h2) (sndG t g h3) (sndG u g h4) h0 h1
    · cases h
  | .aug t op e, c, cs, st, g, h => by
    unfold ckSt at h; split at h
    · rename_i x _ o a _ i
      simp only [Bool.and_eq_true, Bool.or_eq_true, decide_eq_true_eq] at h
      obtain ⟨⟨⟨h0, h1⟩, h2⟩, h3⟩ := h
      subst h1
      obtain ⟨h4, h5⟩ := g.isT h2
      exact sns_augN (sndE e g h3) h4 h5 h0
    · cases h
  | .augL _ _, _, _, _, _, h => by unfold ckSt at h; cases h
  | .raiseH _ _, _, _, _, _, h => by unfold ckSt at h; cases h
  | .ndef _ _ _, _, _, _, _, h => by unfold ckSt at h; cases h
termination_by structural x => x
theorem sndSs : ∀ (ss : Ss) {c : Ctx} {cs : Cs} {sts : List Stmt}, Gd c cs → ckSs cs ss sts = true → SndSs c sts (exSs c.T c.R c.R1 ss)
  | .nil, c, cs, sts, g, h => by
    unfold ckSs at h; split at h
    · exact snss_nil
    · cases h
  | .cons s ss, c, cs, sts, g, h => by
    unfold ckSs at h; split at h
    · rw [Bool.and_eq_true] at h; exact snss_cons (sndSt s g h.1) (sndSs ss g h.2)
    · cases h
  | .kill is ss, c, cs, sts, g, h => by
    unfold ckSs at h; exact snss_kill (sndSs ss g h)
termination_by structural x => x
end
end Mp
end
section
set_option Elab.async false
set_option linter.all false
set_option maxRecDepth 100000
set_option maxHeartbeats 4000000
namespace Mp
open PySem L2 PySem.Spec PyProof.Rows
open Evl (Ex ex_l ex_t fresh_back)
/-! ### a def keeps its promise -/
section
variable {P : Program} {w : World} {L : Lk} {mg : Str → Option Value} {base : PySem.Heap} {T : Tbl} {k f : Nat}
/-- the context of a def's body -/
abbrev ctxD (P : Program) (w : World) (L : Lk) (mg : Str → Option Value) (base : PySem.Heap) (T : Tbl) (N : List Str) (sc : Scope) (k : Nat) (W : L2.WX) : Ctx := ⟨P, w, L, mg, base, N, sc, k, W, true, (fun _ => true), none, .no, T, true⟩
theorem spZ_0 {vs : List V} {H : Hp} {Q : VK} {E : XK} (h : spZ L T f 0 vs H Q E) : False := by
  obtain ⟨_, _, _, _, _, _, q⟩ := h
  exact q
theorem fn_zero {fd : FuncData} {ps : List Str} {fa : Addr} : FnOk P w L.K mg base (L2.CX P w) (0 + 2) fa fd ps (spZ L T f 0) :=
  ⟨fun vs H Q E h => (spZ_0 h).elim, fun A outer s H args us vs Q E hr e0 hb hv h => (spZ_0 h).elim⟩
theorem start_st {c : Ctx} {G H : Hp} {ι : Iot} {μ : Heap} {vs : List V} {args : List Val} {n : Nat} (hr : HR c.L G H ι μ) (hv : VRs c.L c.X G ι vs args) (hn : c.N.length = n) : St c G H (L2.start c.N vs) ι (args.map some ++ List.replicate (n - args.length) none) μ := by
  have hl := vrs_len hv
  refine ⟨hr, by simp [L2.start, hl, hn], fun i v h => ?_⟩
  unfold Slots.at at h
  by_cases q : i < args.length
  · rw [List.getElem?_append_left (by rw [List.length_map]; exact q), List.getElem?_map] at h
    cases z : args[i]? with
    | none => rw [z] at h; cases h
    | some v' =>
      rw [z] at h; cases h
      obtain ⟨w, h1, h2⟩ := vrs_get hv z
      refine ⟨w, ?_, h2⟩
      unfold L2.start
      rw [List.getElem?_append_left (by rw [List.length_map]; omega), List.getElem?_map, h1]
      rfl
  · rw [List.getElem?_append_right (by rw [List.length_map]; omega), List.getElem?_replicate] at h
    split at h
    · rename_i o e
      split at e
      · cases e; cases h
      · cases e
    · cases h
theorem fin_post {c : Ctx} {E : XK} {G H : Hp} {ι : Iot} {μ : Heap} {Q : VK} {r : RS} (hE : ∀ σ, c.E σ = E) (h : Post c.L E (RvV c.L c.X) G H ι μ Q r.fin) : PostS c G H ι μ { nx := fun _ H' => Q .non H', rt := Q } r := by
  cases r with
  | ok δ f μ' =>
    cases f with
    | nx => exact fun σ' G' H' ι' st S => h .non G' H' ι' st S.hr .non
    | rt v => exact fun σ' G' H' ι' st S w hw => h w G' H' ι' st S.hr hw
    | bk => exact h.elim
    | ct => exact h.elim
  | ex x δ μ' => exact fun σ' G' H' ι' st S => by rw [hE]; exact h G' H' ι' st S.hr
  | bad => exact h.elim
theorem un_of {j : Nat} {A : Around} (hr : Room j A) : A.units + 100 < cLine := by have := hr.un; omega
theorem fn_ok {x qual : Str} {params : Arguments} {body : List Stmt} {scope : Scope} {fd : FuncData} {N ps : List Str} {fn : Fn} {cs : Cs} (F : FunD L.K x qual params body scope [] [] (L.fnA f) fd) (S : FnScope N ps scope) (hf : T.fn f = some fn) (hp : fn.npar = ps.length) (hn : fn.nslot = N.length)
    (hg : ∀ W, Gd (ctxD P w L mg base T N scope k W) cs) (hck : ckSs cs fn.body body = true) : FnOk P w L.K mg base (L2.CX P w) (k + 1 + 2) (L.fnA f) fd ps (spZ L T f (k + 1)) := by
  have e1 : ∀ args μ, run T (k + 1) f args μ = if args.length = fn.npar then (exSs T (run T k) (run1 T k) fn.body (args.map some ++ List.replicate (fn.nslot - fn.npar) none) μ).fin else .bad := fun args μ => by
    rw [run_succ]; unfold call1; rw [hf]
  refine F.ok (k := k + 2) S (fun vs H Q E h => ?_) fun cdv A outer s H vs Q E hr h => ?_
  · obtain ⟨G, ι, μ, args, h1, h2, q⟩ := h
    rw [e1] at q
    split at q
    · rename_i e
      rw [vrs_len h2, e, hp]
    · exact q.elim
  · obtain ⟨G, ι, μ, args, h1, h2, q⟩ := h
    rw [e1] at q
    split at q
    · rename_i e
      refine ⟨tSs (ctxD P w L mg base T N scope k (fun cls d _ H => E cls d H)) body, pss_tSs ⟨⟨rfl, rfl, rfl, rfl, rfl, rfl, rfl, rfl, fun _ => hr, (un_of hr), takes_of rfl rfl rfl rfl, fun _ _ => rfl, S.nd, (fun _ _ _ z => nomatch z), fun _ => ⟨rfl, rfl⟩⟩, fun _ => passes_of rfl, fun _ => ⟨rfl, rfl⟩⟩, ?_⟩
      refine (sndSs fn.body (hg fun cls d _ H => E cls d H) hck) (σ := L2.start N vs) (ι := ι) (μ := μ) (G := G) (δ := args.map some ++ List.replicate (fn.nslot - fn.npar) none) ?_ _ (fin_post (fun _ => rfl) q)
      rw [← e, hn]
      exact start_st (c := ctxD P w L mg base T N scope k (fun cls d _ H => E cls d H)) h1 h2 rfl
    · exact q.elim
end
/-! ### facts of classes, from the head -/
open PySem.W in
def excB (K : PySem.W.Frag) (D : Addr) : Bool := decide (findIn K (.ref D) "__getattribute__" = some (some (.builtin "BaseException.__getattribute__"))) && (decide (findIn K (.ref D) "__getattr__" = some none) && (decide (subIn K (.ref D) (.type "BaseException") = some true) && (hasDictIn K D && (decide (findIn K (.ref D) "__class__" = some (some (.builtin "object.__class__"))) &&
  (decide (specialIn K (.builtin "object.__class__") "__get__" = some (some (.builtin "getset_descriptor.__get__"))) && (decide (takesIn K (.builtin "object.__class__") = some true) && decide (mroIn K D (.type "object") = some true)))))))
theorem excB_ok {K : PySem.W.Frag} {D : Addr} (h : excB K D = true) : ExcC K D := by
  unfold excB at h
  simp only [Bool.and_eq_true, decide_eq_true_eq] at h
  obtain ⟨h1, h2, h3, h4, h5, h6, h7, h8⟩ := h
  exact ⟨h1, h2, h3, h4, h5, h6, h7, h8⟩
/-- facts beside He.Fa's -/
def valB : D → Value → Bool
  | .int i, .int j _ => decide (i = j)
  | .str s, .str z _ => decide (s = z)
  | _, _ => false
def valsB : List D → List Value → Bool
  | [], [] => true
  | d :: ds, v :: vs => valB d v && valsB ds vs
  | _, _ => false
/-- a global tuple of ints and texts -/
def tupB (K : PySem.W.Frag) (a : Addr) (zs : List D) : Bool := match K.lookup a with
  | some o => decide (o.cls = .type "tuple") && (match o.data with
    | .seq its _ => decide (its.size ≤ 1000) && valsB zs its.toList
    | _ => false)
  | none => false
theorem valsB_ok {L : Lk} : ∀ {zs : List D} {us : List Value}, valsB zs us = true → ∃ xs, Vals xs us ∧ ∀ {G : Hp}, Drs L G xs zs
  | [], [], _ => ⟨[], .nil, .nil⟩
  | [], _ :: _, h => by cases h
  | _ :: _, [], h => by cases h
  | d :: ds, u :: us, h => by
    have h : (valB d u && valsB ds us) = true := h
    rw [Bool.and_eq_true] at h
    obtain ⟨xs, h1, h2⟩ := valsB_ok (L := L) h.2
    have h0 := h.1
    cases d with
    | int i =>
      cases u with
      | int j t =>
        have e : i = j := of_decide_eq_true h0
        subst e
        exact ⟨.int i :: xs, .cons ⟨t, rfl⟩ h1, .cons (.int i) h2⟩
      | _ => cases h0
    | str i =>
      cases u with
      | str j t =>
        have e : i = j := of_decide_eq_true h0
        subst e
        exact ⟨.str i :: xs, .cons ⟨t, rfl⟩ h1, .cons (.str i) h2⟩
      | _ => cases h0
    | _ => cases h0
theorem tupB_ok {L : Lk} {a : Addr} {zs : List D} (h : tupB L.K a zs = true) : ∀ {G : Hp}, Dr L G (.ref a) (.tup zs) := by
  intro G
  unfold tupB at h
  split at h
  · rename_i o ho
    rw [Bool.and_eq_true, decide_eq_true_eq] at h
    obtain ⟨hc, h⟩ := h
    split at h
    · rename_i its n hd
      rw [Bool.and_eq_true, decide_eq_true_eq] at h
      obtain ⟨xs, h1, h2⟩ := valsB_ok (L := L) h.2
      exact .tup (.inr ⟨o, its, n, ho, hc, hd, by rw [sizeLine_eq]; omega, h1⟩) h2
    · cases h
  · cases h
inductive Fx where
  | tup (x : Str) (zs : List D)
  | exc (x : Str)
  | kit (x y : Str) (b : Bool)
  | ini (x f file : Str)
def Fx.ok (K : PySem.W.Frag) : Fx → Bool
  | .tup x zs => tupB K (He.ga K x) zs
  | .exc x => excB K (He.ga K x)
  | .kit x y b => decide (PySem.W.kitOne K (.ref (He.ga K x)) (.ref (He.ga K y)) = some b)
  | .ini x f file => iniB K file x f
def asX (g : Addr → Option Obj) (n : Nat) : List Addr := cStatics :: He.asD g n
abbrev AlX : Type := Bool × He.AlD
def obsX (n : Nat) (fa : List He.Fa) (fx : List Fx) (fn : List He.DefD) (g : Addr → Option Obj) : AlX := (fx.all fun f => f.ok (He.frG g (asX g n)), He.obsD fa fn (He.frG g (asX g n)))
def SaysX (fa : List He.Fa) (fx : List Fx) (fn : List He.DefD) (K : PySem.W.Frag) : Prop := He.SaysD fa fn K ∧ ∀ (i : Nat) (f : Fx), fx[i]? = some f → f.ok K = true
def hookX (n : Nat) (fa : List He.Fa) (fx : List Fx) (fn : List He.DefD) : PySem.W.Hook where
  α := AlX
  obs := fun s => obsX n fa fx fn s.heap.get?
  val := fun _ => (true, He.valD fn)
  says := fun _ h => ∃ K : PySem.W.Frag, K.In h ∧ SaysX fa fx fn K
  of := fun _ _ e => ⟨_, He.frG_in, congrArg (fun z : AlX => z.2) e, fun i f h => List.all_eq_true.mp (congrArg (fun z : AlX => z.1) e) f (List.mem_of_getElem? h)⟩
  keeps := fun _ _ _ ⟨K, hK, c⟩ k => ⟨K, PySem.W.Frag.In.keeps hK k, c⟩
theorem obsX_eq {n : Nat} {fa : List He.Fa} {fx : List Fx} {fn : List He.DefD} {g : Addr → Option Obj} {s : Shared} (h : ∀ a, g a = s.heap.get? a) : obsX n fa fx fn g = (hookX n fa fx fn).obs s := by
  have e : g = s.heap.get? := funext h
  rw [e] <;> rfl
/-! ### the module's table -/
structure DefI where
  d : He.DefD
  ps : List Str
  N : List Str
  fn : Fn
structure Tab where
  defs : List DefI
  cls : List Str
  ob : List Nat
  xs : List Nat
  meths : List (Nat × Str × Nat)
  inits : List (Nat × Nat)
  anc : List (Nat × List Nat)
  exf : List (Nat × Str)
  gls : List (Str × D)
  gn : List (Str × Gk)
  fl : List Str
  me : List Str
  file : Str
namespace Tab
def T (t : Tab) : Tbl := Tbl.of (t.defs.map (·.fn)) (t.gls.map (·.2)) t.meths t.inits t.anc t.exf t.xs
def clN (t : Tab) (k : Nat) : Str := t.cls.getD k ""
def fnN (t : Tab) (f : Nat) : Str × Option Str := match t.defs[f]? with
  | some i => i.d.at_
  | none => ("", none)
/-- where all stands -/
def L (t : Tab) (K : PySem.W.Frag) : Lk := ⟨K, fun f => He.fAd K (t.fnN f), fun k => He.ga K (t.clN k), fun k => t.ob.contains k, fun k => t.xs.contains k⟩
/-- what must be so of the module -/
def faG (t : Tab) : Str × Gk → List He.Fa
  | (x, .fn _) => [.glo x]
  | (x, .cl _) => [.glo x]
  | (x, .gl g) => match t.gls[g]? with
    | some (_, .int i) => [.int x i]
    | some (_, .str z) => [.str x z]
    | some (_, .tup _) => [.glo x]
    | _ => []
  | (x, .ex k) => .glo x :: .exc x :: t.xs.map fun j => .exm (t.clN j) x (t.T.sub j k)
  | (x, .xc _) => [.glo x]
  | (x, .ef k) => .glo x :: t.xs.map fun j => .exm (t.clN j) x (t.T.sub j k)
  | (x, .free) => [.free x]
def faC (t : Tab) (k : Nat) : List He.Fa := .cls (t.clN k) :: t.fl.map fun f => .noat (t.clN k) f
def faM (t : Tab) (q : Nat × Str × Nat) : List He.Fa := [.meth (t.clN q.1) q.2.1]
def faI (t : Tab) (q : Nat × Nat) : List He.Fa := [.mkr (t.clN q.1)]
def fa (t : Tab) : List He.Fa := t.gn.flatMap t.faG ++ (t.ob.flatMap t.faC ++ ((t.meths.filter fun q => t.ob.contains q.1).flatMap t.faM ++ ((t.inits.filter fun q => t.ob.contains q.1).flatMap t.faI ++ t.xs.flatMap fun k => t.exf.map fun q => .noat (t.clN k) q.2)))
def fxG (t : Tab) : Str × Gk → List Fx
  | (x, .ef k) => match t.exf.lookup k with
    | some f => [.ini x f t.file]
    | none => []
  | (x, .gl g) => match t.gls[g]? with
    | some (_, .tup zs) => [.tup x zs]
    | _ => []
  | _ => []
def fx (t : Tab) : List Fx := t.xs.map (fun j => .exc (t.clN j)) ++ ((t.xs.flatMap fun j => t.xs.map fun k => .kit (t.clN j) (t.clN k) (t.T.sub j k)) ++ t.gn.flatMap t.fxG)
def dfs (t : Tab) : List He.DefD := t.defs.map (·.d)
def cs (t : Tab) (i : DefI) : Cs := ⟨i.N, i.d.scope, true, (fun _ => true), t.gn, t.fl, t.me, false, t.exf.map (·.2), true⟩
def okG (t : Tab) : Str × Gk → Bool
  | (x, .fn f) => decide (t.fnN f = (x, none)) && decide (f < t.defs.length)
  | (x, .cl k) => decide (t.clN k = x) && t.ob.contains k && (match t.inits.lookup k with
    | some f => decide (t.fnN f = (x, some ("__init__" : Str))) && decide (f < t.defs.length)
    | none => false)
  | (x, .gl g) => match t.gls[g]? with
    | some (y, .int _) => decide (y = x)
    | some (y, .str _) => decide (y = x)
    | some (y, .tup _) => decide (y = x)
    | _ => false
  | (x, .ex k) => decide (t.clN k = x) && t.xs.contains k && (match t.exf.lookup k with
    | some _ => false
    | none => true)
  | (x, .xc k) => decide (t.clN k = x) && t.xs.contains k
  | (x, .ef k) => decide (t.clN k = x) && t.xs.contains k && (t.exf.lookup k).isSome
  | (_, .free) => true
def okM (t : Tab) (q : Nat × Str × Nat) : Bool := !t.ob.contains q.1 || (decide (t.fnN q.2.2 = (t.clN q.1, some q.2.1)) && decide (q.2.2 < t.defs.length))
def scB (N P : List Str) (sc : Scope) : Bool := decide (sc.kind = .function) && !sc.isCoroutine && !sc.isGenerator && decide N.Nodup && decide (N.take P.length = P) && (P.all fun x => decide (sc.names.lookup x = some .local) || decide (sc.names.lookup x = some .cell)) && sc.names.all fun y => decide (y.2 ≠ .free)
def dfB (i : DefI) : Bool := i.d.dfl.isEmpty && i.d.kwd.isEmpty && scB i.N i.ps i.d.scope && decide (i.fn.npar = i.ps.length) && decide (i.fn.nslot = i.N.length)
def okB (t : Tab) : Bool := t.gn.all t.okG && t.meths.all t.okM && t.defs.all dfB
def okC (t : Tab) : Bool := t.defs.all fun i => ckSs (t.cs i) i.fn.body i.d.body
end Tab
theorem scB_ok {N P : List Str} {sc : Scope} (h : Tab.scB N P sc = true) : FnScope N P sc := by
  unfold Tab.scB at h
  simp only [Bool.and_eq_true, decide_eq_true_eq, Bool.not_eq_true'] at h
  obtain ⟨⟨⟨⟨⟨⟨h1, h2⟩, h3⟩, h4⟩, h5⟩, h6⟩, h7⟩ := h
  refine ⟨h1, h2, h3, h4, h5, fun x hx => ?_, fun y hy => ?_⟩
  · have q := List.all_eq_true.mp h6 x hx
    rw [Bool.or_eq_true, decide_eq_true_eq, decide_eq_true_eq] at q
    exact q
  · exact of_decide_eq_true (List.all_eq_true.mp h7 y hy)
/-- how a def's arguments are bound -/
def BindI (i : DefI) : Prop := ∀ (kV doc pm : Value) (an : Option Addr) (cdv ct : Value) (us : List Value), us.length = i.ps.length → bindArgs (PySem.W.fnOf i.d.name i.d.qual i.d.params i.d.body i.d.scope .none kV doc pm an cdv ct) ⟨us, []⟩ = pure (i.ps.zip us)
theorem says_all {fa : List He.Fa} {fn : List He.DefD} {K : PySem.W.Frag} (c : He.SaysD fa fn K) : ∀ f ∈ fa, f.ok K = true := fun f hf => by
  obtain ⟨i, h⟩ := List.getElem?_of_mem hf
  exact c.fact i h
section
variable {P : Program} {w : World} {K : PySem.W.Frag} {mg : Str → Option Value} {base : PySem.Heap} {t : Tab} {k : Nat} {W : L2.WX} {h : PySem.Heap}
theorem lookup_mem {α β : Type} [BEq α] [LawfulBEq α] {x : α} {v : β} : ∀ {l : List (α × β)}, l.lookup x = some v → (x, v) ∈ l
  | [], h => by cases h
  | (y, u) :: l, h => by
    rw [List.lookup_cons] at h
    split at h
    · rename_i e
      rw [eq_of_beq e]
      cases h
      exact List.mem_cons_self ..
    · exact List.mem_cons_of_mem _ (lookup_mem h)
theorem defs_at {t : Tab} {f : Nat} {p : Str × Option Str} (h1 : t.fnN f = p) (h2 : f < t.defs.length) : ∃ i, t.defs[f]? = some i ∧ i.d.at_ = p := by
  refine ⟨t.defs[f], List.getElem?_eq_getElem h2, ?_⟩
  unfold Tab.fnN at h1
  rw [List.getElem?_eq_getElem h2] at h1
  exact h1
def PrgOk (P : Program) (t : Tab) : Prop := P.main.file = t.file ∧ (P.main.scope.names.lookup ("super" : Str)).isSome = false
/-- what the checker leans on, at a level where the defs keep their promises -/
theorem tab_gd (hP : PrgOk P t) (X : K.In h) (G : h.Ns mainGlobals mg) (c0 : SaysX t.fa t.fx t.dfs K) (ok : t.okB = true) (i : DefI) (h1 : ∀ f, f < t.defs.length → FnAt P w (t.L K) mg base t.T k f) (h0 : ∀ j f, k = j + 1 → f < t.defs.length → FnAt P w (t.L K) mg base t.T j f) :
    Gd (ctxD P w (t.L K) mg base t.T i.N i.d.scope k W) (t.cs i) := by
  have c := c0.1
  unfold Tab.okB at ok
  rw [Bool.and_eq_true, Bool.and_eq_true] at ok
  obtain ⟨⟨okg, okm⟩, okd⟩ := ok
  have F := says_all c
  have fg : ∀ x g, t.gn.lookup x = some g → (∀ f ∈ t.faG (x, g), f.ok K = true) ∧ t.okG (x, g) = true := fun x g e => by
    have m := lookup_mem e
    refine ⟨fun f hf => F f ?_, List.all_eq_true.mp okg _ m⟩
    unfold Tab.fa
    exact List.mem_append_left _ (List.mem_flatMap.mpr ⟨_, m, hf⟩)
  have fc : ∀ k, t.ob.contains k = true → ∀ f ∈ t.faC k, f.ok K = true := fun k e f hf => F f <| by
    unfold Tab.fa
    exact List.mem_append_right _ (List.mem_append_left _ (List.mem_flatMap.mpr ⟨k, by rw [List.contains_iff_mem] at e; exact e, hf⟩))
  have cl : ∀ k, t.ob.contains k = true → Cls K (He.ga K (t.clN k)) := fun k e => He.cls_ok (fc k e _ (List.mem_cons_self ..))
  have cl2 : ∀ k', (t.L K).isO k' = true → t.ob.contains k' = true := fun k' e => e
  refine ⟨rfl, rfl, rfl, rfl, rfl, fun x f e => ?_, fun x k' e => ?_, fun x g e => ?_, fun x k' e => ?_, fun x e => ?_, fun f e => ⟨fun k' e2 => ⟨cl k' e2, ?_⟩⟩, fun m e => ⟨fun k' f e2 e3 => ⟨cl k' e2, ?_⟩⟩, fun _ => ⟨rfl, fun _ _ z => z⟩, fun x k' e => ?_, (fun h => nomatch h), fun j k' hj hk => ?_, fun x k' e => ?_, fun j f hj hf => ?_⟩
  · obtain ⟨a, b⟩ := fg x _ e
    unfold Tab.okG at b
    simp only [Bool.and_eq_true, decide_eq_true_eq] at b
    refine ⟨?_, h1 f b.2⟩
    have q := He.glo_ok X G (a _ (List.mem_cons_self ..))
    show mg x = some (.ref (He.fAd K (t.fnN f)))
    rw [q, b.1]
    rfl
  · obtain ⟨a, b⟩ := fg x _ e
    unfold Tab.okG at b
    simp only [Bool.and_eq_true, decide_eq_true_eq] at b
    obtain ⟨⟨b1, b2⟩, b3⟩ := b
    split at b3
    · rename_i f hf
      rw [Bool.and_eq_true, decide_eq_true_eq, decide_eq_true_eq] at b3
      have q := He.glo_ok X G (a _ (List.mem_cons_self ..))
      have mk : (He.Fa.mkr (t.clN k')).ok K = true := F _ <| by
        unfold Tab.fa
        refine List.mem_append_right _ (List.mem_append_right _ (List.mem_append_right _ (List.mem_append_left _ (List.mem_flatMap.mpr ⟨(k', f), List.mem_filter.mpr ⟨lookup_mem hf, b2⟩, List.mem_singleton.mpr rfl⟩))))
      have e2 : He.fAd K (t.fnN f) = He.ma K (He.ga K (t.clN k')) "__init__" := by rw [b3.1, b1]; rfl
      refine ⟨?_, b2, f, hf, ?_, ?_, fun j ej => h0 j f ej b3.2⟩
      · show mg x = some (.ref (He.ga K (t.clN k')))
        rw [q, b1]
      · show Mk K (He.ga K (t.clN k')) (He.fAd K (t.fnN f))
        rw [e2]
        exact He.mkr_ok mk
      · obtain ⟨fd, ps, _, _, hb⟩ := (h1 f b3.2).ex
        exact ⟨fd, ps, hb⟩
    · cases b3
  · obtain ⟨a, b⟩ := fg x _ e
    have b' : (match t.gls[g]? with
      | some (y, .int _) => decide (y = x)
      | some (y, .str _) => decide (y = x)
      | some (y, .tup _) => decide (y = x)
      | _ => false) = true := b
    have a' : ∀ f ∈ (match t.gls[g]? with
      | some (_, .int i) => [He.Fa.int x i]
      | some (_, .str z) => [He.Fa.str x z]
      | some (_, .tup _) => [He.Fa.glo x]
      | _ => []), f.ok K = true := a
    have all : ∀ f ∈ t.fx, f.ok K = true := fun f hf => by
      obtain ⟨i, h⟩ := List.getElem?_of_mem hf
      exact c0.2 i f h
    have hm := lookup_mem e
    cases hj : t.gls[g]? with
    | none => rw [hj] at b'; cases b'
    | some p =>
      obtain ⟨y, d⟩ := p
      rw [hj] at a' b'
      cases d with
      | int j =>
        obtain ⟨tk, q⟩ := He.int_ok X G (a' _ (List.mem_cons_self ..))
        exact ⟨.int j, .int j, _, by show (t.gls.map (·.2))[g]? = _; rw [List.getElem?_map, hj]; rfl, q, ⟨tk, rfl⟩, .int j⟩
      | str j =>
        obtain ⟨tk, q⟩ := He.str_ok X G (a' _ (List.mem_cons_self ..))
        exact ⟨.str j, .str j, _, by show (t.gls.map (·.2))[g]? = _; rw [List.getElem?_map, hj]; rfl, q, ⟨tk, rfl⟩, .str j⟩
      | tup zs =>
        have q := He.glo_ok X G (a' _ (List.mem_cons_self ..))
        have q2 : (Fx.tup x zs).ok K = true := all _ (List.mem_append_right _ (List.mem_append_right _ (List.mem_flatMap.mpr ⟨_, hm, by
          show Fx.tup x zs ∈ (match t.gls[g]? with
            | some (_, .tup zs) => [Fx.tup x zs]
            | _ => [])
          rw [hj]; exact List.mem_singleton.mpr rfl⟩)))
        exact ⟨.tup zs, .ref (He.ga K x), _, by show (t.gls.map (·.2))[g]? = _; rw [List.getElem?_map, hj]; rfl, q, rfl, tupB_ok (L := t.L K) q2⟩
      | _ => cases b'
  · obtain ⟨a, b⟩ := fg x _ e
    unfold Tab.okG at b
    simp only [Bool.and_eq_true, decide_eq_true_eq] at b
    obtain ⟨⟨b1, b2⟩, b3⟩ := b
    have q := He.glo_ok X G (a _ (List.mem_cons_self ..))
    have q2 := He.exc_ok (a _ (List.mem_cons_of_mem _ (List.mem_cons_self ..)))
    refine ⟨?_, ?_, ?_, ?_, ?_, ?_, b2, fun j hj => ?_⟩
    · show (match t.exf.lookup k' with
        | some f => ExK.fld f
        | none => if t.xs.contains k' then .pl else .no) = .pl
      split at b3
      · cases b3
      · rename_i hn
        rw [b2]
        rfl
    · show mg x = some (.ref (He.ga K (t.clN k')))
      rw [q, b1]
    · show PySem.W.excIn K (He.ga K (t.clN k')) _ _ = true
      rw [b1]; exact q2.1
    · show PySem.W.keepIn K (.ref (He.ga K (t.clN k'))) = true
      rw [b1]; exact q2.2.1
    · show PySem.W.subIn K (.ref (He.ga K (t.clN k'))) _ = some true
      rw [b1]; exact q2.2.2.1
    · show PySem.W.typeIn K (.ref (He.ga K (t.clN k'))) = _
      rw [b1]; exact q2.2.2.2
    · have hj' : t.xs.contains j = true := hj
      rw [List.contains_iff_mem] at hj'
      have q3 := He.exm_ok (K := K) (a (.exm (t.clN j) x (t.T.sub j k')) (List.mem_cons_of_mem _ (List.mem_cons_of_mem _ (List.mem_map.mpr ⟨j, hj', rfl⟩))))
      show PySem.W.exmOne K (.ref (He.ga K (t.clN j))) (.ref (He.ga K (t.clN k'))) = some (t.T.sub j k')
      rw [b1]; exact q3
  · obtain ⟨a, b⟩ := fg x _ e
    exact He.free_ok X G (a _ (List.mem_cons_self ..))
  · have e' : t.fl.contains f = true := e
    rw [List.contains_iff_mem] at e'
    exact He.noat_ok (fc k' e2 _ (List.mem_cons_of_mem _ (List.mem_map.mpr ⟨f, e', rfl⟩)))
  · have e3' : (t.meths.find? fun q => q.1 == k' && q.2.1 == m).map (·.2.2) = some f := e3
    cases hq : t.meths.find? fun q => q.1 == k' && q.2.1 == m with
    | none => rw [hq] at e3'; cases e3'
    | some q =>
      rw [hq] at e3'
      have e4 : q.2.2 = f := Option.some.inj e3'
      have mm := List.mem_of_find?_eq_some hq
      have pq := List.find?_some hq
      rw [Bool.and_eq_true, beq_iff_eq, beq_iff_eq] at pq
      have e2' : t.ob.contains k' = true := e2
      have b := List.all_eq_true.mp okm q mm
      unfold Tab.okM at b
      rw [pq.1, e2', Bool.not_true, Bool.false_or, Bool.and_eq_true, decide_eq_true_eq, decide_eq_true_eq, e4, pq.2] at b
      refine ⟨?_, h1 f b.2⟩
      have mt : (He.Fa.meth (t.clN k') m).ok K = true := F _ <| by
        unfold Tab.fa
        refine List.mem_append_right _ (List.mem_append_right _ (List.mem_append_left _ (List.mem_flatMap.mpr ⟨q, List.mem_filter.mpr ⟨mm, by rw [pq.1]; exact e2'⟩, List.mem_singleton.mpr (by rw [pq.1, pq.2])⟩)))
      show Meth K (He.ga K (t.clN k')) m (He.fAd K (t.fnN f))
      rw [b.1]
      exact He.meth_ok mt
  · obtain ⟨a, b⟩ := fg x _ e
    have b' : (decide (t.clN k' = x) && t.xs.contains k') = true := b
    rw [Bool.and_eq_true, decide_eq_true_eq] at b'
    have q := He.glo_ok X G (a _ (List.mem_cons_self ..))
    refine ⟨?_, b'.2⟩
    show mg x = some (.ref (He.ga K (t.clN k')))
    rw [q, b'.1]
  · have all : ∀ f ∈ t.fx, f.ok K = true := fun f hf => by
      obtain ⟨i, h⟩ := List.getElem?_of_mem hf
      exact c0.2 i f h
    have hj' : t.xs.contains j = true := hj
    have hk' : t.xs.contains k' = true := hk
    rw [List.contains_iff_mem] at hj' hk'
    have q1 : (Fx.exc (t.clN j)).ok K = true := all _ (List.mem_append_left _ (List.mem_map.mpr ⟨j, hj', rfl⟩))
    have q2 : (Fx.kit (t.clN j) (t.clN k') (t.T.sub j k')).ok K = true := all _ (List.mem_append_right _ (List.mem_append_left _ (List.mem_flatMap.mpr ⟨j, hj', List.mem_map.mpr ⟨k', hk', rfl⟩⟩)))
    exact ⟨excB_ok q1, of_decide_eq_true q2⟩
  · have hm := lookup_mem (show t.gn.lookup x = some (.ef k') from e)
    obtain ⟨a, b⟩ := fg x _ e
    have b' : (decide (t.clN k' = x) && t.xs.contains k' && (t.exf.lookup k').isSome) = true := b
    simp only [Bool.and_eq_true, decide_eq_true_eq] at b'
    obtain ⟨⟨b1, b2⟩, b3⟩ := b'
    obtain ⟨f, hf⟩ := Option.isSome_iff_exists.mp b3
    have q := He.glo_ok X G (a _ (List.mem_cons_self ..))
    have all : ∀ f ∈ t.fx, f.ok K = true := fun f hf => by
      obtain ⟨i, h⟩ := List.getElem?_of_mem hf
      exact c0.2 i f h
    have q2 : (Fx.ini x f t.file).ok K = true := all _ (List.mem_append_right _ (List.mem_append_right _ (List.mem_flatMap.mpr ⟨_, hm, by
      show Fx.ini x f t.file ∈ (match t.exf.lookup k' with
        | some f => [Fx.ini x f t.file]
        | none => [])
      rw [hf]; exact List.mem_singleton.mpr rfl⟩)))
    obtain ⟨T, fI, fd, ps, i1, i2, i3, i4⟩ := ini_ok (P := P) (show iniB K t.file x f = true from q2) hP.1 hP.2 X G
    have ec : (t.L K).clA k' = He.ga K x := by show He.ga K (t.clN k') = _; rw [b1]
    refine ⟨?_, b2, fun j hj => ?_, f, ?_, ?_, fI, fd, ps, ?_, i2, ?_, i4⟩
    · show mg x = some (.ref ((t.L K).clA k'))
      rw [q, ec]
    · have hj' : t.xs.contains j = true := hj
      rw [List.contains_iff_mem] at hj'
      have q3 := He.exm_ok (K := K) (a (.exm (t.clN j) x (t.T.sub j k')) (List.mem_cons_of_mem _ (List.mem_map.mpr ⟨j, hj', rfl⟩)))
      show PySem.W.exmOne K (.ref (He.ga K (t.clN j))) (.ref ((t.L K).clA k')) = some (t.T.sub j k')
      rw [ec]; exact q3
    · show (match t.exf.lookup k' with
        | some f => ExK.fld f
        | none => if t.xs.contains k' then .pl else .no) = .fld f
      rw [hf]
    · show OexC K ((t.L K).clA k')
      rw [ec]; exact T
    · show PySem.W.findIn K (.ref ((t.L K).clA k')) "__init__" = _
      rw [ec]; exact i1
    · show FnOk P w K mg base (L2.CX P w) 1 fI fd ps (spIni ((t.L K).clA k') f)
      rw [ec]; exact i3 _ _ _
  · have hj' : t.xs.contains j = true := hj
    have hf' : (t.exf.map (·.2)).contains f = true := hf
    rw [List.contains_iff_mem] at hj' hf'
    obtain ⟨q, hq, rfl⟩ := List.mem_map.mp hf'
    have z : (He.Fa.noat (t.clN j) q.2).ok K = true := F _ <| by
      unfold Tab.fa
      exact List.mem_append_right _ (List.mem_append_right _ (List.mem_append_right _ (List.mem_append_right _ (List.mem_flatMap.mpr ⟨j, hj', List.mem_map.mpr ⟨q, hq, rfl⟩⟩))))
    exact He.noat_ok z
/-- every def of the table keeps its promise, at every level -/
theorem tab_ok (hP : PrgOk P t) (X : K.In h) (G : h.Ns mainGlobals mg) (c0 : SaysX t.fa t.fx t.dfs K) (ok : t.okB = true) (ck : t.okC = true) (hb : ∀ i ∈ t.defs, BindI i) : ∀ (k f : Nat), f < t.defs.length → FnAt P w (t.L K) mg base t.T k f := by
  have c := c0.1
  have base0 : ∀ (k f : Nat), f < t.defs.length → (∀ g, g < t.defs.length → FnAt P w (t.L K) mg base t.T k g) → (∀ j g, k = j + 1 → g < t.defs.length → FnAt P w (t.L K) mg base t.T j g) → FnAt P w (t.L K) mg base t.T (k + 1) f := fun k f hf h1 h0 => by
    have hi := List.getElem?_eq_getElem hf
    have hm := List.getElem_mem hf
    generalize t.defs[f] = i at hi hm
    have okd : Tab.dfB i = true := by
      unfold Tab.okB at ok
      rw [Bool.and_eq_true] at ok
      exact List.all_eq_true.mp ok.2 i hm
    unfold Tab.dfB at okd
    simp only [Bool.and_eq_true, decide_eq_true_eq, List.isEmpty_iff] at okd
    obtain ⟨⟨⟨⟨o1, o2⟩, o3⟩, o4⟩, o5⟩ := okd
    have ea : He.fAd K (t.fnN f) = He.fAd K i.d.at_ := by unfold Tab.fnN; rw [hi]
    obtain ⟨fd, FD⟩ := c.def_ f (d := i.d) (by unfold Tab.dfs; rw [List.getElem?_map, hi]; rfl)
    have e1 : i.d.dvs K = [] := by unfold He.DefD.dvs; rw [o1]; rfl
    have e2 : i.d.kws K = [] := by unfold He.DefD.kws; rw [o2]; rfl
    rw [e1, e2, ← ea] at FD
    refine ⟨fd, i.ps, fn_ok (cs := t.cs i) (fn := i.fn) FD (scB_ok o3) ?_ o4 o5 (fun W => tab_gd hP X G c0 ok i h1 h0) (List.all_eq_true.mp ck i hm), FD.kp, FD.bindsN (hb i hm)⟩
    show (t.defs.map (·.fn))[f]? = some i.fn
    rw [List.getElem?_map, hi]; rfl
  have zero : ∀ f, f < t.defs.length → FnAt P w (t.L K) mg base t.T 0 f := fun f hf => by
    have hi := List.getElem?_eq_getElem hf
    have hm := List.getElem_mem hf
    generalize t.defs[f] = i at hi hm
    have ea : He.fAd K (t.fnN f) = He.fAd K i.d.at_ := by unfold Tab.fnN; rw [hi]
    have okd : Tab.dfB i = true := by
      unfold Tab.okB at ok
      rw [Bool.and_eq_true] at ok
      exact List.all_eq_true.mp ok.2 i hm
    unfold Tab.dfB at okd
    simp only [Bool.and_eq_true, decide_eq_true_eq, List.isEmpty_iff] at okd
    obtain ⟨⟨⟨⟨o1, o2⟩, o3⟩, o4⟩, o5⟩ := okd
    obtain ⟨fd, FD⟩ := c.def_ f (d := i.d) (by unfold Tab.dfs; rw [List.getElem?_map, hi]; rfl)
    have e1 : i.d.dvs K = [] := by unfold He.DefD.dvs; rw [o1]; rfl
    have e2 : i.d.kws K = [] := by unfold He.DefD.kws; rw [o2]; rfl
    rw [e1, e2, ← ea] at FD
    exact ⟨fd, i.ps, fn_zero, FD.kp, FD.bindsN (hb i hm)⟩
  intro k
  have two : (∀ f, f < t.defs.length → FnAt P w (t.L K) mg base t.T k f) ∧ ∀ f, f < t.defs.length → FnAt P w (t.L K) mg base t.T (k + 1) f := by
    induction k with
    | zero => exact ⟨zero, fun f hf => base0 0 f hf zero fun j g e => by cases e⟩
    | succ k ih => exact ⟨ih.2, fun f hf => base0 (k + 1) f hf ih.2 fun j g e => by cases e; exact ih.1 g⟩
  exact two.1
end
/-! ### the law's end -/
/-- a promise without errors, where nothing is let out -/
theorem fn_c0 {P : Program} {w : World} {K : PySem.W.Frag} {mg : Str → Option Value} {base : PySem.Heap} {k : Nat} {f : Addr} {fd : FuncData} {ps : List Str} {sp : Sp} (F : FnOk P w K mg base (L2.CX P w) k f fd ps sp) :
    FnOk P w K mg base CX0 k f fd ps (fun vs H Q _ => sp vs H Q fun _ _ _ => False) :=
  ⟨fun vs H Q E h => F.len vs H Q _ h, fun A outer s H args us vs Q E hr e0 hb hv hs => codeAny_mono (F.run A outer s H args us vs Q (fun _ _ _ => False) hr e0 hb hv hs) fun r s' h => by
    cases r with
    | ok fl => cases fl <;> exact h
    | error e =>
      obtain ⟨_, _, _, _, _, _, _, _, _, _, _, _, z⟩ := h
      exact z.elim⟩
theorem drs_ofI {L : Lk} {G : Hp} : ∀ {ns : List Int}, Drs L G (ns.map V.int) (ns.map D.int)
  | [] => .nil
  | n :: ns => .cons (.int n) drs_ofI
theorem law_sp {L : Lk} {T : Tbl} {f k : Nat} {a : Addr} {H : Hp} {ns : List Int} (hS : SqL L.K H a (ns.map V.int)) (h : ∃ μ', run T k f [.d (.lst (ns.map D.int))] [] = .ok (.d (.bl true)) μ') :
    spZ L T f k [.ref a] H (fun v _ => v = .bl true) fun _ _ _ => False := by
  obtain ⟨μ', h⟩ := h
  refine ⟨H, [], [], [.d (.lst (ns.map D.int))], HR.nil (Ex.refl H), .cons (show Dr L H (.ref a) (.lst (ns.map D.int)) from .lst hS drs_ofI) .nil, ?_⟩
  rw [h]
  intro w G' H' ι' st hr rv
  exact dr_bl rv
/-- the law's def, as the end wants it -/
theorem tab_law {P : Program} {w : World} {K : PySem.W.Frag} {h : PySem.Heap} {mg : Str → Option Value} {t : Tab} {k f : Nat} {i : DefI} {fa : Addr} {x : Str} (hP : PrgOk P t) (X : K.In h) (G : h.Ns mainGlobals mg) (c0 : SaysX t.fa t.fx t.dfs K) (ok : t.okB = true) (ck : t.okC = true) (hb : ∀ i ∈ t.defs, BindI i)
    (hi : t.defs[f]? = some i) (hp : i.ps = [x]) (hat : i.d.at_ = (("law" : Str), none)) (hl : t.gn.lookup ("law" : Str) = some (.fn f)) (hfa : mg ("law" : Str) = some (.ref fa)) :
    ∃ fd : FuncData, (∀ (s : Shared) (v : Value), BindsTo s fd ⟨[v], []⟩ [(x, v)]) ∧ ∀ base : PySem.Heap, K.In base → base.Ns mainGlobals mg → FnOk P w K mg base CX0 (k + 1 + 2) fa fd [x] (fun vs H Q _ => spZ (t.L K) t.T f (k + 1) vs H Q fun _ _ _ => False) := by
  have c := c0.1
  have hf : f < t.defs.length := (List.getElem?_eq_some_iff.mp hi).1
  have hm := List.mem_of_getElem? hi
  obtain ⟨fd, FD⟩ := c.def_ f (d := i.d) (by unfold Tab.dfs; rw [List.getElem?_map, hi]; rfl)
  have okd : Tab.dfB i = true := by
    unfold Tab.okB at ok
    rw [Bool.and_eq_true] at ok
    exact List.all_eq_true.mp ok.2 i hm
  unfold Tab.dfB at okd
  simp only [Bool.and_eq_true, decide_eq_true_eq, List.isEmpty_iff] at okd
  obtain ⟨⟨⟨⟨o1, o2⟩, o3⟩, o4⟩, o5⟩ := okd
  have e1 : i.d.dvs K = [] := by unfold He.DefD.dvs; rw [o1]; rfl
  have e2 : i.d.kws K = [] := by unfold He.DefD.kws; rw [o2]; rfl
  have ea : He.fAd K (t.fnN f) = He.fAd K i.d.at_ := by unfold Tab.fnN; rw [hi]
  have efa : fa = He.fAd K i.d.at_ := by
    have F := says_all c
    have q := He.glo_ok X G (F (.glo "law") (by
      unfold Tab.fa
      exact List.mem_append_left _ (List.mem_flatMap.mpr ⟨_, lookup_mem hl, List.mem_singleton.mpr rfl⟩)))
    rw [hfa] at q
    rw [hat]
    exact (PySem.Value.ref.inj (Option.some.inj q))
  rw [e1, e2] at FD
  have B := FD.bindsA (hb i hm)
  refine ⟨fd, fun s v => ?_, fun base hK hN => ?_⟩
  · have q := B s [v] (by rw [hp]; rfl)
    rw [hp] at q
    exact q
  · rw [efa, ← ea]
    rw [← ea] at FD
    have q : FnOk P w K mg base (L2.CX P w) (k + 1 + 2) ((t.L K).fnA f) fd i.ps (spZ (t.L K) t.T f (k + 1)) := fn_ok (L := t.L K) (cs := t.cs i) (fn := i.fn) FD (scB_ok o3) (by show (t.defs.map (·.fn))[f]? = some i.fn; rw [List.getElem?_map, hi]; rfl) o4 o5 (fun W => tab_gd hP X G c0 ok i (fun g hg => tab_ok hP X G c0 ok ck hb k g hg) fun j g _ hg => tab_ok hP X G c0 ok ck hb j g hg) (List.all_eq_true.mp ck i hm)
    rw [hp] at q
    exact fn_c0 q
end Mp
end
section
set_option linter.all false
set_option autoImplicit false
namespace Mp
open PySem (Str)
/-! ### loops by an invariant -/
section
variable {α : Type} {step : Val → Slots → Heap → RS} {n : Nat}
theorem forL_invL {g : List (Nat × Cell)} (f : α → Val) (P : Nat → Slots → Heap → Prop) (hg : ∀ j δ μ, P j δ μ → guardOk g μ) : ∀ (xs : List α) (i : Nat) (δ : Slots) (μ : Heap), P i δ μ →
    (∀ j x δ μ, xs[j]? = some x → P (i + j) δ μ → ∃ δ' μ', step (f x) δ μ = .ok δ' .nx μ' ∧ P (i + j + 1) δ' μ') → ∃ δ' μ', forL false n g step (xs.map f) δ μ = .ok δ' .nx μ' ∧ P (i + xs.length) δ' μ'
  | [], i, δ, μ, h, _ => ⟨δ, μ, forL_nil (hg _ _ _ h) _, h⟩
  | x :: xs, i, δ, μ, h, hs => by
    obtain ⟨δ1, μ1, e, h1⟩ := hs 0 x δ μ rfl h
    rw [List.map_cons, forL_cons (hg _ _ _ h), e]
    obtain ⟨δ2, μ2, e2, h2⟩ := forL_invL f P hg xs (i + 1) δ1 μ1 h1 fun j y δ μ hy hp => by
      have := hs (j + 1) y δ μ hy
      rw [show i + (j + 1) = i + 1 + j by omega] at this
      exact this hp
    refine ⟨δ2, μ2, e2, ?_⟩
    rw [List.length_cons, show i + (xs.length + 1) = i + 1 + xs.length by omega]
    exact h2
theorem forL_inv0 {g : List (Nat × Cell)} {xs : List α} (f : α → Val) (P : Nat → Slots → Heap → Prop) {δ : Slots} {μ : Heap} (h : P 0 δ μ) (hg : ∀ j δ μ, P j δ μ → guardOk g μ)
    (hs : ∀ j x δ μ, xs[j]? = some x → P j δ μ → ∃ δ' μ', step (f x) δ μ = .ok δ' .nx μ' ∧ P (j + 1) δ' μ') : ∃ δ' μ', forL false n g step (xs.map f) δ μ = .ok δ' .nx μ' ∧ P xs.length δ' μ' := by
  have := forL_invL (n := n) f P hg xs 0 δ μ h fun j x δ μ hx hp => by
    rw [Nat.zero_add] at hp ⊢
    exact hs j x δ μ hx hp
  rwa [Nat.zero_add] at this
theorem forL_invR {lo : Int} {m : Nat} (P : Nat → Slots → Heap → Prop) {δ : Slots} {μ : Heap} (h : P 0 δ μ)
    (hs : ∀ j δ μ, j < m → P j δ μ → ∃ δ' μ', step (.d (.int (lo + j))) δ μ = .ok δ' .nx μ' ∧ P (j + 1) δ' μ') : ∃ δ' μ', forL false n [] step (rngVals lo m) δ μ = .ok δ' .nx μ' ∧ P m δ' μ' := by
  have := forL_inv0 (g := []) (step := step) (n := n) (xs := List.range m) (fun k : Nat => Val.d (.int (lo + k))) P h (fun _ _ _ _ => trivial) fun j x δ μ hx hp => by
    obtain ⟨hj, rfl⟩ := List.getElem?_eq_some_iff.mp hx
    rw [List.length_range] at hj
    rw [List.getElem_range]
    exact hs j δ μ hj hp
  rwa [List.length_range] at this
end
end Mp
end
section
set_option linter.all false
set_option autoImplicit false
namespace Mp
section
variable (T : Tbl) (R R1 : Run)
/-- a suite's rest, not yet opened -/
noncomputable def sq (r : RS) (ss : Ss) : RS := r.seq fun δ μ => exSs T R R1 ss δ μ
noncomputable def ifq (r : Res Bool) (δ : Slots) (a b : Ss) : RS := r.then_ δ fun r μ => if r = true then exSs T R R1 a δ μ else exSs T R R1 b δ μ
variable {T R R1}
theorem exSs_consq {s : S} {ss : Ss} {δ : Slots} {μ : Heap} : exSs T R R1 (.cons s ss) δ μ = sq T R R1 (exS T R R1 s δ μ) ss := rfl
theorem exS_ifq {c : Tt} {a b : Ss} {δ : Slots} {μ : Heap} : exS T R R1 (.ife c a b) δ μ = ifq T R R1 (evt T R R1 c δ μ) δ a b := rfl
theorem sq_nx {ss : Ss} {δ : Slots} {μ : Heap} : sq T R R1 (.ok δ .nx μ) ss = exSs T R R1 ss δ μ := rfl
theorem sq_rt {ss : Ss} {δ : Slots} {v : Val} {μ : Heap} : sq T R R1 (.ok δ (.rt v) μ) ss = .ok δ (.rt v) μ := rfl
theorem sq_bk {ss : Ss} {δ : Slots} {μ : Heap} : sq T R R1 (.ok δ .bk μ) ss = .ok δ .bk μ := rfl
theorem sq_ct {ss : Ss} {δ : Slots} {μ : Heap} : sq T R R1 (.ok δ .ct μ) ss = .ok δ .ct μ := rfl
theorem sq_ex {ss : Ss} {δ : Slots} {x : Exn} {μ : Heap} : sq T R R1 (.ex x δ μ) ss = .ex x δ μ := rfl
theorem ifq_ok {b : Bool} {δ : Slots} {μ : Heap} {x y : Ss} : ifq T R R1 (.ok b μ) δ x y = if b = true then exSs T R R1 x δ μ else exSs T R R1 y δ μ := rfl
theorem ifq_t {δ : Slots} {μ : Heap} {x y : Ss} : ifq T R R1 (.ok true μ) δ x y = exSs T R R1 x δ μ := rfl
theorem ifq_f {δ : Slots} {μ : Heap} {x y : Ss} : ifq T R R1 (.ok false μ) δ x y = exSs T R R1 y δ μ := rfl
theorem ifq_ex {x' : Exn} {δ : Slots} {μ : Heap} {x y : Ss} : ifq T R R1 (.ex x' μ) δ x y = .ex x' δ μ := rfl
theorem ifq_pos {c : Prop} [Decidable c] (h : c) {δ : Slots} {μ : Heap} {x y : Ss} : ifq T R R1 (.ok (decide c) μ) δ x y = exSs T R R1 x δ μ := by rw [decide_eq_true h]; rfl
theorem ifq_neg {c : Prop} [Decidable c] (h : ¬ c) {δ : Slots} {μ : Heap} {x y : Ss} : ifq T R R1 (.ok (decide c) μ) δ x y = exSs T R R1 y δ μ := by rw [decide_eq_false h]; rfl
end
end Mp
namespace Mp
/-! ### by postconditions -/
def Wr (r : RS) (Q : RS → Prop) : Prop := Q r
def Wv (r : Res Val) (Q : Val → Heap → Prop) : Prop := ∃ v μ, r = .ok v μ ∧ Q v μ
/-- what a body's end must be -/
def finQ (Q : Val → Heap → Prop) : RS → Prop
  | .ok _ .nx μ => Q (.d .non) μ
  | .ok _ (.rt v) μ => Q v μ
  | _ => False
/-- a state, as told -/
def Sx (p : Prop) (δ δ' : Slots) (μ μ' : Heap) : Prop := p ∧ δ = δ' ∧ μ = μ'
def bkQ (T : Tbl) (R R1 : Run) (ss : Ss) (Q : RS → Prop) : Slots → Heap → Prop := fun δ μ => Wr (exSs T R R1 ss δ μ) Q
/-- what a turn's end must be; ss: what stands behind the loop -/
def lpQ (T : Tbl) (R R1 : Run) (gc : Bool) (n : Nat) (P : Slots → Heap → Prop) (ss : Ss) (Q : RS → Prop) : RS → Prop
  | .ok δ .nx μ => ∃ μ2, gcTo gc n δ μ = some μ2 ∧ P δ μ2
  | .ok δ .ct μ => ∃ μ2, gcTo gc n δ μ = some μ2 ∧ P δ μ2
  | .ok δ .bk μ => bkQ T R R1 ss Q δ μ
  | r => Q r
def sqQ (T : Tbl) (R R1 : Run) (ss : Ss) (Q : RS → Prop) : RS → Prop := fun r => Wr (sq T R R1 r ss) Q
section
variable {T : Tbl} {R R1 : Run} {α : Type}
theorem sqQ_in {r : RS} {a b : Ss} {Q : RS → Prop} : Wr (sq T R R1 (sq T R R1 r a) b) Q ↔ Wr (sq T R R1 r a) (sqQ T R R1 b Q) := Iff.rfl
theorem sqQ_nx {b : Ss} {Q : RS → Prop} {δ : Slots} {μ : Heap} : Wr (.ok δ .nx μ) (sqQ T R R1 b Q) ↔ Wr (exSs T R R1 b δ μ) Q := Iff.rfl
theorem sqQ_bk {b : Ss} {Q : RS → Prop} {δ : Slots} {μ : Heap} : Wr (.ok δ .bk μ) (sqQ T R R1 b Q) ↔ Wr (.ok δ .bk μ) Q := Iff.rfl
theorem sqQ_ct {b : Ss} {Q : RS → Prop} {δ : Slots} {μ : Heap} : Wr (.ok δ .ct μ) (sqQ T R R1 b Q) ↔ Wr (.ok δ .ct μ) Q := Iff.rfl
theorem sqQ_rt {b : Ss} {Q : RS → Prop} {δ : Slots} {v : Val} {μ : Heap} : Wr (.ok δ (.rt v) μ) (sqQ T R R1 b Q) ↔ Wr (.ok δ (.rt v) μ) Q := Iff.rfl
theorem sqQ_ex {b : Ss} {Q : RS → Prop} {x : Exn} {δ : Slots} {μ : Heap} : Wr (.ex x δ μ) (sqQ T R R1 b Q) ↔ Wr (.ex x δ μ) Q := Iff.rfl
theorem bkQ_def {ss : Ss} {Q : RS → Prop} {δ : Slots} {μ : Heap} : bkQ T R R1 ss Q δ μ ↔ Wr (exSs T R R1 ss δ μ) Q := Iff.rfl
theorem w_fin {r : RS} {Q : Val → Heap → Prop} (h : Wr r (finQ Q)) : Wv r.fin Q := by
  cases r with
  | ok δ f μ => cases f with
    | nx => exact ⟨_, _, rfl, h⟩
    | rt v => exact ⟨_, _, rfl, h⟩
    | bk => exact h.elim
    | ct => exact h.elim
  | ex x δ μ => exact h.elim
  | bad => exact h.elim
theorem w_run {f : Nat} {fn : Fn} {k : Nat} {args : List Val} {μ : Heap} {Q : Val → Heap → Prop} (h : T.fn f = some fn) (hl : args.length = fn.npar)
    (w : Wr (exSs T (run T k) (run1 T k) fn.body (args.map some ++ List.replicate (fn.nslot - fn.npar) none) μ) (finQ Q)) : Wv (run T (k + 1) f args μ) Q := by
  rw [run_of h k args μ hl]
  exact w_fin w
theorem fq_nx {Q : Val → Heap → Prop} {δ : Slots} {μ : Heap} : Wr (.ok δ .nx μ) (finQ Q) ↔ Q (.d .non) μ := Iff.rfl
theorem fq_rt {Q : Val → Heap → Prop} {δ : Slots} {v : Val} {μ : Heap} : Wr (.ok δ (.rt v) μ) (finQ Q) ↔ Q v μ := Iff.rfl
theorem lq_nx {P : Slots → Heap → Prop} {ss : Ss} {Q : RS → Prop} {n : Nat} {δ : Slots} {μ : Heap} : Wr (.ok δ .nx μ) (lpQ T R R1 false n P ss Q) ↔ P δ μ := ⟨fun ⟨_, e, h⟩ => by cases e; exact h, fun h => ⟨_, rfl, h⟩⟩
theorem lq_ct {P : Slots → Heap → Prop} {ss : Ss} {Q : RS → Prop} {n : Nat} {δ : Slots} {μ : Heap} : Wr (.ok δ .ct μ) (lpQ T R R1 false n P ss Q) ↔ P δ μ := ⟨fun ⟨_, e, h⟩ => by cases e; exact h, fun h => ⟨_, rfl, h⟩⟩
theorem lq_nxg {P : Slots → Heap → Prop} {ss : Ss} {Q : RS → Prop} {n : Nat} {δ : Slots} {μ : Heap} : Wr (.ok δ .nx μ) (lpQ T R R1 true n P ss Q) ↔ ∃ μ2, gcTo true n δ μ = some μ2 ∧ P δ μ2 := Iff.rfl
theorem lq_ctg {P : Slots → Heap → Prop} {ss : Ss} {Q : RS → Prop} {n : Nat} {δ : Slots} {μ : Heap} : Wr (.ok δ .ct μ) (lpQ T R R1 true n P ss Q) ↔ ∃ μ2, gcTo true n δ μ = some μ2 ∧ P δ μ2 := Iff.rfl
theorem lq_bk {P : Slots → Heap → Prop} {ss : Ss} {Q : RS → Prop} {gc : Bool} {n : Nat} {δ : Slots} {μ : Heap} : Wr (.ok δ .bk μ) (lpQ T R R1 gc n P ss Q) ↔ Wr (exSs T R R1 ss δ μ) Q := Iff.rfl
theorem lq_rt {P : Slots → Heap → Prop} {ss : Ss} {Q : RS → Prop} {gc : Bool} {n : Nat} {δ : Slots} {v : Val} {μ : Heap} : Wr (.ok δ (.rt v) μ) (lpQ T R R1 gc n P ss Q) ↔ Wr (.ok δ (.rt v) μ) Q := Iff.rfl
theorem lq_ex {P : Slots → Heap → Prop} {ss : Ss} {Q : RS → Prop} {gc : Bool} {n : Nat} {x : Exn} {δ : Slots} {μ : Heap} : Wr (.ex x δ μ) (lpQ T R R1 gc n P ss Q) ↔ Wr (.ex x δ μ) Q := Iff.rfl
theorem w_turn {r : RS} {gc : Bool} {n : Nat} {k : Slots → Heap → RS} {ss : Ss} {Q : RS → Prop} {P : Slots → Heap → Prop} (h : Wr r (lpQ T R R1 gc n P ss Q)) (hk : ∀ δ μ, P δ μ → Wr (sq T R R1 (k δ μ) ss) Q) (hq : ∀ δ f μ, f ≠ .bk → f ≠ .nx → f ≠ .ct → Q (.ok δ f μ) → Q (sq T R R1 (.ok δ f μ) ss)) : Wr (sq T R R1 (r.turn gc n k) ss) Q := by
  cases r with
  | bad => exact h
  | ex x δ μ => exact h
  | ok δ f μ => cases f with
    | nx =>
      obtain ⟨μ2, e, h⟩ := h
      have : (RS.ok δ .nx μ).turn gc n k = k δ μ2 := by unfold RS.turn; simp only [e]
      rw [this]; exact hk _ _ h
    | ct =>
      obtain ⟨μ2, e, h⟩ := h
      have : (RS.ok δ .ct μ).turn gc n k = k δ μ2 := by unfold RS.turn; simp only [e]
      rw [this]; exact hk _ _ h
    | bk => exact h
    | rt v => exact h
/-- a loop over anything -/
theorem w_forG {gc : Bool} {n : Nat} {g : List (Nat × Cell)} {step : Val → Slots → Heap → RS} {ss : Ss} {Q : RS → Prop} (P : Nat → Slots → Heap → Prop) (hg : ∀ j δ μ, P j δ μ → guardOk g μ) : ∀ (vs : List Val) (i : Nat) {δ : Slots} {μ : Heap}, P i δ μ →
    (∀ j v δ μ, vs[j]? = some v → P (i + j) δ μ → Wr (step v δ μ) (lpQ T R R1 gc n (P (i + j + 1)) ss Q)) → (∀ δ μ, P (i + vs.length) δ μ → Wr (exSs T R R1 ss δ μ) Q) → Wr (sq T R R1 (forL gc n g step vs δ μ) ss) Q
  | [], i, δ, μ, h0, hs, he => by rw [forL_nil (hg _ _ _ h0)]; exact he _ _ h0
  | v :: vs, i, δ, μ, h0, hs, he => by
    rw [forL_cons (hg _ _ _ h0)]
    refine w_turn (hs 0 v δ μ rfl h0) (fun δ2 μ2 h2 => ?_) fun δ f μ a b c h => by
      cases f with
      | bk => exact absurd rfl a
      | nx => exact absurd rfl b
      | ct => exact absurd rfl c
      | rt v => exact h
    refine w_forG P hg vs (i + 1) h2 (fun j v δ μ hv hp => ?_) fun δ μ hp => he δ μ ?_
    · have := hs (j + 1) v δ μ hv
      rw [show i + (j + 1) = i + 1 + j by omega] at this
      exact this hp
    · rw [List.length_cons, show i + (vs.length + 1) = i + 1 + vs.length by omega]
      exact hp
/-- .. over a range -/
theorem w_forR {gc : Bool} {n : Nat} {lo : Int} {m : Nat} {step : Val → Slots → Heap → RS} {ss : Ss} {Q : RS → Prop} {δ : Slots} {μ : Heap} (P : Nat → Slots → Heap → Prop) (h0 : P 0 δ μ)
    (hs : ∀ j δ μ, j < m → P j δ μ → Wr (step (.d (.int (lo + j))) δ μ) (lpQ T R R1 gc n (P (j + 1)) ss Q)) (he : ∀ δ μ, P m δ μ → Wr (exSs T R R1 ss δ μ) Q) : Wr (sq T R R1 (forL gc n [] step (rngVals lo m) δ μ) ss) Q := by
  have hl : (rngVals lo m).length = m := by unfold rngVals; rw [List.length_map, List.length_range]
  refine w_forG (g := []) P (fun _ _ _ _ => trivial) (rngVals lo m) 0 h0 (fun j v δ μ hv hp => ?_) fun δ μ hp => he δ μ ?_
  · rw [Nat.zero_add] at hp ⊢
    unfold rngVals at hv
    rw [List.getElem?_map, Option.map_eq_some_iff] at hv
    obtain ⟨a, ha, rfl⟩ := hv
    obtain ⟨hj, rfl⟩ := List.getElem?_eq_some_iff.mp ha
    rw [List.length_range] at hj
    rw [List.getElem_range]
    exact hs j δ μ hj hp
  · rw [Nat.zero_add, hl] at hp
    exact hp
/-- .. over a list's items -/
theorem w_forL {gc : Bool} {n : Nat} {g : List (Nat × Cell)} {step : Val → Slots → Heap → RS} {ss : Ss} {Q : RS → Prop} {δ : Slots} {μ : Heap} {f : α → Val} {xs : List α} (P : Nat → Slots → Heap → Prop) (hg : ∀ j δ μ, P j δ μ → guardOk g μ) (h0 : P 0 δ μ)
    (hs : ∀ j x δ μ, xs[j]? = some x → P j δ μ → Wr (step (f x) δ μ) (lpQ T R R1 gc n (P (j + 1)) ss Q)) (he : ∀ δ μ, P xs.length δ μ → Wr (exSs T R R1 ss δ μ) Q) : Wr (sq T R R1 (forL gc n g step (xs.map f) δ μ) ss) Q := by
  refine w_forG P hg (xs.map f) 0 h0 (fun j v δ μ hv hp => ?_) fun δ μ hp => he δ μ ?_
  · rw [Nat.zero_add] at hp ⊢
    rw [List.getElem?_map, Option.map_eq_some_iff] at hv
    obtain ⟨x, hx, rfl⟩ := hv
    exact hs j x δ μ hx hp
  · rw [Nat.zero_add, List.length_map] at hp
    exact hp
theorem w_forD {gc : Bool} {n : Nat} {g : List (Nat × Cell)} {step : Val → Slots → Heap → RS} {ss : Ss} {Q : RS → Prop} {δ : Slots} {μ : Heap} {f : α → D} {xs : List α} (P : Nat → Slots → Heap → Prop) (hg : ∀ j δ μ, P j δ μ → guardOk g μ) (h0 : P 0 δ μ)
    (hs : ∀ j x δ μ, xs[j]? = some x → P j δ μ → Wr (step (.d (f x)) δ μ) (lpQ T R R1 gc n (P (j + 1)) ss Q)) (he : ∀ δ μ, P xs.length δ μ → Wr (exSs T R R1 ss δ μ) Q) : Wr (sq T R R1 (forL gc n g step ((xs.map f).map .d) δ μ) ss) Q := by
  rw [List.map_map]
  exact w_forL (f := Val.d ∘ f) P hg h0 hs he
theorem w_forN {gc : Bool} {n N : Nat} {g : List (Nat × Cell)} {step : Val → Slots → Heap → RS} {ss : Ss} {Q : RS → Prop} {δ : Slots} {μ : Heap} {f : Nat → Val} (P : Nat → Slots → Heap → Prop) (hg : ∀ j δ μ, P j δ μ → guardOk g μ) (h0 : P 0 δ μ)
    (hs : ∀ j δ μ, j < N → P j δ μ → Wr (step (f j) δ μ) (lpQ T R R1 gc n (P (j + 1)) ss Q)) (he : ∀ δ μ, P N δ μ → Wr (exSs T R R1 ss δ μ) Q) : Wr (sq T R R1 (forL gc n g step ((List.range N).map f) δ μ) ss) Q := by
  refine w_forL P hg h0 (fun j x δ μ hj hp => ?_) fun δ μ hp => he δ μ ?_
  · obtain ⟨h, rfl⟩ := List.getElem?_eq_some_iff.mp hj
    rw [List.length_range] at h
    rw [List.getElem_range]
    exact hs j δ μ h hp
  · rwa [List.length_range] at hp
theorem w_forND {gc : Bool} {n N : Nat} {g : List (Nat × Cell)} {step : Val → Slots → Heap → RS} {ss : Ss} {Q : RS → Prop} {δ : Slots} {μ : Heap} {f : Nat → D} (P : Nat → Slots → Heap → Prop) (hg : ∀ j δ μ, P j δ μ → guardOk g μ) (h0 : P 0 δ μ)
    (hs : ∀ j δ μ, j < N → P j δ μ → Wr (step (.d (f j)) δ μ) (lpQ T R R1 gc n (P (j + 1)) ss Q)) (he : ∀ δ μ, P N δ μ → Wr (exSs T R R1 ss δ μ) Q) : Wr (sq T R R1 (forL gc n g step (((List.range N).map f).map .d) δ μ) ss) Q := by
  rw [List.map_map]
  exact w_forN (f := Val.d ∘ f) P hg h0 hs he
theorem w_if {c : Prop} [Decidable c] {δ : Slots} {μ : Heap} {a b ss : Ss} {Q : RS → Prop} (h1 : c → Wr (sq T R R1 (exSs T R R1 a δ μ) ss) Q) (h2 : ¬ c → Wr (sq T R R1 (exSs T R R1 b δ μ) ss) Q) : Wr (sq T R R1 (ifq T R R1 (.ok (decide c) μ) δ a b) ss) Q := by
  by_cases h : c
  · rw [ifq_pos h]; exact h1 h
  · rw [ifq_neg h]; exact h2 h
theorem w_ifn {c : Prop} [Decidable c] {δ : Slots} {μ : Heap} {a b ss : Ss} {Q : RS → Prop} (h1 : c → Wr (sq T R R1 (exSs T R R1 b δ μ) ss) Q) (h2 : ¬ c → Wr (sq T R R1 (exSs T R R1 a δ μ) ss) Q) : Wr (sq T R R1 (ifq T R R1 (.ok (!decide c) μ) δ a b) ss) Q := by
  by_cases h : c
  · rw [decide_eq_true h]; exact h1 h
  · rw [decide_eq_false h]; exact h2 h
theorem w_ifb {c : Bool} {δ : Slots} {μ : Heap} {a b ss : Ss} {Q : RS → Prop} (h1 : c = true → Wr (sq T R R1 (exSs T R R1 a δ μ) ss) Q) (h2 : c = false → Wr (sq T R R1 (exSs T R R1 b δ μ) ss) Q) : Wr (sq T R R1 (ifq T R R1 (.ok c μ) δ a b) ss) Q := by
  cases c with
  | true => exact h1 rfl
  | false => exact h2 rfl
theorem ite_and_dec (c d : Prop) [Decidable c] [Decidable d] : (if c then decide d else false) = decide (c ∧ d) := by by_cases h : c <;> simp [h]
theorem ite_or_dec (c d : Prop) [Decidable c] [Decidable d] : (if c then true else decide d) = decide (c ∨ d) := by by_cases h : c <;> simp [h]
theorem atI_ints {ns : List Int} {i : Int} (h : 0 ≤ i) (h2 : i < ns.length) : atI (ns.map D.int) i = some (.int (ns.getD i.toNat 0)) := by
  have hl : i.toNat < ns.length := by omega
  refine atI_of h ?_
  rw [List.getElem?_map, List.getElem?_eq_getElem hl, List.getD_eq_getElem?_getD, List.getElem?_eq_getElem hl]
  rfl
theorem atI_mod {ns : List Int} (i : Int) (h : 0 < ns.length) : atI (ns.map D.int) (i % (ns.length : Int)) = some (.int (ns.getD (i % (ns.length : Int)).toNat 0)) :=
  atI_ints (Int.emod_nonneg _ (by omega)) (Int.emod_lt_of_pos _ (by omega))
theorem cutG_map {β : Type} (f : α → β) (xs : List α) (lo hi : Option Int) : cutG (xs.map f) lo hi = (cutG xs lo hi).map f := by
  unfold cutG
  rw [List.length_map, List.map_take, List.map_drop]
theorem cutG_take (xs : List α) (m : Nat) : cutG xs none (some (m : Int)) = xs.take m := by
  unfold cutG
  simp only [sIx, Nat.sub_zero, List.drop_zero, Int.toNat_natCast]
  rw [if_neg (by omega)]
  by_cases h : m ≤ xs.length
  · rw [Nat.min_eq_left h]
  · rw [Nat.min_eq_right (by omega), List.take_length, List.take_of_length_le (by omega)]
theorem take_d (xs : List D) (n : Nat) : (xs.map Val.d).take n = (xs.take n).map Val.d := List.map_take.symm
theorem drop_d (xs : List D) (n : Nat) : (xs.map Val.d).drop n = (xs.drop n).map Val.d := List.map_drop.symm
theorem take_i (xs : List Int) (n : Nat) : (xs.map D.int).take n = (xs.take n).map D.int := List.map_take.symm
theorem drop_i (xs : List Int) (n : Nat) : (xs.map D.int).drop n = (xs.drop n).map D.int := List.map_drop.symm
theorem frz_lst (n : Nat) (xs : List D) (μ : Heap) : freeze (n + 1) (.ref 0) (.lst (xs.map .d) :: μ) = some (.lst xs, .frz (.lst xs) :: μ) := by rw [freeze_lst (μ := .lst (xs.map .d) :: μ) (xs := xs) rfl]; rfl
end
end Mp
namespace Mp
theorem small_ok {α : Type} {n : Nat} (h : n < 16777216) (a b : α) : (if small n = true then a else b) = a := if_pos (decide_eq_true h)
theorem small_ok2 {α : Type} {n : Nat} {p q : Prop} [Decidable p] [Decidable q] (h : n < 16777216) (hp : p) (hq : q) (a b : α) : (if (small n = true ∧ p) ∧ q then a else b) = a := if_pos ⟨⟨decide_eq_true h, hp⟩, hq⟩
end Mp
namespace Mp
section
variable {T : Tbl} {R R1 : Run}
/-- a while, by a number that falls -/
theorem w_whl {gc : Bool} {n : Nat} {c : Slots → Heap → Res Bool} {b : Slots → Heap → RS} {ss : Ss} {Q : RS → Prop} (P : Nat → Slots → Heap → Prop)
    (hs : ∀ k δ μ, P k δ μ → ∃ t, c δ μ = .ok t μ ∧ (t = false → Wr (exSs T R R1 ss δ μ) Q) ∧ (t = true → Wr (b δ μ) (lpQ T R R1 gc n (fun δ μ => ∃ k', k' < k ∧ P k' δ μ) ss Q))) {k : Nat} {δ : Slots} {μ : Heap} : P k δ μ → Wr (sq T R R1 (whl gc n c b δ μ) ss) Q := by
  induction k using Nat.strongRecOn generalizing δ μ with
  | _ k ih =>
    intro h
    obtain ⟨t, e, h1, h2⟩ := hs k δ μ h
    rw [whl_eq, e]
    simp only [then_ok]
    cases t with
    | false => exact h1 rfl
    | true =>
      simp only [if_true]
      refine w_turn (h2 rfl) (fun δ2 μ2 ⟨k', hk, hp⟩ => ih k' hk hp) fun δ f μ a b c h => by
        cases f with
        | bk => exact absurd rfl a
        | nx => exact absurd rfl b
        | ct => exact absurd rfl c
        | rt v => exact h
theorem atI_neg1 {α : Type} (xs : List α) (x : α) : atI (xs ++ [x]) (-1) = some x := by
  unfold atI ixN
  rw [if_neg (by decide), if_pos (by rw [List.length_append, List.length_singleton]; omega), List.length_append, List.length_singleton]
  simp only
  rw [show (-1 + ((xs.length + 1 : Nat) : Int)).toNat = xs.length by omega, List.getElem?_concat_length]
theorem idx_last (xs : List D) (x : D) (μ : Heap) : idxV (.ref 0) (.d (.int (-1))) (.lst ((xs ++ [x]).map .d) :: μ) = .ok (.d x) (.lst ((xs ++ [x]).map .d) :: μ) := by
  rw [idx_ref (List.getElem?_cons_zero), List.map_append, List.map_cons, List.map_nil, atI_neg1]
  rfl
end
end Mp
namespace Mp
section
variable {α : Type}
theorem atI_0 (a : α) (l : List α) : atI (a :: l) 0 = some a := atI_nat (xs := a :: l) (i := 0) rfl
theorem atI_1 (a b : α) (l : List α) : atI (a :: b :: l) 1 = some b := atI_nat (xs := a :: b :: l) (i := 1) rfl
theorem atI_2 (a b c : α) (l : List α) : atI (a :: b :: c :: l) 2 = some c := atI_nat (xs := a :: b :: c :: l) (i := 2) rfl
end
end Mp
namespace Mp
theorem flat_rep {α : Type} (a : α) : ∀ n : Nat, (List.replicate n [a]).flatten = List.replicate n a
  | 0 => rfl
  | n + 1 => by rw [List.replicate_succ, List.flatten_cons, flat_rep a n]; rfl
theorem rep_simple (d : D) (n : Nat) : (List.replicate n (Val.d d)).all simple = true := List.all_eq_true.mpr fun x hx => by
  obtain ⟨_, rfl⟩ := List.mem_replicate.mp hx; rfl
end Mp
namespace Mp
section
variable {α : Type} (l r : List α) (x y z c : α)
theorem app_at0 : (l ++ (x :: r))[l.length]? = some x := by rw [List.getElem?_append_right (Nat.le_refl _), Nat.sub_self]; rfl
theorem app_at1 : (l ++ (x :: y :: r))[l.length + 1]? = some y := by rw [List.getElem?_append_right (by omega), show l.length + 1 - l.length = 1 by omega]; rfl
theorem app_at2 : (l ++ (x :: y :: z :: r))[l.length + 2]? = some z := by rw [List.getElem?_append_right (by omega), show l.length + 2 - l.length = 2 by omega]; rfl
theorem app_set0 : (l ++ (x :: r)).set l.length c = l ++ (c :: r) := by rw [List.set_append_right _ _ (Nat.le_refl _), Nat.sub_self]; rfl
theorem app_set1 : (l ++ (x :: y :: r)).set (l.length + 1) c = l ++ (x :: c :: r) := by rw [List.set_append_right _ _ (by omega), show l.length + 1 - l.length = 1 by omega]; rfl
theorem app_set2 : (l ++ (x :: y :: z :: r)).set (l.length + 2) c = l ++ (x :: y :: c :: r) := by rw [List.set_append_right _ _ (by omega), show l.length + 2 - l.length = 2 by omega]; rfl
end
end Mp
namespace Mp
theorem cmp_isnB (μ : Heap) (a b : Bool) : cmpop .isn (.d (.bl a)) (.d (.bl b)) μ = some (!decide (a = b)) := rfl
end Mp
namespace Mp
section
variable {T : Tbl} {R R1 : Run}
theorem tryR_ex (x : Exn) (δ : Slots) (μ : Heap) (hs : Hs) : tryR T R R1 (.ex x δ μ) hs = exHs T R R1 hs x δ μ := rfl
theorem tryR_ok (δ : Slots) (f : Flow) (μ : Heap) (hs : Hs) : tryR T R R1 (.ok δ f μ) hs = .ok δ f μ := rfl
end
end Mp
namespace Mp
theorem w_runx {T : Tbl} {f : Nat} {fn : Fn} {k : Nat} {args : List Val} {μ μ' : Heap} {x : Exn} (h : T.fn f = some fn) (hl : args.length = fn.npar)
    (w : Wr (exSs T (run T k) (run1 T k) fn.body (args.map some ++ List.replicate (fn.nslot - fn.npar) none) μ) fun r => ∃ δ, r = .ex x δ μ') : run T (k + 1) f args μ = .ex x μ' := by
  rw [run_of h k args μ hl]
  obtain ⟨δ, e⟩ := w
  rw [e]
  rfl
end Mp
namespace Mp
theorem w_ifm {T : Tbl} {R R1 : Run} {c : Prop} [Decidable c] {δ : Slots} {μ : Heap} {a b ss : Ss} {Q : RS → Prop} (P : Slots → Heap → Prop) (h1 : c → Wr (exSs T R R1 a δ μ) fun r => ∃ δ' μ', r = .ok δ' .nx μ' ∧ P δ' μ') (h2 : ¬ c → Wr (exSs T R R1 b δ μ) fun r => ∃ δ' μ', r = .ok δ' .nx μ' ∧ P δ' μ') (h3 : ∀ δ' μ', P δ' μ' → Wr (exSs T R R1 ss δ' μ') Q) : Wr (sq T R R1 (ifq T R R1 (.ok (decide c) μ) δ a b) ss) Q := by
  by_cases h : c
  · rw [ifq_pos h]
    obtain ⟨δ', μ', e, hp⟩ := h1 h
    rw [e]
    exact h3 _ _ hp
  · rw [ifq_neg h]
    obtain ⟨δ', μ', e, hp⟩ := h2 h
    rw [e]
    exact h3 _ _ hp
end Mp
end
section
set_option linter.all false
set_option autoImplicit false
namespace Mp
/-! ### least ways: literals (a, b, c) say that a lies at most c above b -/
abbrev Mx := Nat → Nat → Option Int
abbrev Lits := List (Nat × Nat × Int)
inductive Wk (ls : Lits) : Nat → Nat → Int → Prop
  | nil (a : Nat) : Wk ls a a 0
  | cons {a b d : Nat} {c v : Int} : (a, b, c) ∈ ls → Wk ls b d v → Wk ls a d (c + v)
namespace Wk
variable {ls ls' : Lits} {a b d : Nat} {v w c : Int}
theorem app (h : Wk ls a b v) : ∀ {d w}, Wk ls b d w → Wk ls a d (v + w) := by
  induction h with
  | nil a => intro d w h; rw [Int.zero_add]; exact h
  | cons m _ ih => intro d w h; rw [Int.add_assoc]; exact .cons m (ih h)
theorem one (h : (a, b, c) ∈ ls) : Wk ls a b c := by
  have := Wk.cons h (.nil b)
  rwa [Int.add_zero] at this
theorem mono (h : ∀ p ∈ ls, p ∈ ls') (x : Wk ls a b v) : Wk ls' a b v := by
  induction x with
  | nil a => exact .nil a
  | cons m _ ih => exact .cons (h _ m) ih
end Wk
/-- M a b is at most v -/
def U (M : Mx) (a b : Nat) (v : Int) : Prop := ∃ u, M a b = some u ∧ u ≤ v
theorem U.le {M : Mx} {a b : Nat} {v w : Int} (h : U M a b v) (k : v ≤ w) : U M a b w := by
  obtain ⟨u, e, h⟩ := h
  exact ⟨u, e, by omega⟩
def upd (M : Mx) (a b : Nat) (v : Int) : Mx := fun i j => if i = a ∧ j = b then some v else M i j
/-- where nothing or more stands, v -/
def low (M : Mx) (a b : Nat) (v : Int) : Mx := match M a b with
  | some u => if v < u then upd M a b v else M
  | none => upd M a b v
theorem U_upd {M : Mx} {a b i j : Nat} {v w : Int} : U (upd M a b v) i j w ↔ (i = a ∧ j = b ∧ v ≤ w) ∨ (¬(i = a ∧ j = b) ∧ U M i j w) := by
  unfold U upd
  by_cases h : i = a ∧ j = b
  · rw [if_pos h]
    constructor
    · rintro ⟨u, e, k⟩; cases e; exact .inl ⟨h.1, h.2, k⟩
    · rintro (⟨_, _, k⟩ | ⟨k, _⟩)
      · exact ⟨v, rfl, k⟩
      · exact absurd h k
  · rw [if_neg h]
    constructor
    · intro k; exact .inr ⟨h, k⟩
    · rintro (⟨k1, k2, _⟩ | ⟨_, k⟩)
      · exact absurd ⟨k1, k2⟩ h
      · exact k
theorem U_low {M : Mx} {a b i j : Nat} {v w : Int} : U (low M a b v) i j w ↔ U M i j w ∨ (i = a ∧ j = b ∧ v ≤ w) := by
  unfold low
  split
  · rename_i u e
    split
    · rename_i h
      rw [U_upd]
      constructor
      · rintro (k | k)
        · exact .inr k
        · exact .inl k.2
      · rintro (k | k)
        · by_cases q : i = a ∧ j = b
          · obtain ⟨x, e1, e2⟩ := k
            rw [q.1, q.2, e] at e1
            cases e1
            exact .inl ⟨q.1, q.2, by omega⟩
          · exact .inr ⟨q, k⟩
        · exact .inl k
    · rename_i h
      constructor
      · exact .inl
      · rintro (k | ⟨k1, k2, k3⟩)
        · exact k
        · exact ⟨u, by rw [k1, k2, e], by omega⟩
  · rename_i e
    rw [U_upd]
    constructor
    · rintro (k | k)
      · exact .inr k
      · exact .inl k.2
    · rintro (k | k)
      · refine .inr ⟨?_, k⟩
        rintro ⟨q1, q2⟩
        obtain ⟨x, e1, _⟩ := k
        rw [q1, q2, e] at e1
        cases e1
      · exact .inl k
section
variable {n m : Nat} {ls : Lits} {M M0 : Mx}
def Snd (n : Nat) (ls : Lits) (M : Mx) : Prop := ∀ a b, a < n → b < n → ∀ w, U M a b w → ∃ v, v ≤ w ∧ Wk ls a b v
def Neg (n : Nat) (M : Mx) : Prop := ∃ a, a < n ∧ U M a a (-1)
def Dg (n : Nat) (M : Mx) : Prop := ∀ a, a < n → U M a a 0
def Lt (ls : Lits) (M : Mx) : Prop := ∀ p ∈ ls, U M p.1 p.2.1 p.2.2
def Tri (n m : Nat) (M : Mx) : Prop := ∀ k, k < m → ∀ a b, a < n → b < n → ∀ x y, U M a k x → U M k b y → U M a b (x + y)
def InR (n : Nat) (ls : Lits) : Prop := ∀ p ∈ ls, p.1 < n ∧ p.2.1 < n
structure Best (n : Nat) (ls : Lits) (M : Mx) : Prop where
  snd : Snd n ls M
  tri : Tri n n M
  dg : ∀ a, a < n → ∀ w, U M a a w ↔ 0 ≤ w
  lt : Lt ls M
theorem Best.full (B : Best n ls M) (R : InR n ls) {a b : Nat} {v : Int} (h : Wk ls a b v) (hb : b < n) : a < n → U M a b v := by
  induction h with
  | nil a => exact fun ha => (B.dg a ha 0).mpr (Int.le_refl 0)
  | cons m _ ih =>
    intro ha
    have q := R _ m
    exact B.tri _ q.2 _ _ ha hb _ _ (B.lt _ m) (ih hb q.2)
theorem Best.noneg (B : Best n ls M) (R : InR n ls) {a : Nat} {v : Int} (h : Wk ls a a v) (ha : a < n) : 0 ≤ v := (B.dg a ha v).mp (B.full R h ha ha)
theorem Best.same {M' : Mx} (B : Best n ls M) (B' : Best n ls M') (R : InR n ls) {a b : Nat} (ha : a < n) (hb : b < n) : M a b = M' a b := by
  have one : ∀ {M M' : Mx}, Best n ls M → Best n ls M' → ∀ w, U M a b w → U M' a b w := fun B B' w h => by
    obtain ⟨v, hv, k⟩ := B.snd a b ha hb w h
    exact (B'.full R k hb ha).le hv
  have h1 := one B B'
  have h2 := one B' B
  cases e : M a b with
  | none =>
    cases e' : M' a b with
    | none => rfl
    | some u => obtain ⟨_, q, _⟩ := h2 u ⟨u, e', Int.le_refl u⟩; rw [e] at q; cases q
  | some u =>
    obtain ⟨x, q, hx⟩ := h1 u ⟨u, e, Int.le_refl u⟩
    obtain ⟨y, q2, hy⟩ := h2 x ⟨x, q, Int.le_refl x⟩
    rw [e] at q2; cases q2
    rw [q]
    congr 1
    omega
/-! lowering -/
theorem Snd.low {a b : Nat} {v : Int} (S : Snd n ls M) (h : Wk ls a b v) : Snd n ls (low M a b v) := fun i j hi hj w k => by
  rcases U_low.mp k with k2 | ⟨rfl, rfl, k2⟩
  · exact S i j hi hj w k2
  · exact ⟨v, k2, h⟩
theorem Neg.low {a b : Nat} {v : Int} (h : Neg n M) : Neg n (low M a b v) := by
  obtain ⟨i, hi, k⟩ := h
  exact ⟨i, hi, U_low.mpr (.inl k)⟩
theorem Dg.low {a b : Nat} {v : Int} (h : Dg n M) : Dg n (low M a b v) := fun i hi => U_low.mpr (.inl (h i hi))
theorem Lt.low {a b : Nat} {v : Int} (h : Lt ls M) : Lt ls (low M a b v) := fun p hp => U_low.mpr (.inl (h p hp))
/-- before the literals -/
def M0x : Mx := fun a b => if a = b then some 0 else none
theorem snd_M0 : Snd n ls M0x := fun a b _ _ w h => by
  obtain ⟨u, e, h⟩ := h
  unfold M0x at e
  split at e
  · rename_i q; subst q; cases e; exact ⟨0, h, .nil a⟩
  · cases e
theorem dg_M0 : Dg n M0x := fun a _ => ⟨0, by unfold M0x; rw [if_pos rfl], Int.le_refl 0⟩
/-! one middle point -/
structure Mi (n m : Nat) (M0 M : Mx) (a b : Nat) : Prop where
  up : ∀ i j, i < n → j < n → ∀ w, U M0 i j w → U M i j w
  dn : ∀ i j, i < n → j < n → ∀ w, U M i j w → U M0 i j w ∨ ∃ x y, U M0 i m x ∧ U M0 m j y ∧ x + y ≤ w
  pr : ∀ i j, (i < a ∨ (i = a ∧ j < b)) → i < n → j < n → ∀ x y, U M0 i m x → U M0 m j y → U M i j (x + y)
theorem neg_of {a : Nat} {w : Int} (ha : a < n) (h : U M a a w) (hw : w < 0) : Neg n M := ⟨a, ha, h.le (by omega)⟩
theorem Mi.row (N : ¬Neg n M0) (hm : m < n) {a b i : Nat} (h : Mi n m M0 M a b) (hi : i < n) {w : Int} (k : U M i m w) : U M0 i m w := by
  rcases h.dn i m hi hm w k with k | ⟨x, y, hx, hy, hw⟩
  · exact k
  · by_cases q : y < 0
    · exact absurd (neg_of hm hy q) N
    · exact hx.le (by omega)
theorem Mi.col (N : ¬Neg n M0) (hm : m < n) {a b j : Nat} (h : Mi n m M0 M a b) (hj : j < n) {w : Int} (k : U M m j w) : U M0 m j w := by
  rcases h.dn m j hm hj w k with k | ⟨x, y, hx, hy, hw⟩
  · exact k
  · by_cases q : x < 0
    · exact absurd (neg_of hm hx q) N
    · exact hy.le (by omega)
theorem Mi.init : Mi n m M M 0 0 := ⟨fun _ _ _ _ _ h => h, fun _ _ _ _ _ h => .inl h, fun i j h => by omega⟩
theorem Mi.next {a : Nat} (h : Mi n m M0 M a n) : Mi n m M0 M (a + 1) 0 := ⟨h.up, h.dn, fun i j q hi hj => h.pr i j (by omega) hi hj⟩
theorem Mi.skip {a b : Nat} (h : Mi n m M0 M a b) (hb : b < n) (hm : m < n) (k : M a m = none ∨ M m b = none) : Mi n m M0 M a (b + 1) := ⟨h.up, h.dn, fun i j q hi hj x y hx hy => by
  by_cases q2 : i = a ∧ j = b
  · obtain ⟨rfl, rfl⟩ := q2
    obtain ⟨u, e1, _⟩ := h.up _ _ hi hm _ hx
    obtain ⟨v, e2, _⟩ := h.up _ _ hm hj _ hy
    rcases k with k | k
    · rw [k] at e1; cases e1
    · rw [k] at e2; cases e2
  · exact h.pr i j (by omega) hi hj x y hx hy⟩
theorem Mi.step (N : ¬Neg n M0) {a b : Nat} {u v : Int} (h : Mi n m M0 M a b) (ha : a < n) (hb : b < n) (hm : m < n) (e1 : M a m = some u) (e2 : M m b = some v) : Mi n m M0 (low M a b (u + v)) a (b + 1) := by
  refine ⟨fun i j hi hj w k => U_low.mpr (.inl (h.up i j hi hj w k)), fun i j hi hj w k => ?_, fun i j q hi hj x y hx hy => ?_⟩
  · rcases U_low.mp k with k2 | ⟨rfl, rfl, k2⟩
    · exact h.dn i j hi hj w k2
    · exact .inr ⟨u, v, h.row N hm ha ⟨u, e1, Int.le_refl u⟩, h.col N hm hb ⟨v, e2, Int.le_refl v⟩, k2⟩
  · by_cases q2 : i = a ∧ j = b
    · obtain ⟨rfl, rfl⟩ := q2
      obtain ⟨u', e1', h1⟩ := h.up _ _ hi hm _ hx
      obtain ⟨v', e2', h2⟩ := h.up _ _ hm hj _ hy
      rw [e1] at e1'; cases e1'
      rw [e2] at e2'; cases e2'
      exact U_low.mpr (.inr ⟨rfl, rfl, by omega⟩)
    · exact U_low.mpr (.inl (h.pr i j (by omega) hi hj x y hx hy))
theorem Mi.tri (N : ¬Neg n M0) (hm : m < n) (h : Mi n m M0 M n 0) (t : Tri n m M0) : Tri n (m + 1) M := fun k hk a b ha hb x y hx hy => by
  have go : ∀ {x y}, U M0 a m x → U M0 m b y → U M a b (x + y) := fun hx hy => h.pr a b (.inl ha) ha hb _ _ hx hy
  by_cases q : k = m
  · subst q
    exact go (h.row N hm ha hx) (h.col N hm hb hy)
  · have hk' : k < m := by omega
    have hkn : k < n := by omega
    rcases h.dn a k ha hkn x hx with hx | ⟨p, q, hp, hq, h1⟩ <;> rcases h.dn k b hkn hb y hy with hy | ⟨r, s, hr, hs, h2⟩
    · exact h.up a b ha hb _ (t k hk' a b ha hb x y hx hy)
    · exact (go (t k hk' a m ha hm x r hx hr) hs).le (by omega)
    · exact (go hp (t k hk' m b hm hb q y hq hy)).le (by omega)
    · have z := t k hk' m m hm hm q r hq hr
      by_cases c : q + r < 0
      · exact absurd (neg_of hm z c) N
      · exact (go hp hs).le (by omega)
/-- between the middle points -/
structure Fw (n m : Nat) (ls : Lits) (M : Mx) : Prop where
  snd : Snd n ls M
  dg : Dg n M
  or : Neg n M ∨ (Tri n m M ∧ Lt ls M)
/-- within one -/
structure Fi (n m : Nat) (ls : Lits) (M0 M : Mx) (a b : Nat) : Prop where
  snd : Snd n ls M
  dg : Dg n M
  neg : Neg n M0 → Neg n M
  mi : ¬Neg n M0 → Mi n m M0 M a b
theorem Fw.init (F : Fw n m ls M) : Fi n m ls M M 0 0 := ⟨F.snd, F.dg, id, fun _ => .init⟩
theorem Fi.next {a : Nat} (F : Fi n m ls M0 M a n) : Fi n m ls M0 M (a + 1) 0 := ⟨F.snd, F.dg, F.neg, fun h => (F.mi h).next⟩
theorem Fi.skip {a b : Nat} (F : Fi n m ls M0 M a b) (hb : b < n) (hm : m < n) (k : M a m = none ∨ M m b = none) : Fi n m ls M0 M a (b + 1) := ⟨F.snd, F.dg, F.neg, fun h => (F.mi h).skip hb hm k⟩
theorem Fi.step {a b : Nat} {u v : Int} (F : Fi n m ls M0 M a b) (ha : a < n) (hb : b < n) (hm : m < n) (e1 : M a m = some u) (e2 : M m b = some v) : Fi n m ls M0 (low M a b (u + v)) a (b + 1) := by
  refine ⟨?_, F.dg.low, fun h => (F.neg h).low, fun h => (F.mi h).step h ha hb hm e1 e2⟩
  obtain ⟨x, hx, kx⟩ := F.snd a m ha hm u ⟨u, e1, Int.le_refl u⟩
  obtain ⟨y, hy, ky⟩ := F.snd m b hm hb v ⟨v, e2, Int.le_refl v⟩
  intro i j hi hj w k
  rcases U_low.mp k with k2 | ⟨rfl, rfl, k2⟩
  · exact F.snd i j hi hj w k2
  · exact ⟨x + y, by omega, kx.app ky⟩
theorem Fi.done (hm : m < n) (F0 : Fw n m ls M0) (R : InR n ls) (F : Fi n m ls M0 M n 0) : Fw n (m + 1) ls M := by
  refine ⟨F.snd, F.dg, ?_⟩
  rcases F0.or with h | ⟨t, l⟩
  · exact .inl (F.neg h)
  · by_cases h : Neg n M0
    · exact .inl (F.neg h)
    · have := F.mi h
      exact .inr ⟨this.tri h hm t, fun p hp => this.up _ _ (R p hp).1 (R p hp).2 _ (l p hp)⟩
theorem Fw.best (F : Fw n n ls M) (h : ¬Neg n M) : Best n ls M := by
  rcases F.or with k | ⟨t, l⟩
  · exact absurd k h
  · refine ⟨F.snd, t, fun a ha w => ⟨fun k => ?_, fun k => (F.dg a ha).le k⟩, l⟩
    by_cases c : w < 0
    · exact absurd (neg_of ha k c) h
    · omega
theorem Fw.ring (F : Fw n m ls M) (h : Neg n M) : ∃ a, a < n ∧ ∃ v, v < 0 ∧ Wk ls a a v := by
  obtain ⟨a, ha, k⟩ := h
  obtain ⟨v, hv, k⟩ := F.snd a a ha ha _ k
  exact ⟨a, ha, v, by omega, k⟩
/-- a matrix of bounds with one literal more -/
def tight (D : Mx) (a b : Nat) (c : Int) : Mx := fun i j => match D i a, D b j with
  | some x, some y => match D i j with
    | some o => if o ≤ x + c + y then some o else some (x + c + y)
    | none => some (x + c + y)
  | _, _ => D i j
theorem U_tight {D : Mx} {a b i j : Nat} {c w : Int} : U (tight D a b c) i j w ↔ U D i j w ∨ ∃ x y, U D i a x ∧ U D b j y ∧ x + c + y ≤ w := by
  unfold U tight
  constructor
  · rintro ⟨u, e, h⟩
    split at e
    · rename_i x y e1 e2
      split at e
      · rename_i o e3
        split at e
        · cases e; exact .inl ⟨_, e3, h⟩
        · cases e; exact .inr ⟨x, y, ⟨x, e1, Int.le_refl x⟩, ⟨y, e2, Int.le_refl y⟩, h⟩
      · cases e; exact .inr ⟨x, y, ⟨x, e1, Int.le_refl x⟩, ⟨y, e2, Int.le_refl y⟩, h⟩
    · exact .inl ⟨u, e, h⟩
  · rintro (⟨u, e, h⟩ | ⟨x, y, ⟨x', e1, h1⟩, ⟨y', e2, h2⟩, h⟩)
    · rw [e]
      split
      · simp only
        split
        · exact ⟨_, rfl, h⟩
        · exact ⟨_, rfl, by omega⟩
      · exact ⟨u, rfl, h⟩
    · rw [e1, e2]
      simp only
      split
      · split
        · exact ⟨_, rfl, by omega⟩
        · exact ⟨_, rfl, by omega⟩
      · exact ⟨_, rfl, by omega⟩
theorem Best.tight {a b : Nat} {c : Int} (B : Best n ls M) (ha : a < n) (hb : b < n) (h : ∀ u, M b a = some u → 0 ≤ u + c) : Best n (ls ++ [(a, b, c)]) (tight M a b c) := by
  have h' : ∀ u, U M b a u → 0 ≤ u + c := fun u ⟨v, e, k⟩ => by have := h v e; omega
  have m1 : ∀ p ∈ ls, p ∈ ls ++ [(a, b, c)] := fun p hp => List.mem_append_left _ hp
  refine ⟨fun i j hi hj w k => ?_, fun k hk i j hi hj x y hx hy => ?_, fun i hi w => ⟨fun k => ?_, fun k => U_tight.mpr (.inl ((B.dg i hi w).mpr k))⟩, fun p hp => ?_⟩
  · rcases U_tight.mp k with k | ⟨x, y, hx, hy, k⟩
    · obtain ⟨v, hv, k⟩ := B.snd i j hi hj w k
      exact ⟨v, hv, k.mono m1⟩
    · obtain ⟨p, hp, kp⟩ := B.snd i a hi ha x hx
      obtain ⟨q, hq, kq⟩ := B.snd b j hb hj y hy
      refine ⟨p + (c + q), by omega, (kp.mono m1).app (.cons ?_ (kq.mono m1))⟩
      exact List.mem_append_right _ (List.mem_singleton.mpr rfl)
  · rcases U_tight.mp hx with hx | ⟨p, q, hp, hq, h1⟩ <;> rcases U_tight.mp hy with hy | ⟨r, s, hr, hs, h2⟩
    · exact U_tight.mpr (.inl (B.tri k hk i j hi hj x y hx hy))
    · exact U_tight.mpr (.inr ⟨x + r, s, B.tri k hk i a hi ha x r hx hr, hs, by omega⟩)
    · exact U_tight.mpr (.inr ⟨p, q + y, hp, B.tri k hk b j hb hj q y hq hy, by omega⟩)
    · have := h' _ (B.tri k hk b a hb ha q r hq hr)
      exact U_tight.mpr (.inr ⟨p, s, hp, hs, by omega⟩)
  · rcases U_tight.mp k with k | ⟨x, y, hx, hy, k⟩
    · exact (B.dg i hi w).mp k
    · have := h' _ (B.tri i hi b a hb ha y x hy hx)
      omega
  · rcases List.mem_append.mp hp with q | q
    · exact U_tight.mpr (.inl (B.lt p q))
    · rw [List.mem_singleton] at q
      subst q
      exact U_tight.mpr (.inr ⟨0, 0, (B.dg a ha 0).mpr (Int.le_refl 0), (B.dg b hb 0).mpr (Int.le_refl 0), by simp only; omega⟩)
theorem Best.keep {a b : Nat} {c u : Int} (B : Best n ls M) (h : M a b = some u) (hc : u ≤ c) : Best n (ls ++ [(a, b, c)]) M := by
  have m1 : ∀ p ∈ ls, p ∈ ls ++ [(a, b, c)] := fun p hp => List.mem_append_left _ hp
  refine ⟨fun i j hi hj w k => ?_, B.tri, B.dg, fun p hp => ?_⟩
  · obtain ⟨v, hv, k⟩ := B.snd i j hi hj w k
    exact ⟨v, hv, k.mono m1⟩
  · rcases List.mem_append.mp hp with q | q
    · exact B.lt p q
    · rw [List.mem_singleton] at q
      subst q
      exact ⟨u, h, hc⟩
theorem Best.ring {a b : Nat} {c u : Int} (B : Best n ls M) (ha : a < n) (hb : b < n) (h : M b a = some u) (hc : u + c < 0) : ∃ a', a' < n ∧ ∃ v, v < 0 ∧ Wk (ls ++ [(a, b, c)]) a' a' v := by
  obtain ⟨v, hv, k⟩ := B.snd b a hb ha u ⟨u, h, Int.le_refl u⟩
  refine ⟨a, ha, c + v, by omega, .cons (List.mem_append_right _ (List.mem_singleton.mpr rfl)) (k.mono fun p hp => List.mem_append_left _ hp)⟩
theorem best_M0 : Best n [] M0x := by
  refine ⟨snd_M0, fun k _ a b _ _ x y hx hy => ?_, fun a ha w => ⟨fun ⟨u, e, h⟩ => ?_, fun h => (dg_M0 (n := n) a ha).le h⟩, fun p hp => by cases hp⟩
  · obtain ⟨u, e, hu⟩ := hx
    obtain ⟨v, e2, hv⟩ := hy
    unfold M0x at e e2
    split at e <;> split at e2 <;> cases e <;> cases e2
    rename_i q1 q2
    exact ⟨0, by unfold M0x; rw [if_pos (q1.trans q2)], by omega⟩
  · unfold M0x at e
    rw [if_pos rfl] at e
    cases e
    exact h
end
end Mp
end
section
set_option linter.all false
set_option autoImplicit false
namespace Mp
/-! ### grids of bounds -/
def optD : Option Int → D
  | some i => .int i
  | none => .non
theorem optD_some (i : Int) : optD (some i) = .int i := rfl
theorem optD_none : optD none = .non := rfl
def rowD (n : Nat) (M : Mx) (a : Nat) : List D := (List.range n).map fun b => optD (M a b)
def gridD (n : Nat) (M : Mx) : D := .lst ((List.range n).map fun a => .lst (rowD n M a))
def litD (p : Nat × Nat × Int) : D := .tup [.int p.1, .int p.2.1, .int p.2.2]
theorem rowD_len (n : Nat) (M : Mx) (a : Nat) : (rowD n M a).length = n := by unfold rowD; rw [List.length_map, List.length_range]
theorem rowD_get {n : Nat} {M : Mx} {a b : Nat} (h : b < n) : (rowD n M a)[b]? = some (optD (M a b)) := by
  unfold rowD
  rw [List.getElem?_map, List.getElem?_range h]; rfl
theorem rowD_at {n : Nat} {M : Mx} {a b : Nat} (h : b < n) : atI (rowD n M a) (b : Int) = some (optD (M a b)) := atI_nat (rowD_get h)
theorem grid_at {n : Nat} {M : Mx} {a : Nat} (h : a < n) : atI ((List.range n).map fun a => D.lst (rowD n M a)) (a : Int) = some (.lst (rowD n M a)) := atI_nat (by rw [List.getElem?_map, List.getElem?_range h]; rfl)
/-- the heap while the rows are made -/
def preH (n j : Nat) : Heap := (List.range (2 * j)).map fun i => if i % 2 = 1 then .lst (List.replicate n (.d .non)) else .lst [.d .non]
def gridH (n : Nat) (M : Mx) : Heap := ((List.range (2 * n)).map fun i => if i % 2 = 1 then .lst ((rowD n M (i / 2)).map .d) else .lst [.d .non]) ++ [.lst ((List.range n).map fun a => .ref (2 * a + 1))]
theorem preH_len (n j : Nat) : (preH n j).length = 2 * j := by unfold preH; rw [List.length_map, List.length_range]
theorem preH_at (n j : Nat) (c : Cell) : (preH n j ++ [c])[2 * j]? = some c := by rw [List.getElem?_append_right (by rw [preH_len]; omega), preH_len, Nat.sub_self]; rfl
theorem preH_succ (n j : Nat) : preH n (j + 1) = preH n j ++ [.lst [.d .non]] ++ [.lst (List.replicate n (.d .non))] := by
  unfold preH
  rw [show 2 * (j + 1) = 2 * j + 1 + 1 by omega, List.range_succ, List.range_succ, List.map_append, List.map_append]
  simp only [List.map_cons, List.map_nil]
  rw [if_neg (by omega), if_pos (by omega)]
theorem gridH_len (n : Nat) (M : Mx) : (gridH n M).length = 2 * n + 1 := by unfold gridH; rw [List.length_append, List.length_map, List.length_range]; rfl
theorem gridH_row {n : Nat} {M : Mx} {a : Nat} (h : a < n) : (gridH n M)[2 * a + 1]? = some (.lst ((rowD n M a).map .d)) := by
  unfold gridH
  rw [List.getElem?_append_left (by rw [List.length_map, List.length_range]; omega), List.getElem?_map, List.getElem?_range (by omega)]
  simp only [Option.map_some]
  rw [if_pos (by omega), show (2 * a + 1) / 2 = a by omega]
theorem gridH_top {n : Nat} {M : Mx} : (gridH n M)[2 * n]? = some (.lst ((List.range n).map fun a => .ref (2 * a + 1))) := by
  unfold gridH
  rw [List.getElem?_append_right (by rw [List.length_map, List.length_range]; omega), List.length_map, List.length_range, Nat.sub_self]
  rfl
theorem gh_top {n : Nat} {M : Mx} {a : Nat} (h : a < n) : idxV (.ref (2 * n)) (.d (.int (a : Int))) (gridH n M) = .ok (.ref (2 * a + 1)) (gridH n M) := by
  rw [idx_ref gridH_top, atI_nat (a := Val.ref (2 * a + 1)) (by rw [List.getElem?_map, List.getElem?_range h]; rfl)]
  rfl
theorem gh_get {n : Nat} {M : Mx} {a b : Nat} (h : a < n) (h2 : b < n) : idxV (.ref (2 * a + 1)) (.d (.int (b : Int))) (gridH n M) = .ok (.d (optD (M a b))) (gridH n M) := by
  rw [idx_ref (gridH_row h), atI_nat (a := Val.d (optD (M a b))) (by rw [List.getElem?_map, rowD_get h2]; rfl)]
  rfl
theorem rowD_set {n : Nat} {M : Mx} {a b : Nat} {c : Int} (h2 : b < n) : (rowD n M a).set b (.int c) = rowD n (upd M a b c) a := by
  apply List.ext_getElem?
  intro i
  rw [List.getElem?_set]
  by_cases hi : i < n
  · rw [rowD_get hi, rowD_get hi, rowD_len]
    unfold upd
    by_cases q : b = i
    · subst q; rw [if_pos rfl, if_pos hi, if_pos ⟨rfl, rfl⟩]; rfl
    · rw [if_neg q, if_neg (fun z => q z.2.symm)]
  · have e1 : (rowD n M a)[i]? = none := List.getElem?_eq_none (by rw [rowD_len]; omega)
    have e2 : (rowD n (upd M a b c) a)[i]? = none := List.getElem?_eq_none (by rw [rowD_len]; omega)
    rw [e1, e2, if_neg (by omega)]
theorem rowD_other {n : Nat} {M : Mx} {a b i : Nat} {c : Int} (h : i ≠ a) : rowD n (upd M a b c) i = rowD n M i := by
  unfold rowD upd
  refine List.map_congr_left fun j _ => ?_
  rw [if_neg (fun z => h z.1)]
theorem gridH_set {n : Nat} {M : Mx} {a b : Nat} {c : Int} (h : a < n) (h2 : b < n) : (gridH n M).set (2 * a + 1) (.lst ((rowD n (upd M a b c) a).map .d)) = gridH n (upd M a b c) := by
  apply List.ext_getElem?
  intro i
  rw [List.getElem?_set, gridH_len]
  unfold gridH
  by_cases hi : i < 2 * n
  · rw [List.getElem?_append_left (by rw [List.length_map, List.length_range]; omega), List.getElem?_append_left (by rw [List.length_map, List.length_range]; omega), List.getElem?_map, List.getElem?_map, List.getElem?_range hi]
    simp only [Option.map_some]
    by_cases q : 2 * a + 1 = i
    · subst q
      rw [if_pos rfl, if_pos (by omega), if_pos (by omega), show (2 * a + 1) / 2 = a by omega]
    · rw [if_neg q]
      by_cases q2 : i % 2 = 1
      · rw [if_pos q2, if_pos q2, rowD_other (by omega)]
      · rw [if_neg q2, if_neg q2]
  · rw [if_neg (by omega), List.getElem?_append_right (by rw [List.length_map, List.length_range]; omega), List.getElem?_append_right (by rw [List.length_map, List.length_range]; omega), List.length_map, List.length_map]
theorem gh_set {n : Nat} {M : Mx} {a b : Nat} {c : Int} (h : a < n) (h2 : b < n) : setSub (.ref (2 * a + 1)) (.d (.int (b : Int))) (.d (.int c)) (gridH n M) = .ok () (gridH n (upd M a b c)) := by
  rw [setSub_ref, gridH_row h]
  simp only
  have e : ixN (List.map Val.d (rowD n M a)).length (b : Int) = some b := by
    unfold ixN
    rw [List.length_map, rowD_len, if_pos (Int.natCast_nonneg b), if_pos (by omega), Int.toNat_natCast]
  rw [e]
  simp only [simple_d, need_true]
  rw [← gridH_set h h2, ← rowD_set h2, List.map_set]
theorem preH_grid (n : Nat) : preH n n ++ [.lst ((List.range n).map fun a => .ref (2 * a + 1))] = gridH n (fun _ _ => none) := by
  unfold preH gridH
  congr 1
  refine List.map_congr_left fun i _ => ?_
  have : (rowD n (fun _ _ => none) (i / 2)).map Val.d = List.replicate n (.d .non) := by
    unfold rowD
    rw [List.map_map]
    show (List.range n).map (fun _ => Val.d .non) = _
    rw [List.map_const', List.length_range]
  rw [this]
/-- rows that are data -/
theorem freezes_refs {n : Nat} (f : Val → Heap → Option (D × Heap)) (P : Nat → Heap → Prop) (r : Nat → D) (g : Nat → Nat) (h : ∀ a μ, a < n → P a μ → ∃ μ', f (.ref (g a)) μ = some (r a, μ') ∧ P (a + 1) μ') : ∀ (m a : Nat) (μ : Heap), a + m = n → P a μ → ∃ μ', freeze.freezes f ((List.range' a m).map fun a => .ref (g a)) μ = some ((List.range' a m).map r, μ') ∧ P n μ'
  | 0, a, μ, e, hp => ⟨μ, rfl, by rw [← e]; exact hp⟩
  | m + 1, a, μ, e, hp => by
    obtain ⟨μ1, e1, h1⟩ := h a μ (by omega) hp
    obtain ⟨μ2, e2, h2⟩ := freezes_refs f P r g h m (a + 1) μ1 (by omega) h1
    refine ⟨μ2, ?_, h2⟩
    rw [List.range'_succ, List.map_cons, List.map_cons, freeze.freezes, e1]
    simp only [e2]
theorem gh_frz {n : Nat} {M : Mx} : ∃ μ', freeze 8 (.ref (2 * n)) (gridH n M) = some (gridD n M, μ') := by
  have one : ∀ a μ, a < n → (∀ i, (a ≤ i → i < n → μ[2 * i + 1]? = some (.lst ((rowD n M i).map .d))) ∧ μ[2 * n]? = some (.lst ((List.range n).map fun a => .ref (2 * a + 1)))) → ∃ μ', freeze 7 (.ref (2 * a + 1)) μ = some (.lst (rowD n M a), μ') ∧ (∀ i, (a + 1 ≤ i → i < n → μ'[2 * i + 1]? = some (.lst ((rowD n M i).map .d))) ∧ μ'[2 * n]? = some (.lst ((List.range n).map fun a => .ref (2 * a + 1)))) := by
    intro a μ ha hp
    refine ⟨_, freeze_lst ((hp a).1 (Nat.le_refl a) ha) 6, fun i => ⟨fun h1 h2 => ?_, ?_⟩⟩
    · rw [List.getElem?_set_ne (by omega)]
      exact (hp i).1 (by omega) h2
    · rw [List.getElem?_set_ne (by omega)]
      exact (hp i).2
  obtain ⟨μ', e, h⟩ := freezes_refs (freeze 7) (fun a μ => ∀ i, (a ≤ i → i < n → μ[2 * i + 1]? = some (.lst ((rowD n M i).map .d))) ∧ μ[2 * n]? = some (.lst ((List.range n).map fun a => .ref (2 * a + 1)))) (fun a => .lst (rowD n M a)) (fun a => 2 * a + 1) one n 0 (gridH n M) (by omega) (fun i => ⟨fun _ h => gridH_row h, gridH_top⟩)
  rw [← List.range_eq_range'] at e
  refine ⟨μ'.set (2 * n) (.frz (gridD n M)), ?_⟩
  unfold freeze
  simp only [gridH_top, e, (h 0).2]
  rfl
/-- a comprehension, by an invariant -/
theorem collect_inv {α β : Type} {step : Val → Heap → Res (List β)} (f : α → Val) (P : Nat → List β → Heap → Prop) : ∀ (xs : List α) (i : Nat) (acc : List β) (μ : Heap), P i acc μ →
    (∀ j x acc μ, xs[j]? = some x → P (i + j) acc μ → ∃ a μ', step (f x) μ = .ok a μ' ∧ P (i + j + 1) (acc ++ a) μ') → ∃ r μ', collect [] step (xs.map f) μ = .ok r μ' ∧ P (i + xs.length) (acc ++ r) μ'
  | [], i, acc, μ, h, _ => ⟨[], μ, collect_nil μ, by rw [List.append_nil]; exact h⟩
  | x :: xs, i, acc, μ, h, hs => by
    obtain ⟨a, μ1, e, h1⟩ := hs 0 x acc μ rfl h
    obtain ⟨r, μ2, e2, h2⟩ := collect_inv f P xs (i + 1) (acc ++ a) μ1 h1 fun j y acc μ hy hp => by
      have := hs (j + 1) y acc μ hy
      rw [show i + (j + 1) = i + 1 + j by omega] at this
      exact this hp
    refine ⟨a ++ r, μ2, ?_, ?_⟩
    · rw [List.map_cons, collect_cons, e]
      simp only [bnd_ok, e2]
    · rw [List.length_cons, show i + (xs.length + 1) = i + 1 + xs.length by omega, ← List.append_assoc]
      exact h2
theorem collect_rng {β : Type} {step : Val → Heap → Res (List β)} {lo : Int} {m : Nat} {μ : Heap} (P : Nat → List β → Heap → Prop) (h0 : P 0 [] μ) (hs : ∀ j acc μ, j < m → P j acc μ → ∃ a μ', step (.d (.int (lo + j))) μ = .ok a μ' ∧ P (j + 1) (acc ++ a) μ') : ∃ r μ', collect [] step (rngVals lo m) μ = .ok r μ' ∧ P m r μ' := by
  have := collect_inv (step := step) (fun k : Nat => Val.d (.int (lo + k))) P (List.range m) 0 [] μ h0 fun j x acc μ hx hp => by
    obtain ⟨hj, rfl⟩ := List.getElem?_eq_some_iff.mp hx
    rw [List.length_range] at hj
    rw [List.getElem_range]
    rw [Nat.zero_add] at hp ⊢
    exact hs j acc μ hj hp
  rw [Nat.zero_add, List.length_range] at this
  exact this
theorem cmp_isO (o : Option Int) (μ : Heap) : cmpop .is (.d (optD o)) (.d .non) μ = some o.isNone := by cases o <;> rfl
theorem cmp_isnO (o : Option Int) (μ : Heap) : cmpop .isn (.d (optD o)) (.d .non) μ = some o.isSome := by cases o <;> rfl
theorem low_set {M : Mx} {a b : Nat} {v : Int} (h : ∀ u, M a b = some u → v < u) : low M a b v = upd M a b v := by
  unfold low
  split
  · rename_i u e; rw [if_pos (h u e)]
  · rfl
theorem low_keep {M : Mx} {a b : Nat} {v u : Int} (e : M a b = some u) (h : ¬ v < u) : low M a b v = M := by
  unfold low
  rw [e]
  exact if_neg h
end Mp
namespace Mp
section
variable {T : Tbl} {R R1 : Run}
theorem w_colR {step : Val → Heap → Res (List Val)} {lo : Int} {m : Nat} {μ : Heap} {f : List Val → Heap → Res Val} {δ : Slots} {g : Val → Heap → RS} {ss : Ss} {Q : RS → Prop} (P : Nat → List Val → Heap → Prop) (h0 : P 0 [] μ) (hs : ∀ j acc μ, j < m → P j acc μ → ∃ a μ', step (.d (.int (lo + j))) μ = .ok a μ' ∧ P (j + 1) (acc ++ a) μ')
    (he : ∀ r μ', P m r μ' → Wr (sq T R R1 ((f r μ').then_ δ g) ss) Q) : Wr (sq T R R1 (((collect [] step (rngVals lo m) μ).nox.bnd f).then_ δ g) ss) Q := by
  obtain ⟨r, μ', e, h⟩ := collect_rng P h0 hs
  rw [e]
  exact he r μ' h
end
end Mp
namespace Mp
theorem idx_grid {n : Nat} {M : Mx} {a : Nat} (h : a < n) (μ : Heap) : idxV (.d (gridD n M)) (.d (.int (a : Int))) μ = .ok (.d (.lst (rowD n M a))) μ := by
  unfold gridD
  rw [idx_lst, grid_at h]
  rfl
theorem swS_grid {n : Nat} {M : Mx} (μ : Heap) : seqWalkS (.d (gridD n M)) μ = .ok (((List.range n).map fun a => D.lst (rowD n M a)).map .d, []) μ := rfl
theorem walk_grid {n : Nat} {M : Mx} (μ : Heap) : seqWalk (.d (gridD n M)) μ = .ok (((List.range n).map fun a => D.lst (rowD n M a)).map .d, []) μ := rfl
theorem zip_rows (n : Nat) (M : Mx) (i y : Nat) : List.map (fun p => Val.d (.tup [p.1, p.2])) ((rowD n M i).zip (rowD n M y)) = (List.range n).map fun j => Val.d (.tup [optD (M i j), optD (M y j)]) := by
  unfold rowD
  rw [List.zip_map', List.map_map]
  rfl
/-- literals are told apart by == -/
theorem shp_lits (ls : Lits) : shp (.lst (ls.map litD)) = true := by
  have h1 : plains (ls.map litD) = true := by
    induction ls with
    | nil => rfl
    | cons p r ih => rw [List.map_cons, plains, ih]; rfl
  have h2 : depths (ls.map litD) ≤ 1 := by
    clear h1
    induction ls with
    | nil => exact Nat.zero_le _
    | cons p r ih => exact Nat.max_le.mpr ⟨Nat.le_refl 1, ih⟩
  unfold shp
  rw [show plain (.lst (ls.map litD)) = plains (ls.map litD) from rfl, h1, show depth (.lst (ls.map litD)) = depths (ls.map litD) + 1 from rfl]
  exact decide_eq_true (by omega)
theorem eqv_lits : ∀ (ls : Lits), eqvs (ls.map litD) (ls.map litD) = true
  | [] => rfl
  | (a, b, c) :: r => by
    show (eqvs [.int a, .int b, .int c] [.int a, .int b, .int c] && eqvs (r.map litD) (r.map litD)) = true
    rw [eqv_lits r]
    simp [eqvs, eqv]
theorem eqv_optD (o : Option Int) : eqv (optD o) (optD o) = true := by cases o <;> simp [optD, eqv]
theorem shp_optD (o : Option Int) : shp (optD o) = true := by cases o <;> rfl
end Mp
namespace Mp
theorem set_last {α : Type} (l : List α) (x y : α) : (l ++ [x]).set l.length y = l ++ [y] := by rw [List.set_append_right _ _ (Nat.le_refl _), Nat.sub_self]; rfl
theorem collect_rngM {β : Type} {step : Val → Heap → Res (List β)} {lo : Int} {m : Nat} {μ : Heap} (k : Nat → β) (h : ∀ j, j < m → step (.d (.int (lo + j))) μ = .ok [k j] μ) : collect [] step (rngVals lo m) μ = .ok ((List.range m).map k) μ := by
  refine collect_map (g := []) (fun j : Nat => Val.d (.int (lo + j))) k trivial (List.range m) fun j hj => h j (List.mem_range.mp hj)
theorem collect_ND {β : Type} {g : List (Nat × Cell)} {step : Val → Heap → Res (List β)} {f : Nat → D} {m : Nat} {μ : Heap} (k : Nat → β) (hg : guardOk g μ) (h : ∀ j, j < m → step (.d (f j)) μ = .ok [k j] μ) : collect g step (((List.range m).map f).map .d) μ = .ok ((List.range m).map k) μ := by
  rw [List.map_map]
  exact collect_map (Val.d ∘ f) k hg (List.range m) fun j hj => h j (List.mem_range.mp hj)
theorem set_id {α : Type} {l : List α} {a : Nat} {x : α} (h : l[a]? = some x) : l.set a x = l := by
  apply List.ext_getElem?
  intro i
  rw [List.getElem?_set]
  by_cases q : a = i
  · subst q
    rw [if_pos rfl, if_pos (List.getElem?_eq_some_iff.mp h).1, h]
  · rw [if_neg q]
end Mp
namespace Mp
theorem cmp_ne_of {x y : Val} {μ : Heap} {d : D} (h1 : snap μ 8 x = some d) (h2 : snap μ 8 y = some d) (h3 : shp d = true) (h4 : eqv d d = true) : cmpop .ne x y μ = some false := by
  show (match snap μ 8 x, snap μ 8 y with
    | some a, some b => if shp a && shp b then some (!eqv a b) else none
    | _, _ => none) = _
  rw [h1, h2]
  simp only [h3, h4]
  rfl
theorem cmp_eq_of {x y : Val} {μ : Heap} {d : D} (h1 : snap μ 8 x = some d) (h2 : snap μ 8 y = some d) (h3 : shp d = true) (h4 : eqv d d = true) : cmpop .eq x y μ = some true := by
  show (match snap μ 8 x, snap μ 8 y with
    | some a, some b => if shp a && shp b then some (eqv a b) else none
    | _, _ => none) = _
  rw [h1, h2]
  simp only [h3, h4]
  rfl
theorem cmp_ne_lits {ls : Lits} {μ : Heap} {i : Nat} (h : μ[i]? = some (.lst ((ls.map litD).map .d))) : cmpop .ne (.d (.lst (ls.map litD))) (.ref i) μ = some false :=
  cmp_ne_of (snap_d _ _ _) (snap_lst h 7) (shp_lits ls) (eqv_lits ls)
theorem cmp_ne_optD (o : Option Int) (μ : Heap) : cmpop .ne (.d (optD o)) (.d (optD o)) μ = some false := cmp_ne_of (snap_d _ _ _) (snap_d _ _ _) (shp_optD o) (eqv_optD o)
theorem isbl_optD (T : Tbl) (o : Option Int) (μ : Heap) : bltD T (.isi [.bl]) [.d (optD o)] μ = some (.bl false) := by cases o <;> rfl
theorem at3 (a b c : D) (r : Int) : ∃ g, atI [a, b, c] (r % 3) = some g ∧ (g = a ∨ g = b ∨ g = c) := by
  have : r % 3 = 0 ∨ r % 3 = 1 ∨ r % 3 = 2 := by omega
  rcases this with h | h | h <;> rw [h]
  · exact ⟨a, rfl, .inl rfl⟩
  · exact ⟨b, rfl, .inr (.inl rfl)⟩
  · exact ⟨c, rfl, .inr (.inr rfl)⟩
theorem at2 (a b : D) (r : Int) : ∃ g, atI [a, b] (r % 2) = some g ∧ (g = a ∨ g = b) := by
  have : r % 2 = 0 ∨ r % 2 = 1 := by omega
  rcases this with h | h <;> rw [h]
  · exact ⟨a, rfl, .inl rfl⟩
  · exact ⟨b, rfl, .inr rfl⟩
end Mp
namespace Mp
theorem tyOf_optD (o : Option Int) (μ : Heap) : tyOf μ (.d (optD o)) = some (if o.isSome = true then .int else .non) := by cases o <;> rfl
theorem isTy_ite (c : Prop) [Decidable c] (a b t : Ty) : isTy (if c then a else b) t = if c then isTy a t else isTy b t := by split <;> rfl
end Mp
end
section
set_option linter.all false
set_option autoImplicit false
namespace Mp
/-! ### rings: lowering values again and again -/
structure Bf where
  val : Nat → Int
  cs : Nat → Option (Nat × Nat × Int)
  low : Option Nat
  tm : Nat → Nat
  clk : Nat
  ps : Nat → Nat
def upF {α : Type} (f : Nat → α) (a : Nat) (x : α) : Nat → α := fun i => if i = a then x else f i
theorem upF_same {α : Type} (f : Nat → α) (a : Nat) (x : α) : upF f a x a = x := if_pos rfl
theorem upF_ne {α : Type} (f : Nat → α) {a i : Nat} (x : α) (h : i ≠ a) : upF f a x i = f i := if_neg h
/-- one literal, in the pass r -/
def rlx (r : Nat) (s : Bf) (p : Nat × Nat × Int) : Bf :=
  if s.val p.2.1 + p.2.2 < s.val p.1 then ⟨upF s.val p.1 (s.val p.2.1 + p.2.2), upF s.cs p.1 (some p), some p.1, upF s.tm p.1 (s.clk + 1), s.clk + 1, upF s.ps p.1 r⟩ else s
/-- what holds always -/
structure BfI (n : Nat) (ls : Lits) (r : Nat) (s : Bf) : Prop where
  lit : ∀ p x, s.cs p = some x → x.1 = p ∧ x ∈ ls ∧ (s.val x.2.1 + x.2.2 < s.val p ∨ (s.val p = s.val x.2.1 + x.2.2 ∧ s.tm x.2.1 < s.tm p)) ∧ s.ps p ≤ s.ps x.2.1 + 1
  tm : ∀ p, s.tm p ≤ s.clk
  ps : ∀ p, s.ps p ≤ r
  has : ∀ p, 1 ≤ s.ps p → s.cs p ≠ none
/-- a literal that this pass has seen, or not yet -/
def Seen (s : Bf) (r : Nat) (p : Nat × Nat × Int) : Prop := s.val p.1 ≤ s.val p.2.1 + p.2.2 ∨ r ≤ s.ps p.2.1 + 1
theorem rlx_ok {n : Nat} {ls : Lits} {r : Nat} {s : Bf} {p : Nat × Nat × Int} (h : BfI n ls r s) (hr : 1 ≤ r) (hp : p ∈ ls) (hk : Seen s r p) : BfI n ls r (rlx r s p) ∧ (∀ q, Seen s r q → Seen (rlx r s p) r q) ∧ (∀ q, Seen s (r + 1) q → Seen (rlx r s p) (r + 1) q) ∧ Seen (rlx r s p) (r + 1) p := by
  obtain ⟨a, b, c⟩ := p
  unfold rlx
  by_cases q : s.val b + c < s.val a
  · simp only [q, if_true]
    have hb : r ≤ s.ps b + 1 := by
      rcases hk with k | k
      · simp only at k; omega
      · exact k
    have mono : ∀ i, s.ps i ≤ upF s.ps a r i := fun i => by
      by_cases e : i = a
      · rw [e, upF_same]; exact h.ps a
      · rw [upF_ne _ _ e]; exact Nat.le_refl _
    have vmono : ∀ i, upF s.val a (s.val b + c) i ≤ s.val i := fun i => by
      by_cases e : i = a
      · rw [e, upF_same]; omega
      · rw [upF_ne _ _ e]; exact Int.le_refl _
    have seen : ∀ r' x, r' ≤ r + 1 → Seen s r' x → (Seen ⟨upF s.val a (s.val b + c), upF s.cs a (some (a, b, c)), some a, upF s.tm a (s.clk + 1), s.clk + 1, upF s.ps a r⟩ r' x) := fun r' x hr' k => by
      by_cases e : x.2.1 = a
      · right; simp only; rw [e, upF_same]; exact hr'
      · rcases k with k | k
        · left
          simp only
          rw [upF_ne _ _ e]
          have := vmono x.1
          omega
        · right
          have := mono x.2.1
          simp only
          omega
    refine ⟨⟨fun p x e => ?_, fun p => ?_, fun p => ?_, fun p hp => ?_⟩, fun x k => seen r x (by omega) k, fun x k => seen (r + 1) x (Nat.le_refl _) k, ?_⟩
    · simp only at e ⊢
      by_cases ep : p = a
      · subst ep
        rw [upF_same] at e
        cases e
        refine ⟨rfl, hp, ?_, ?_⟩
        · simp only [upF_same]
          by_cases eb : b = p
          · subst eb
            simp only [upF_same]
            left; omega
          · rw [upF_ne _ _ eb, upF_ne _ _ eb]
            right
            exact ⟨rfl, Nat.lt_succ_of_le (h.tm b)⟩
        · simp only [upF_same]
          have := mono b
          omega
      · rw [upF_ne _ _ ep] at e
        obtain ⟨e1, e2, e3, e4⟩ := h.lit p x e
        refine ⟨e1, e2, ?_, ?_⟩
        · simp only [upF_ne _ _ ep]
          by_cases eb : x.2.1 = a
          · rw [eb, upF_same, upF_same]
            rw [eb] at e3
            left
            rcases e3 with k | ⟨k, _⟩ <;> omega
          · rw [upF_ne _ _ eb, upF_ne _ _ eb]
            exact e3
        · simp only [upF_ne _ _ ep]
          have := mono x.2.1
          omega
    · simp only
      by_cases e : p = a
      · rw [e, upF_same]; exact Nat.le_refl _
      · rw [upF_ne _ _ e]; exact Nat.le_succ_of_le (h.tm p)
    · simp only
      by_cases e : p = a
      · rw [e, upF_same]; exact Nat.le_refl _
      · rw [upF_ne _ _ e]; exact h.ps p
    · simp only at hp ⊢
      by_cases e : p = a
      · rw [e, upF_same]; simp
      · rw [upF_ne _ _ e] at hp ⊢; exact h.has p hp
    · by_cases e : b = a
      · right; simp only; rw [e, upF_same]; exact Nat.le_refl _
      · left; simp only; rw [upF_ne _ _ e, upF_same]; exact Int.le_refl _
  · simp only [q, if_false]
    exact ⟨h, fun _ k => k, fun _ k => k, .inl (by simp only; omega)⟩
/-- within a pass: j literals are seen -/
structure BfP (n : Nat) (ls : Lits) (r j : Nat) (v0 : Nat → Int) (s : Bf) : Prop where
  inv : BfI n ls r s
  old : ∀ q ∈ ls, Seen s r q
  new : ∀ q ∈ ls.take j, Seen s (r + 1) q
  non : s.low = none → s.val = v0 ∧ ∀ q ∈ ls.take j, v0 q.1 ≤ v0 q.2.1 + q.2.2
  some_ : ∀ a, s.low = some a → s.ps a = r ∧ a < n
theorem BfP.step {n : Nat} {ls : Lits} {r j : Nat} {v0 : Nat → Int} {s : Bf} {p : Nat × Nat × Int} (h : BfP n ls r j v0 s) (hr : 1 ≤ r) (hp : ls[j]? = some p) (hn : p.1 < n) : BfP n ls r (j + 1) v0 (rlx r s p) := by
  have hm := List.mem_of_getElem? hp
  obtain ⟨h1, h2, h3, h4⟩ := rlx_ok h.inv hr hm (h.old p hm)
  have tk : ∀ q ∈ ls.take (j + 1), q ∈ ls.take j ∨ q = p := fun q hq => by
    rw [List.take_succ, hp] at hq
    rcases List.mem_append.mp hq with k | k
    · exact .inl k
    · exact .inr (List.mem_singleton.mp k)
  refine ⟨h1, fun q hq => h2 q (h.old q hq), fun q hq => ?_, fun e => ?_, fun a e => ?_⟩
  · rcases tk q hq with k | rfl
    · exact h3 q (h.new q k)
    · exact h4
  · unfold rlx at e ⊢
    split at e
    · cases e
    · rename_i c
      rw [if_neg c]
      obtain ⟨e1, e2⟩ := h.non e
      refine ⟨e1, fun q hq => ?_⟩
      rcases tk q hq with k | rfl
      · exact e2 q k
      · rw [e1] at c; omega
  · unfold rlx at e ⊢
    split at e
    · rename_i c
      rw [if_pos c]
      cases e
      exact ⟨upF_same _ _ _, hn⟩
    · rename_i c
      rw [if_neg c]
      exact h.some_ a e
/-- at the begin of the pass r -/
structure Bf0 (n : Nat) (ls : Lits) (r : Nat) (s : Bf) : Prop where
  inv : BfI n ls r s
  old : ∀ q ∈ ls, Seen s (r + 1) q
theorem BfP.done {n : Nat} {ls : Lits} {r : Nat} {v0 : Nat → Int} {s : Bf} (h : BfP n ls r ls.length v0 s) : Bf0 n ls r s := ⟨h.inv, fun q hq => h.new q (by rw [List.take_length]; exact hq)⟩
theorem Bf0.start {n : Nat} {ls : Lits} {r : Nat} {s : Bf} (h : Bf0 n ls r s) : BfP n ls (r + 1) 0 s.val { s with low := none } :=
  ⟨⟨h.inv.lit, h.inv.tm, fun p => Nat.le_succ_of_le (h.inv.ps p), h.inv.has⟩, h.old, (fun _ k => nomatch k), (fun _ => ⟨rfl, fun _ k => nomatch k⟩), (fun a e => nomatch e)⟩
def bf0 : Bf := ⟨fun _ => 0, fun _ => none, none, fun _ => 0, 0, fun _ => 0⟩
theorem bf0_ok {n : Nat} {ls : Lits} : Bf0 n ls 0 bf0 := ⟨⟨(fun _ _ e => nomatch e), fun _ => Nat.le_refl 0, fun _ => Nat.le_refl 0, fun _ h => absurd h (Nat.not_succ_le_zero 0)⟩, fun _ _ => .inr (Nat.le_refl 1)⟩
/-- values that keep the literals: no ring -/
def Feas (ls : Lits) (v : Nat → Int) : Prop := ∀ q ∈ ls, v q.1 ≤ v q.2.1 + q.2.2
theorem Feas.walk {ls : Lits} {v : Nat → Int} (h : Feas ls v) {a b : Nat} {w : Int} (k : Wk ls a b w) : v a ≤ v b + w := by
  induction k with
  | nil a => omega
  | cons m _ ih => have := h _ m; simp only at this; omega
/-! the causes, one behind the other -/
def nxF (cs : Nat → Option (Nat × Nat × Int)) (p : Nat) : Nat := match cs p with
  | some x => x.2.1
  | none => p
theorem nxF_some {cs : Nat → Option (Nat × Nat × Int)} {p : Nat} {x : Nat × Nat × Int} (h : cs p = some x) : nxF cs p = x.2.1 := by
  unfold nxF; rw [h]
def wF (cs : Nat → Option (Nat × Nat × Int)) (p : Nat) : Int := match cs p with
  | some x => x.2.2
  | none => 0
def itF (f : Nat → Nat) (q : Nat) : Nat → Nat
  | 0 => q
  | t + 1 => f (itF f q t)
theorem itF_add (f : Nat → Nat) (q : Nat) (s : Nat) : ∀ t, itF f (itF f q s) t = itF f q (s + t)
  | 0 => rfl
  | t + 1 => by rw [itF, itF_add f q s t]; rfl
/-- n + 1 numbers under n: two are the same -/
theorem pigeon : ∀ (n : Nat) (f : Nat → Nat), (∀ i, i ≤ n → f i < n) → ∃ i j, i < j ∧ j ≤ n ∧ f i = f j
  | 0, f, h => absurd (h 0 (Nat.le_refl 0)) (Nat.not_lt_zero _)
  | n + 1, f, h => by
    by_cases e : ∃ i, i ≤ n ∧ f i = f (n + 1)
    · obtain ⟨i, hi, e⟩ := e
      exact ⟨i, n + 1, by omega, Nat.le_refl _, e⟩
    · -- the last value's place is given to n
      have hne : ∀ i, i ≤ n → f i ≠ f (n + 1) := fun i hi k => e ⟨i, hi, k⟩
      have hl := h (n + 1) (Nat.le_refl _)
      obtain ⟨i, j, hij, hj, k⟩ := pigeon n (fun i => if f i = n then f (n + 1) else f i) (fun i hi => by
        have h1 := h i (by omega)
        have h2 := hne i hi
        show (if f i = n then f (n + 1) else f i) < n
        split
        · omega
        · omega)
      refine ⟨i, j, hij, by omega, ?_⟩
      replace k : (if f i = n then f (n + 1) else f i) = (if f j = n then f (n + 1) else f j) := k
      have h1 := hne i (by omega)
      have h2 := hne j hj
      split at k <;> split at k <;> omega
/-- a point from which the causes go round -/
structure Rnd (cs : Nat → Option (Nat × Nat × Int)) (q m : Nat) : Prop where
  pos : 1 ≤ m
  back : itF (nxF cs) q m = q
  least : ∀ t, 1 ≤ t → t < m → itF (nxF cs) q t ≠ q
  has : ∀ t, ∃ x, cs (itF (nxF cs) q t) = some x
theorem rnd_of {n : Nat} {cs : Nat → Option (Nat × Nat × Int)} {p : Nat} (h1 : ∀ t, t ≤ n → itF (nxF cs) p t < n) (h2 : ∀ t, t < n → ∃ x, cs (itF (nxF cs) p t) = some x) : ∃ m, m ≤ n ∧ Rnd cs (itF (nxF cs) p n) m := by
  obtain ⟨i, j, hij, hj, e⟩ := pigeon n (itF (nxF cs) p) h1
  have per : ∀ t, i ≤ t → itF (nxF cs) p (t + (j - i)) = itF (nxF cs) p t := fun t ht => by
    have a1 := itF_add (nxF cs) p j (t - i)
    have a2 := itF_add (nxF cs) p i (t - i)
    rw [e] at a2
    rw [show j + (t - i) = t + (j - i) by omega] at a1
    rw [show i + (t - i) = t by omega] at a2
    rw [← a1, ← a2]
  have has : ∀ t, ∃ x, cs (itF (nxF cs) p t) = some x := fun t => by
    induction t using Nat.strongRecOn with
    | _ t ih =>
      by_cases c : t < n
      · exact h2 t c
      · have := per (t - (j - i)) (by omega)
        rw [show t - (j - i) + (j - i) = t by omega] at this
        rw [this]
        exact ih _ (by omega)
  have full : ∃ m, 1 ≤ m ∧ m ≤ n ∧ itF (nxF cs) (itF (nxF cs) p n) m = itF (nxF cs) p n := ⟨j - i, by omega, by omega, by rw [itF_add]; exact per n (by omega)⟩
  -- the least of them
  have least : ∀ m, 1 ≤ m → m ≤ n → itF (nxF cs) (itF (nxF cs) p n) m = itF (nxF cs) p n → ∃ m', 1 ≤ m' ∧ m' ≤ n ∧ itF (nxF cs) (itF (nxF cs) p n) m' = itF (nxF cs) p n ∧ ∀ t, 1 ≤ t → t < m' → itF (nxF cs) (itF (nxF cs) p n) t ≠ itF (nxF cs) p n := by
    intro m
    induction m using Nat.strongRecOn with
    | _ m ih =>
      intro a1 a2 a3
      by_cases c : ∃ t, 1 ≤ t ∧ t < m ∧ itF (nxF cs) (itF (nxF cs) p n) t = itF (nxF cs) p n
      · obtain ⟨t, b1, b2, b3⟩ := c
        exact ih t b2 b1 (by omega) b3
      · exact ⟨m, a1, a2, a3, fun t b1 b2 b3 => c ⟨t, b1, b2, b3⟩⟩
  obtain ⟨m, a1, a2, a3⟩ := full
  obtain ⟨m', b1, b2, b3, b4⟩ := least m a1 a2 a3
  exact ⟨m', b2, b1, b3, b4, fun t => by rw [itF_add]; exact has _⟩
def litF (cs : Nat → Option (Nat × Nat × Int)) (p : Nat) : Nat × Nat × Int := match cs p with
  | some x => x
  | none => (0, 0, 0)
/-- the ring -/
def ringF (cs : Nat → Option (Nat × Nat × Int)) (q m : Nat) : Lits := (List.range m).map fun t => litF cs (itF (nxF cs) q t)
structure Ring (ls ring : Lits) : Prop where
  pos : 0 < ring.length
  len : ring.length ≤ 1000
  in_ : ∀ x ∈ ring, x ∈ ls
  nxt : ∀ k, k < ring.length → (ring.getD k (0, 0, 0)).2.1 = (ring.getD ((k + 1) % ring.length) (0, 0, 0)).1
  neg : (ring.map (·.2.2)).sum < 0
  walk : ∃ q, q ∈ ring.map (·.1) ∧ Wk ring q q (ring.map (·.2.2)).sum
theorem ring_of {n : Nat} {ls : Lits} {r : Nat} {s : Bf} {q m : Nat} (h : BfI n ls r s) (hm : m ≤ 1000) (R : Rnd s.cs q m) : Ring ls (ringF s.cs q m) := by
  have lit : ∀ t, ∃ x, s.cs (itF (nxF s.cs) q t) = some x ∧ litF s.cs (itF (nxF s.cs) q t) = x ∧ x.1 = itF (nxF s.cs) q t ∧ x.2.1 = itF (nxF s.cs) q (t + 1) ∧ x ∈ ls := fun t => by
    obtain ⟨x, e⟩ := R.has t
    obtain ⟨e1, e2, _⟩ := h.lit _ x e
    exact ⟨x, e, by unfold litF; rw [e], e1, (nxF_some e).symm, e2⟩
  have len : (ringF s.cs q m).length = m := by unfold ringF; rw [List.length_map, List.length_range]
  have get : ∀ k, k < m → (ringF s.cs q m).getD k (0, 0, 0) = litF s.cs (itF (nxF s.cs) q k) := fun k hk => by
    unfold ringF
    rw [List.getD_eq_getElem?_getD, List.getElem?_map, List.getElem?_range hk]; rfl
  have sums : ∀ t, 1 ≤ t → (s.val (itF (nxF s.cs) q t) + (((List.range t).map fun i => litF s.cs (itF (nxF s.cs) q i)).map (·.2.2)).sum < s.val q) ∨ (s.val q = s.val (itF (nxF s.cs) q t) + (((List.range t).map fun i => litF s.cs (itF (nxF s.cs) q i)).map (·.2.2)).sum ∧ s.tm (itF (nxF s.cs) q t) < s.tm q) := by
    intro t
    induction t with
    | zero => intro h; omega
    | succ t ih =>
      intro _
      obtain ⟨x, e, e1, e2, e3, e4⟩ := lit t
      obtain ⟨_, _, f, _⟩ := h.lit _ x e
      rw [e3] at f
      rw [List.range_succ, List.map_append, List.map_append, List.sum_append]
      simp only [List.map_cons, List.map_nil, List.sum_cons, List.sum_nil, e1]
      by_cases c : t = 0
      · subst c
        simp only [itF, List.range_zero, List.map_nil, List.sum_nil] at f ⊢
        rcases f with f | ⟨f1, f2⟩
        · left; omega
        · right; exact ⟨by omega, f2⟩
      · rcases ih (by omega) with g | ⟨g1, g2⟩ <;> rcases f with f | ⟨f1, f2⟩
        · left; omega
        · left; omega
        · left; omega
        · right; exact ⟨by omega, by omega⟩
  have mem : ∀ t, t < m → litF s.cs (itF (nxF s.cs) q t) ∈ ringF s.cs q m := fun t ht => List.mem_map.mpr ⟨t, List.mem_range.mpr ht, rfl⟩
  refine ⟨by rw [len]; exact R.pos, by rw [len]; exact hm, fun x hx => ?_, fun k hk => ?_, ?_, q, ?_, ?_⟩
  · obtain ⟨t, _, rfl⟩ := List.mem_map.mp hx
    obtain ⟨x, _, e1, _, _, e4⟩ := lit t
    rw [e1]; exact e4
  · rw [len] at hk ⊢
    rw [get k hk, get _ (Nat.mod_lt _ R.pos)]
    obtain ⟨x, _, e1, _, e3, _⟩ := lit k
    obtain ⟨y, _, f1, f2, _, _⟩ := lit ((k + 1) % m)
    rw [e1, f1, e3, f2]
    by_cases c : k + 1 < m
    · rw [Nat.mod_eq_of_lt c]
    · have : k + 1 = m := by omega
      rw [this, Nat.mod_self]
      exact R.back
  · have := sums m R.pos
    rw [R.back] at this
    show (((List.range m).map fun i => litF s.cs (itF (nxF s.cs) q i)).map (·.2.2)).sum < 0
    rcases this with k | ⟨_, k⟩ <;> omega
  · refine List.mem_map.mpr ⟨_, mem 0 R.pos, ?_⟩
    obtain ⟨x, _, e1, e2, _⟩ := lit 0
    rw [e1, e2]; rfl
  · have go : ∀ t, t ≤ m → Wk (ringF s.cs q m) q (itF (nxF s.cs) q t) (((List.range t).map fun i => litF s.cs (itF (nxF s.cs) q i)).map (·.2.2)).sum := by
      intro t
      induction t with
      | zero => intro _; exact .nil q
      | succ t ih =>
        intro ht
        rw [List.range_succ, List.map_append, List.map_append, List.sum_append]
        refine (ih (by omega)).app ?_
        obtain ⟨x, e, e1, e2, e3, e4⟩ := lit t
        simp only [List.map_cons, List.map_nil, List.sum_cons, List.sum_nil, Int.add_zero]
        have hm := mem t (by omega)
        rw [e1] at hm ⊢
        refine .one ?_
        rw [← e2, ← e3]
        exact hm
    have := go m (Nat.le_refl m)
    rw [R.back] at this
    exact this
/-- the point found in the last pass -/
theorem bf_rnd {n : Nat} {ls : Lits} {s : Bf} {a : Nat} (R : InR n ls) (h : BfI n ls n s) (ha : a < n) (hp : s.ps a = n) : (∀ t, t ≤ n → itF (nxF s.cs) a t < n) ∧ (∀ t, t < n → ∃ x, s.cs (itF (nxF s.cs) a t) = some x) ∧ (∃ m, m ≤ n ∧ Rnd s.cs (itF (nxF s.cs) a n) m) ∧ ∀ t, itF (nxF s.cs) (itF (nxF s.cs) a n) t < n := by
  have go : ∀ t, t ≤ n → itF (nxF s.cs) a t < n ∧ n ≤ s.ps (itF (nxF s.cs) a t) + t := by
    intro t
    induction t with
    | zero => intro _; exact ⟨ha, by rw [show itF (nxF s.cs) a 0 = a from rfl, hp]; omega⟩
    | succ t ih =>
      intro ht
      obtain ⟨h1, h2⟩ := ih (by omega)
      have h3 := h.has (itF (nxF s.cs) a t) (by omega)
      cases e : s.cs (itF (nxF s.cs) a t) with
      | none => exact absurd e h3
      | some x =>
        obtain ⟨_, e2, _, e4⟩ := h.lit _ x e
        have e5 : itF (nxF s.cs) a (t + 1) = x.2.1 := nxF_some e
        rw [e5]
        exact ⟨(R x e2).2, by omega⟩
  have h2 : ∀ t, t < n → ∃ x, s.cs (itF (nxF s.cs) a t) = some x := fun t ht => by
    have := go t (by omega)
    cases e : s.cs (itF (nxF s.cs) a t) with
    | none => exact absurd e (h.has _ (by omega))
    | some x => exact ⟨x, rfl⟩
  obtain ⟨m, hm, Q⟩ := rnd_of (fun t ht => (go t ht).1) h2
  refine ⟨fun t ht => (go t ht).1, h2, ⟨m, hm, Q⟩, fun t => ?_⟩
  cases t with
  | zero => exact (go n (Nat.le_refl n)).1
  | succ t =>
    obtain ⟨x, hx⟩ := Q.has t
    obtain ⟨_, e2, _⟩ := h.lit _ x hx
    rw [show itF (nxF s.cs) (itF (nxF s.cs) a n) (t + 1) = x.2.1 from nxF_some hx]
    exact (R x e2).2
end Mp
namespace Mp
def csD : Option (Nat × Nat × Int) → D
  | some x => litD x
  | none => .non
def lowD : Option Nat → D
  | some a => .int a
  | none => .non
def vals (n : Nat) (val : Nat → Int) : List D := (List.range n).map fun i => D.int (val i)
def css (n : Nat) (cs : Nat → Option (Nat × Nat × Int)) : List D := (List.range n).map fun i => csD (cs i)
def bfH (μ : Heap) (n : Nat) (val : Nat → Int) (cs : Nat → Option (Nat × Nat × Int)) : Heap := μ ++ [.lst ((vals n val).map .d)] ++ [.lst ((css n cs).map .d)]
section
variable {n : Nat} {μ : Heap} {val : Nat → Int} {cs : Nat → Option (Nat × Nat × Int)}
theorem bfH_len : (bfH μ n val cs).length = μ.length + 2 := by unfold bfH; rw [List.length_append, List.length_append]; rfl
theorem bfH_old {r : Nat} (h : r < μ.length) : (bfH μ n val cs)[r]? = μ[r]? := by
  unfold bfH
  rw [List.getElem?_append_left (by rw [List.length_append]; omega), List.getElem?_append_left h]
theorem bfH_v : (bfH μ n val cs)[μ.length]? = some (.lst ((vals n val).map .d)) := by
  unfold bfH
  rw [List.getElem?_append_left (by rw [List.length_append]; simp), List.getElem?_concat_length]
theorem bfH_c : (bfH μ n val cs)[μ.length + 1]? = some (.lst ((css n cs).map .d)) := by
  unfold bfH
  have := List.getElem?_concat_length (l := μ ++ [.lst ((vals n val).map .d)]) (a := Cell.lst ((css n cs).map .d))
  rwa [List.length_append] at this
theorem vals_len : (vals n val).length = n := by unfold vals; rw [List.length_map, List.length_range]
theorem css_len : (css n cs).length = n := by unfold css; rw [List.length_map, List.length_range]
theorem vals_get {b : Nat} (h : b < n) : (vals n val)[b]? = some (.int (val b)) := by unfold vals; rw [List.getElem?_map, List.getElem?_range h]; rfl
theorem css_get {b : Nat} (h : b < n) : (css n cs)[b]? = some (csD (cs b)) := by unfold css; rw [List.getElem?_map, List.getElem?_range h]; rfl
theorem css_at {b : Nat} (h : b < n) : atI (css n cs) (b : Int) = some (csD (cs b)) := atI_nat (css_get h)
theorem bf_val {b : Nat} (h : b < n) : idxV (.ref μ.length) (.d (.int (b : Int))) (bfH μ n val cs) = .ok (.d (.int (val b))) (bfH μ n val cs) := by
  rw [idx_ref bfH_v, atI_nat (a := Val.d (.int (val b))) (by rw [List.getElem?_map, vals_get h]; rfl)]
  rfl
theorem mapset {α : Type} (n : Nat) (f : Nat → α) {a : Nat} (x : α) (g : α → D) : ((List.range n).map fun i => g (f i)).set a (g x) = (List.range n).map fun i => g (upF f a x i) := by
  apply List.ext_getElem?
  intro i
  rw [List.getElem?_set, List.length_map, List.length_range]
  by_cases hi : i < n
  · rw [List.getElem?_map, List.getElem?_map, List.getElem?_range hi]
    by_cases q : a = i
    · subst q; rw [if_pos rfl, if_pos hi]; simp only [Option.map_some, upF_same]
    · rw [if_neg q]; simp only [Option.map_some]; rw [upF_ne _ _ (fun z => q z.symm)]
  · have e1 : ((List.range n).map fun i => g (f i))[i]? = none := List.getElem?_eq_none (by rw [List.length_map, List.length_range]; omega)
    have e2 : ((List.range n).map fun i => g (upF f a x i))[i]? = none := List.getElem?_eq_none (by rw [List.length_map, List.length_range]; omega)
    rw [e1, e2]
    by_cases q : a = i
    · rw [if_pos q, if_neg (by omega)]
    · rw [if_neg q]
theorem ixN_nat {m b : Nat} (h : b < m) : ixN m (b : Int) = some b := by
  unfold ixN
  rw [if_pos (Int.natCast_nonneg b), if_pos (by omega), Int.toNat_natCast]
theorem bf_setV {a : Nat} {x : Int} (h : a < n) : setSub (.ref μ.length) (.d (.int (a : Int))) (.d (.int x)) (bfH μ n val cs) = .ok () (bfH μ n (upF val a x) cs) := by
  rw [setSub_ref, bfH_v]
  simp only [List.length_map, vals_len, ixN_nat h, simple_d, need_true]
  congr 1
  have e : ((vals n val).map Val.d).set a (.d (.int x)) = (vals n (upF val a x)).map .d := by
    rw [← List.map_set]
    unfold vals
    rw [mapset n val x D.int]
  rw [e]
  unfold bfH
  rw [List.set_append_left _ _ (by rw [List.length_append]; simp), set_last]
theorem bf_setC {a p q : Nat} {c : Int} (h : a < n) : setSub (.ref (μ.length + 1)) (.d (.int (a : Int))) (.d (.tup [.int (p : Int), .int (q : Int), .int c])) (bfH μ n val cs) = .ok () (bfH μ n val (upF cs a (some (p, q, c)))) := by
  rw [setSub_ref, bfH_c]
  simp only [List.length_map, css_len, ixN_nat h, simple_d, need_true]
  congr 1
  have e : ((css n cs).map Val.d).set a (.d (.tup [.int (p : Int), .int (q : Int), .int c])) = (css n (upF cs a (some (p, q, c)))).map .d := by
    rw [← List.map_set]
    unfold css
    have := mapset n cs (a := a) (some (p, q, c)) csD
    rw [← this]
    rfl
  rw [e]
  unfold bfH
  have := set_last (μ ++ [Cell.lst ((vals n val).map .d)]) (.lst ((css n cs).map .d)) (.lst ((css n (upF cs a (some (p, q, c)))).map .d))
  rwa [List.length_append] at this
/-- literals: data, or a list that stays as it is -/
def LV (lv : Val) (μ : Heap) (ls : Lits) : Prop := lv = .d (.lst (ls.map litD)) ∨ ∃ r, lv = .ref r ∧ μ[r]? = some (.lst ((ls.map litD).map .d))
theorem LV.walk {lv : Val} {ls : Lits} (h : LV lv μ ls) : ∃ g, ∀ μ' : Heap, (∀ r, r < μ.length → μ'[r]? = μ[r]?) → seqWalk lv μ' = .ok ((ls.map litD).map .d, g) μ' ∧ guardOk g μ' := by
  rcases h with rfl | ⟨r, rfl, h⟩
  · exact ⟨[], fun _ _ => ⟨rfl, trivial⟩⟩
  · refine ⟨[(r, .lst ((ls.map litD).map .d))], fun μ' hm => ?_⟩
    have := hm r (List.getElem?_eq_some_iff.mp h).1
    rw [h] at this
    exact ⟨by rw [seqWalk_ref, this], this, trivial⟩
theorem LV.snap {lv : Val} {ls : Lits} (h : LV lv μ ls) : snap μ 8 lv = some (.lst (ls.map litD)) := by
  rcases h with rfl | ⟨r, rfl, h⟩
  · rfl
  · exact snap_lst h 7
end
end Mp
namespace Mp
theorem rep_vals (n : Nat) : List.replicate n (Val.d (.int 0)) = (vals n bf0.val).map .d := by
  unfold vals
  rw [List.map_map]
  show _ = (List.range n).map (fun _ => Val.d (.int 0))
  rw [List.map_const', List.length_range]
theorem rep_css (n : Nat) : List.replicate n (Val.d .non) = (css n bf0.cs).map .d := by
  unfold css
  rw [List.map_map]
  show _ = (List.range n).map (fun _ => Val.d .non)
  rw [List.map_const', List.length_range]
end Mp
namespace Mp
theorem cmp_isLow (o : Option Nat) (μ : Heap) : cmpop .is (.d (lowD o)) (.d .non) μ = some o.isNone := by cases o <;> rfl
theorem bf_frz {n : Nat} {μ : Heap} {val : Nat → Int} {cs : Nat → Option (Nat × Nat × Int)} : ∃ ex, freeze 8 (.ref (μ.length + 1)) (bfH μ n val cs) = some (.lst (css n cs), μ ++ ex) := by
  refine ⟨[.lst ((vals n val).map .d), .frz (.lst (css n cs))], ?_⟩
  rw [freeze_lst bfH_c 7]
  congr 2
  unfold bfH
  have := set_last (μ ++ [Cell.lst ((vals n val).map .d)]) (.lst ((css n cs).map .d)) (.frz (.lst (css n cs)))
  rw [List.length_append] at this
  rw [show (μ.length + 1) = μ.length + [Cell.lst ((vals n val).map .d)].length from rfl, this, List.append_assoc]
  rfl
end Mp
end
section
set_option linter.all false
set_option autoImplicit false
namespace Mp
/-! ### three points: short ways, solutions in a box -/
def D2 (ls : Lits) (a j : Nat) (v : Int) : Prop := (a = j ∧ 0 ≤ v) ∨ (∃ c, (a, j, c) ∈ ls ∧ c ≤ v) ∨ ∃ k c1 c2, (a, k, c1) ∈ ls ∧ (k, j, c2) ∈ ls ∧ c1 + c2 ≤ v
theorem d2_of {n : Nat} {ls : Lits} (hn : n ≤ 3) (R : InR n ls) (N : ∀ a v, a < n → Wk ls a a v → 0 ≤ v) {a j : Nat} {v : Int} (h : Wk ls a j v) (hj : j < n) : a < n → D2 ls a j v := by
  induction h with
  | nil a => intro _; exact .inl ⟨rfl, Int.le_refl 0⟩
  | @cons a b j c v m h ih =>
    intro ha
    have hb := (R _ m).2
    simp only at hb
    rcases ih hj hb with ⟨rfl, h1⟩ | ⟨c1, m1, h1⟩ | ⟨k, c1, c2, m1, m2, h1⟩
    · exact .inr (.inl ⟨c, m, by omega⟩)
    · exact .inr (.inr ⟨b, c, c1, m, m1, by omega⟩)
    · have hk := (R _ m1).2
      simp only at hk
      have two : ∀ {x y c d}, (x, y, c) ∈ ls → (y, x, d) ∈ ls → x < n → 0 ≤ c + d := fun m m' hx => N _ _ hx ((Wk.one m).app (Wk.one m'))
      have one : ∀ {x c}, (x, x, c) ∈ ls → x < n → 0 ≤ c := fun m hx => N _ _ hx (Wk.one m)
      have : a = b ∨ a = k ∨ a = j ∨ b = k ∨ b = j ∨ k = j := by omega
      rcases this with rfl | rfl | rfl | rfl | rfl | rfl
      · have := one m ha
        exact .inr (.inr ⟨k, c1, c2, m1, m2, by omega⟩)
      · have := two m m1 ha
        exact .inr (.inl ⟨c2, m2, by omega⟩)
      · have := N _ _ ha ((Wk.one m).app ((Wk.one m1).app (Wk.one m2)))
        exact .inl ⟨rfl, by omega⟩
      · have := one m1 hb
        exact .inr (.inr ⟨b, c, c2, m, m2, by omega⟩)
      · have := two m1 m2 hb
        exact .inr (.inl ⟨c, m, by omega⟩)
      · have := one m2 hk
        exact .inr (.inr ⟨b, c, c1, m, m1, by omega⟩)
section
variable {n : Nat} {ls : Lits} {M : Mx}
theorem Best.short (B : Best n ls M) (hn : n ≤ 3) (R : InR n ls) {a j : Nat} {d : Int} (ha : a < n) (hj : j < n) (h : M a j = some d) : D2 ls a j d := by
  obtain ⟨v, hv, w⟩ := B.snd a j ha hj d ⟨d, h, Int.le_refl d⟩
  rcases d2_of hn R (fun a v ha k => B.noneg R k ha) w hj ha with ⟨rfl, h1⟩ | ⟨c1, m1, h1⟩ | ⟨k, c1, c2, m1, m2, h1⟩
  · exact .inl ⟨rfl, by omega⟩
  · exact .inr (.inl ⟨c1, m1, by omega⟩)
  · exact .inr (.inr ⟨k, c1, c2, m1, m2, by omega⟩)
theorem Best.lower (B : Best n ls M) (hn : n ≤ 3) (R : InR n ls) (C : ∀ p ∈ ls, -3 ≤ p.2.2) {a j : Nat} {d : Int} (ha : a < n) (hj : j < n) (h : M a j = some d) : -6 ≤ d := by
  rcases B.short hn R ha hj h with ⟨rfl, h1⟩ | ⟨c1, m1, h1⟩ | ⟨k, c1, c2, m1, m2, h1⟩
  · omega
  · have := C _ m1; simp only at this; omega
  · have := C _ m1; have := C _ m2; simp only at *; omega
theorem Best.upper (B : Best n ls M) (hn : n ≤ 3) (R : InR n ls) (C : ∀ p ∈ ls, p.2.2 ≤ 3) {a j : Nat} {d : Int} (ha : a < n) (hj : j < n) (h : M a j = some d) : d ≤ 6 := by
  have go : ∀ v, U M a j v → d ≤ v := fun v ⟨u, e, hu⟩ => by rw [h] at e; cases e; exact hu
  rcases B.short hn R ha hj h with ⟨rfl, h1⟩ | ⟨c1, m1, h1⟩ | ⟨k, c1, c2, m1, m2, h1⟩
  · have := go 0 ((B.dg a ha 0).mpr (Int.le_refl 0)); omega
  · have := go _ (B.lt _ m1)
    have := C _ m1; simp only at *; omega
  · have := go _ (B.tri k (R _ m1).2 a j ha hj c1 c2 (B.lt _ m1) (B.lt _ m2))
    have := C _ m1; have := C _ m2; simp only at *; omega
/-- with a literal more between every two points -/
theorem Best.more (hn : n ≤ 3) : ∀ (ps : List (Nat × Nat)) {ls : Lits} {M : Mx}, Best n ls M → InR n ls → (∀ p ∈ ls, -3 ≤ p.2.2) → (∀ p ∈ ps, p.1 < n ∧ p.2 < n) → ∃ M', Best n (ls ++ ps.map fun p => (p.1, p.2, 9)) M'
  | [], ls, M, B, R, C, P => ⟨M, by rw [List.map_nil, List.append_nil]; exact B⟩
  | p :: ps, ls, M, B, R, C, P => by
    obtain ⟨h1, h2⟩ := P p List.mem_cons_self
    have B1 := B.tight h1 h2 (c := 9) fun u hu => by have := B.lower hn R C h2 h1 hu; omega
    obtain ⟨M', B2⟩ := Best.more hn ps B1 (fun q hq => by
      rcases List.mem_append.mp hq with k | k
      · exact R q k
      · rw [List.mem_singleton] at k; subst k; exact ⟨h1, h2⟩) (fun q hq => by
      rcases List.mem_append.mp hq with k | k
      · exact C q k
      · rw [List.mem_singleton] at k; subst k; simp only; omega) fun q hq => P q (List.mem_cons_of_mem _ hq)
    refine ⟨M', ?_⟩
    rw [List.map_cons]
    rw [List.append_assoc] at B2
    exact B2
/-- a bound is reached within the box -/
theorem Best.reach (B : Best n ls M) (h0 : 0 < n) (hn : n ≤ 3) (R : InR n ls) (C : ∀ p ∈ ls, -3 ≤ p.2.2 ∧ p.2.2 ≤ 3) {a b : Nat} {d : Int} (ha : a < n) (hb : b < n) (h : M a b = some d) : ∃ v : Nat → Int, v 0 = 0 ∧ (∀ i, i < n → -18 ≤ v i ∧ v i ≤ 18) ∧ Feas ls v ∧ v a - v b = d := by
  have pm : ∀ i j, i < n → j < n → (i, j) ∈ (List.range n).flatMap fun i => (List.range n).map fun j => (i, j) := fun i j hi hj => List.mem_flatMap.mpr ⟨i, List.mem_range.mpr hi, List.mem_map.mpr ⟨j, List.mem_range.mpr hj, rfl⟩⟩
  have pn : ∀ p ∈ (List.range n).flatMap (fun i => (List.range n).map fun j => (i, j)), p.1 < n ∧ p.2 < n := fun p hp => by
    obtain ⟨i, hi, hp⟩ := List.mem_flatMap.mp hp
    obtain ⟨j, hj, rfl⟩ := List.mem_map.mp hp
    exact ⟨List.mem_range.mp hi, List.mem_range.mp hj⟩
  generalize (List.range n).flatMap (fun i => (List.range n).map fun j => (i, j)) = ps at pm pn
  obtain ⟨M', B'⟩ := Best.more hn ps B R (fun p hp => (C p hp).1) pn
  have sub : ∀ p ∈ ls, p ∈ ls ++ ps.map fun p => (p.1, p.2, (9 : Int)) := fun p hp => List.mem_append_left _ hp
  have mem : ∀ p ∈ ls ++ ps.map (fun p => (p.1, p.2, (9 : Int))), p ∈ ls ∨ (p.1 < n ∧ p.2.1 < n ∧ p.2.2 = 9) := fun p hp => by
    rcases List.mem_append.mp hp with k | k
    · exact .inl k
    · obtain ⟨q, hq, rfl⟩ := List.mem_map.mp k
      exact .inr ⟨(pn q hq).1, (pn q hq).2, rfl⟩
  have R' : InR n (ls ++ ps.map fun p => (p.1, p.2, (9 : Int))) := fun p hp => by
    rcases mem p hp with k | ⟨k1, k2, _⟩
    · exact R p k
    · exact ⟨k1, k2⟩
  have C' : ∀ p ∈ ls ++ ps.map (fun p => (p.1, p.2, (9 : Int))), -3 ≤ p.2.2 := fun p hp => by
    rcases mem p hp with k | ⟨_, _, k⟩
    · exact (C p k).1
    · omega
  have all : ∀ i j, i < n → j < n → ∃ u, M' i j = some u ∧ -6 ≤ u ∧ u ≤ 9 := fun i j hi hj => by
    obtain ⟨u, e, hu⟩ := B'.lt (i, j, 9) (List.mem_append_right _ (List.mem_map.mpr ⟨(i, j), pm i j hi hj, rfl⟩))
    exact ⟨u, e, B'.lower hn R' C' hi hj e, hu⟩
  have same : M' a b = some d := by
    obtain ⟨u, e, _, _⟩ := all a b ha hb
    have h1 : u ≤ d := by
      obtain ⟨v, hv, w⟩ := B.snd a b ha hb d ⟨d, h, Int.le_refl d⟩
      obtain ⟨u', e', hu'⟩ := B'.full R' (w.mono sub) hb ha
      rw [e] at e'; cases e'; omega
    have h2 : d ≤ u := by
      have hd := B.upper hn R (fun p hp => (C p hp).2) ha hb h
      have go : ∀ v, U M a b v → d ≤ v := fun v ⟨u, e, hu⟩ => by rw [h] at e; cases e; exact hu
      rcases B'.short hn R' ha hb e with ⟨rfl, h1⟩ | ⟨c1, m1, h1⟩ | ⟨k, c1, c2, m1, m2, h1⟩
      · have := go 0 ((B.dg a ha 0).mpr (Int.le_refl 0)); omega
      · rcases mem _ m1 with k | ⟨_, _, k⟩
        · have := go _ (B.lt _ k); simp only at this; omega
        · simp only at k; omega
      · have q1 := C' _ m1
        have q2 := C' _ m2
        simp only at q1 q2
        rcases mem _ m1 with k1 | ⟨_, _, k1⟩ <;> rcases mem _ m2 with k2 | ⟨_, _, k2⟩
        · have := go _ (B.tri k (R _ k1).2 a b ha hb c1 c2 (B.lt _ k1) (B.lt _ k2)); omega
        · simp only at k2; omega
        · simp only at k1; omega
        · simp only at k1; omega
    rw [e]; congr 1; omega
  refine ⟨fun i => (M' i b).getD 0 - (M' 0 b).getD 0, by simp only; omega, fun i hi => ?_, fun p hp => ?_, ?_⟩
  · obtain ⟨u, e, h1, h2⟩ := all i b hi hb
    obtain ⟨u0, e0, h3, h4⟩ := all 0 b h0 hb
    simp only [e, e0, Option.getD_some]
    omega
  · obtain ⟨k1, k2⟩ := R p hp
    obtain ⟨u, e, _, _⟩ := all p.2.1 b k2 hb
    obtain ⟨u', e', hu⟩ := B'.tri p.2.1 k2 p.1 b k1 hb p.2.2 u (B'.lt p (sub p hp)) ⟨u, e, Int.le_refl u⟩
    simp only [e, e', Option.getD_some]
    omega
  · obtain ⟨u, e, hu⟩ := (B'.dg b hb 0).mpr (Int.le_refl 0)
    have : 0 ≤ u := (B'.dg b hb u).mp ⟨u, e, Int.le_refl u⟩
    simp only [same, e, Option.getD_some]
    omega
/-- values that keep the literals stay within the bounds -/
theorem Best.within (B : Best n ls M) {v : Nat → Int} (F : Feas ls v) {a b : Nat} {d : Int} (ha : a < n) (hb : b < n) (h : M a b = some d) : v a - v b ≤ d := by
  obtain ⟨w, hw, k⟩ := B.snd a b ha hb d ⟨d, h, Int.le_refl d⟩
  have := F.walk k
  omega
end
end Mp
namespace Mp
theorem foldMax (l : List Int) : ∀ a, a ≤ l.foldl (fun m x => if x > m then x else m) a ∧ (∀ x ∈ l, x ≤ l.foldl (fun m x => if x > m then x else m) a) ∧ (l.foldl (fun m x => if x > m then x else m) a = a ∨ l.foldl (fun m x => if x > m then x else m) a ∈ l) := by
  induction l with
  | nil => intro a; exact ⟨Int.le_refl a, (fun _ h => nomatch h), .inl rfl⟩
  | cons b r ih =>
    intro a
    rw [List.foldl_cons]
    obtain ⟨h1, h2, h3⟩ := ih (if b > a then b else a)
    have h4 : a ≤ (if b > a then b else a) ∧ b ≤ (if b > a then b else a) := by split <;> omega
    refine ⟨by omega, fun x hx => ?_, ?_⟩
    · rcases List.mem_cons.mp hx with rfl | k
      · omega
      · exact h2 x k
    · rcases h3 with k | k
      · rw [k]
        split
        · exact .inr List.mem_cons_self
        · exact .inl rfl
      · exact .inr (List.mem_cons_of_mem _ k)
theorem maxL_sp {l : List Int} (h : l ≠ []) : ∃ m, maxL l = some m ∧ m ∈ l ∧ ∀ x ∈ l, x ≤ m := by
  cases l with
  | nil => exact absurd rfl h
  | cons a r =>
    obtain ⟨h1, h2, h3⟩ := foldMax r a
    refine ⟨_, rfl, ?_, fun x hx => ?_⟩
    · rcases h3 with k | k
      · rw [k]; exact List.mem_cons_self
      · exact List.mem_cons_of_mem _ k
    · rcases List.mem_cons.mp hx with rfl | k
      · exact h1
      · exact h2 x k
theorem foldMin (l : List Int) : ∀ a, l.foldl (fun m x => if x < m then x else m) a ≤ a ∧ (∀ x ∈ l, l.foldl (fun m x => if x < m then x else m) a ≤ x) ∧ (l.foldl (fun m x => if x < m then x else m) a = a ∨ l.foldl (fun m x => if x < m then x else m) a ∈ l) := by
  induction l with
  | nil => intro a; exact ⟨Int.le_refl a, (fun _ h => nomatch h), .inl rfl⟩
  | cons b r ih =>
    intro a
    rw [List.foldl_cons]
    obtain ⟨h1, h2, h3⟩ := ih (if b < a then b else a)
    have h4 : (if b < a then b else a) ≤ a ∧ (if b < a then b else a) ≤ b := by split <;> omega
    refine ⟨by omega, fun x hx => ?_, ?_⟩
    · rcases List.mem_cons.mp hx with rfl | k
      · omega
      · exact h2 x k
    · rcases h3 with k | k
      · rw [k]
        split
        · exact .inr List.mem_cons_self
        · exact .inl rfl
      · exact .inr (List.mem_cons_of_mem _ k)
theorem minL_sp {l : List Int} (h : l ≠ []) : ∃ m, minL l = some m ∧ m ∈ l ∧ ∀ x ∈ l, m ≤ x := by
  cases l with
  | nil => exact absurd rfl h
  | cons a r =>
    obtain ⟨h1, h2, h3⟩ := foldMin r a
    refine ⟨_, rfl, ?_, fun x hx => ?_⟩
    · rcases h3 with k | k
      · rw [k]; exact List.mem_cons_self
      · exact List.mem_cons_of_mem _ k
    · rcases List.mem_cons.mp hx with rfl | k
      · exact h1
      · exact h2 x k
/-- three values, the first 0 -/
def v3 (x y : Int) : Nat → Int := fun i => if i = 0 then 0 else if i = 1 then x else y
def triD (p : Int × Int) : D := .tup [.int 0, .int p.1, .int p.2]
theorem at_v3 {x y : Int} {a : Nat} (h : a < 3) : atI [D.int 0, D.int x, D.int y] (a : Int) = some (.int (v3 x y a)) := by
  have : a = 0 ∨ a = 1 ∨ a = 2 := by omega
  rcases this with rfl | rfl | rfl <;> rfl
end Mp
namespace Mp
theorem feas_v3 {n : Nat} {ls : Lits} {v : Nat → Int} (hn : n = 2 ∨ n = 3) (R : InR n ls) (v0 : v 0 = 0) (F : Feas ls v) : (∀ i, i < n → v3 (v 1) (if n = 2 then 0 else v 2) i = v i) ∧ Feas ls (v3 (v 1) (if n = 2 then 0 else v 2)) := by
  have e : ∀ i, i < n → v3 (v 1) (if n = 2 then 0 else v 2) i = v i := fun i hi => by
    have : i = 0 ∨ i = 1 ∨ (i = 2 ∧ n = 3) := by omega
    unfold v3
    rcases this with rfl | rfl | ⟨rfl, rfl⟩
    · exact v0.symm
    · rfl
    · rfl
  refine ⟨e, fun p hp => ?_⟩
  rw [e _ (R p hp).1, e _ (R p hp).2]
  exact F p hp
theorem ints_mapf {α : Type} (f : α → Int) (xs : List α) : intL (xs.map fun a => .int (f a)) = some (xs.map f) := by
  have := ints_map (xs.map f)
  rwa [List.map_map] at this
theorem collect_D {α β : Type} {g : List (Nat × Cell)} {step : Val → Heap → Res (List β)} {f : α → D} {xs : List α} {μ : Heap} (k : α → β) (hg : guardOk g μ) (h : ∀ x ∈ xs, step (.d (f x)) μ = .ok [k x] μ) : collect g step ((xs.map f).map .d) μ = .ok (xs.map k) μ := by
  rw [List.map_map]
  exact collect_map (Val.d ∘ f) k hg xs h
end Mp
namespace Mp
theorem vals_at {n : Nat} {v : Nat → Int} {b : Nat} (h : b < n) : atI (vals n v) (b : Int) = some (.int (v b)) := atI_nat (vals_get h)
theorem lits_get {ls : Lits} {k : Nat} (h : k < ls.length) : (ls.map litD)[k]? = some (litD (ls.getD k (0, 0, 0))) := by
  rw [List.getElem?_map, List.getElem?_eq_getElem h, List.getD_eq_getElem?_getD, List.getElem?_eq_getElem h]; rfl
theorem lits_at {ls : Lits} {k : Nat} (h : k < ls.length) : atI (ls.map litD) (k : Int) = some (litD (ls.getD k (0, 0, 0))) := atI_nat (lits_get h)
theorem lits_before {ls : Lits} {k : Nat} (h : k < ls.length) : atI (ls.map litD) ((k : Int) - 1) = some (litD (ls.getD (if k = 0 then ls.length - 1 else k - 1) (0, 0, 0))) := by
  by_cases c : k = 0
  · subst c
    rw [if_pos rfl]
    unfold atI ixN
    rw [if_neg (by omega), if_pos (by rw [List.length_map]; omega), List.length_map]
    simp only
    rw [show (((0 : Nat) : Int) - 1 + (ls.length : Int)).toNat = ls.length - 1 by omega]
    exact lits_get (by omega)
  · rw [if_neg c, show ((k : Int) - 1) = ((k - 1 : Nat) : Int) by omega]
    exact lits_at (by omega)
theorem Ring.before {ls ring : Lits} (Q : Ring ls ring) {k : Nat} (h : k < ring.length) : (ring.getD (if k = 0 then ring.length - 1 else k - 1) (0, 0, 0)).2.1 = (ring.getD k (0, 0, 0)).1 := by
  by_cases c : k = 0
  · subst c
    rw [if_pos rfl, Q.nxt _ (by omega), show ring.length - 1 + 1 = ring.length by omega, Nat.mod_self]
  · rw [if_neg c, Q.nxt _ (by omega), show k - 1 + 1 = k by omega, Nat.mod_eq_of_lt h]
theorem bools_mapf {α : Type} (f : α → Bool) (xs : List α) : boolL (xs.map fun a => .bl (f a)) = some (xs.map f) := by
  have := bools_map (xs.map f)
  rwa [List.map_map] at this
theorem all_mapf {α : Type} {f : α → Bool} {xs : List α} (h : ∀ x ∈ xs, f x = true) : (xs.map f).all id = true := by
  rw [List.all_map]
  exact List.all_eq_true.mpr h
end Mp
namespace Mp
/-- the least of a row -/
theorem filter_row (n : Nat) (M : Mx) (i : Nat) : (List.range n).filter (fun j => (M i j).isSome) = (List.range n).filter (fun j => (M i j).isSome) := rfl
def someL (n : Nat) (M : Mx) (i : Nat) : List Int := (List.range n).filterMap (M i)
theorem someL_mem {n : Nat} {M : Mx} {i : Nat} {x : Int} : x ∈ someL n M i ↔ ∃ j, j < n ∧ M i j = some x := by
  unfold someL
  rw [List.mem_filterMap]
  constructor
  · rintro ⟨j, h1, h2⟩; exact ⟨j, List.mem_range.mp h1, h2⟩
  · rintro ⟨j, h1, h2⟩; exact ⟨j, List.mem_range.mpr h1, h2⟩
theorem collect_some {step : Val → Heap → Res (List Val)} {n : Nat} {M : Mx} {i : Nat} {μ : Heap} (h : ∀ j, j < n → step (.d (optD (M i j))) μ = .ok (if (M i j).isSome = true then [.d (optD (M i j))] else []) μ) : collect [] step ((rowD n M i).map .d) μ = .ok ((someL n M i).map fun x => .d (.int x)) μ := by
  unfold rowD
  rw [List.map_map, collect_run (g := []) (Val.d ∘ fun b => optD (M i b)) (fun j => if (M i j).isSome = true then [Val.d (optD (M i j))] else []) trivial (List.range n) fun j hj => h j (List.mem_range.mp hj)]
  congr 1
  unfold someL
  generalize List.range n = l
  induction l with
  | nil => rfl
  | cons a r ih =>
    rw [List.flatMap_cons, ih, List.filterMap_cons]
    cases e : M i a with
    | none => rfl
    | some x => rfl
/-- values out of the least of each row -/
theorem Best.low {n : Nat} {ls : Lits} {M : Mx} (B : Best n ls M) (R : InR n ls) : ∃ w : Nat → Int, (∀ i, i < n → minL (someL n M i) = some (w i)) ∧ Feas ls w := by
  have h : ∀ i, i < n → ∃ m, minL (someL n M i) = some m ∧ m ∈ someL n M i ∧ ∀ x ∈ someL n M i, m ≤ x := fun i hi => by
    obtain ⟨u, e, _⟩ := (B.dg i hi 0).mpr (Int.le_refl 0)
    exact minL_sp (List.ne_nil_of_mem (someL_mem.mpr ⟨i, hi, e⟩))
  refine ⟨fun i => (minL (someL n M i)).getD 0, fun i hi => ?_, fun p hp => ?_⟩
  · obtain ⟨m, e, _⟩ := h i hi
    simp only [e, Option.getD_some]
  · obtain ⟨ha, hb⟩ := R p hp
    obtain ⟨m1, e1, _, h1⟩ := h _ ha
    obtain ⟨m2, e2, h2, _⟩ := h _ hb
    simp only [e1, e2, Option.getD_some]
    obtain ⟨j, hj, e3⟩ := someL_mem.mp h2
    obtain ⟨u, e4, hu⟩ := B.tri _ hb _ j ha hj _ _ (B.lt p hp) ⟨m2, e3, Int.le_refl m2⟩
    have := h1 u (someL_mem.mpr ⟨j, hj, e4⟩)
    omega
theorem Feas.shift {ls : Lits} {w : Nat → Int} (F : Feas ls w) (c : Int) : Feas ls fun i => w i - c := fun p hp => by have := F p hp; simp only; omega
end Mp
namespace Mp
theorem len_grid (T : Tbl) (n : Nat) (M : Mx) (μ : Heap) : bltD T .len [.d (gridD n M)] μ = some (.int n) := by
  unfold gridD
  rw [len_lst, List.length_map, List.length_range]
end Mp
namespace Mp
theorem keep {μ ex : Heap} {i : Nat} {c : Cell} (h : μ[i]? = some c) : (μ ++ ex)[i]? = some c := by
  rw [List.getElem?_append_left (List.getElem?_eq_some_iff.mp h).1]; exact h
theorem Best.perm {n : Nat} {ls ls' : Lits} {M : Mx} (B : Best n ls M) (h : ∀ p, p ∈ ls ↔ p ∈ ls') : Best n ls' M :=
  ⟨fun a b ha hb w k => by obtain ⟨v, hv, q⟩ := B.snd a b ha hb w k; exact ⟨v, hv, q.mono fun p hp => (h p).mp hp⟩, B.tri, B.dg, fun p hp => B.lt p ((h p).mpr hp)⟩
theorem gridD_congr {n : Nat} {M M' : Mx} (h : ∀ a b, a < n → b < n → M a b = M' a b) : gridD n M = gridD n M' := by
  unfold gridD rowD
  congr 1
  refine List.map_congr_left fun a ha => ?_
  congr 1
  refine List.map_congr_left fun b hb => ?_
  rw [h a b (List.mem_range.mp ha) (List.mem_range.mp hb)]
theorem plain_optDs (l : List (Option Int)) : plains (l.map optD) = true ∧ depths (l.map optD) = 0 ∧ eqvs (l.map optD) (l.map optD) = true := by
  induction l with
  | nil => exact ⟨rfl, rfl, rfl⟩
  | cons o r ih =>
    obtain ⟨h1, h2, h3⟩ := ih
    refine ⟨?_, ?_, ?_⟩
    · show (plain (optD o) && plains (r.map optD)) = true
      rw [h1]; cases o <;> rfl
    · show Nat.max (depth (optD o)) (depths (r.map optD)) = 0
      rw [h2]; cases o <;> rfl
    · show (eqv (optD o) (optD o) && eqvs (r.map optD) (r.map optD)) = true
      rw [h3, eqv_optD]; rfl
theorem grid_shp (n : Nat) (M : Mx) : shp (gridD n M) = true ∧ eqv (gridD n M) (gridD n M) = true := by
  have row : ∀ a, plain (.lst (rowD n M a)) = true ∧ depth (.lst (rowD n M a)) = 1 ∧ eqv (.lst (rowD n M a)) (.lst (rowD n M a)) = true := fun a => by
    obtain ⟨h1, h2, h3⟩ := plain_optDs ((List.range n).map (M a))
    rw [List.map_map] at h1 h2 h3
    refine ⟨h1, ?_, h3⟩
    show depths (rowD n M a) + 1 = 1
    rw [show depths (rowD n M a) = 0 from h2]
  have all : ∀ l : List Nat, plains (l.map fun a => .lst (rowD n M a)) = true ∧ depths (l.map fun a => .lst (rowD n M a)) ≤ 1 ∧ eqvs (l.map fun a => .lst (rowD n M a)) (l.map fun a => .lst (rowD n M a)) = true := fun l => by
    induction l with
    | nil => exact ⟨rfl, Nat.zero_le _, rfl⟩
    | cons a r ih =>
      obtain ⟨h1, h2, h3⟩ := ih
      obtain ⟨g1, g2, g3⟩ := row a
      refine ⟨?_, ?_, ?_⟩
      · show (plain (.lst (rowD n M a)) && plains (r.map fun a => .lst (rowD n M a))) = true
        rw [g1, h1]; rfl
      · show Nat.max (depth (.lst (rowD n M a))) (depths (r.map fun a => .lst (rowD n M a))) ≤ 1
        rw [g2]; exact Nat.max_le.mpr ⟨Nat.le_refl 1, h2⟩
      · show (eqv (.lst (rowD n M a)) (.lst (rowD n M a)) && eqvs (r.map fun a => .lst (rowD n M a)) (r.map fun a => .lst (rowD n M a))) = true
        rw [g3, h3]; rfl
  obtain ⟨h1, h2, h3⟩ := all (List.range n)
  refine ⟨?_, h3⟩
  unfold shp
  rw [show plain (gridD n M) = _ from h1, show depth (gridD n M) = depths ((List.range n).map fun a => D.lst (rowD n M a)) + 1 from rfl]
  exact decide_eq_true (by omega)
theorem cmp_ne_grid (n : Nat) (M : Mx) (μ : Heap) : cmpop .ne (.d (gridD n M)) (.d (gridD n M)) μ = some false := cmp_ne_of (snap_d _ _ _) (snap_d _ _ _) (grid_shp n M).1 (grid_shp n M).2
end Mp
namespace Mp
theorem rev_l (ls : Lits) : ((ls.map litD).map Val.d).reverse = (ls.reverse.map litD).map .d := by rw [List.map_reverse, List.map_reverse]
end Mp
namespace Mp
def stD (n : Nat) (ls : Lits) (M : Mx) : D := .tup [.lst (ls.map litD), gridD n M]
theorem st_shp (n : Nat) (ls : Lits) (M : Mx) : shp (stD n ls M) = true ∧ eqv (stD n ls M) (stD n ls M) = true := by
  have h1 := shp_lits ls
  obtain ⟨h2, h3⟩ := grid_shp n M
  unfold shp at h1 h2
  rw [Bool.and_eq_true, decide_eq_true_eq] at h1 h2
  have h4 : eqv (.lst (ls.map litD)) (.lst (ls.map litD)) = true := eqv_lits ls
  have dl : depth (.lst (ls.map litD)) ≤ 3 := by
    show depths (ls.map litD) + 1 ≤ 3
    have : depths (ls.map litD) ≤ 1 := by
      clear h1 h4
      induction ls with
      | nil => exact Nat.zero_le _
      | cons p r ih => exact Nat.max_le.mpr ⟨Nat.le_refl 1, ih⟩
    omega
  have dg : depth (gridD n M) ≤ 3 := by
    show depths ((List.range n).map fun a => D.lst (rowD n M a)) + 1 ≤ 3
    have row : ∀ a, depth (.lst (rowD n M a)) = 1 := fun a => by
      obtain ⟨_, h2, _⟩ := plain_optDs ((List.range n).map (M a))
      rw [List.map_map] at h2
      show depths (rowD n M a) + 1 = 1
      rw [show depths (rowD n M a) = 0 from h2]
    have all : ∀ l : List Nat, depths (l.map fun a => D.lst (rowD n M a)) ≤ 1 := fun l => by
      induction l with
      | nil => exact Nat.zero_le _
      | cons a r ih =>
        show Nat.max (depth (.lst (rowD n M a))) (depths (r.map fun a => .lst (rowD n M a))) ≤ 1
        rw [row]; exact Nat.max_le.mpr ⟨Nat.le_refl 1, ih⟩
    have := all (List.range n)
    omega
  refine ⟨?_, ?_⟩
  · unfold shp
    rw [Bool.and_eq_true, decide_eq_true_eq]
    refine ⟨?_, ?_⟩
    · show (plain (.lst (ls.map litD)) && (plain (gridD n M) && true)) = true
      rw [h1.1, h2.1]; rfl
    · show Nat.max (depth (.lst (ls.map litD))) (Nat.max (depth (gridD n M)) 0) + 1 ≤ 62
      exact Nat.succ_le_succ (Nat.le_trans (Nat.max_le.mpr ⟨dl, Nat.max_le.mpr ⟨dg, Nat.zero_le 3⟩⟩) (by decide))
  · show (eqv (.lst (ls.map litD)) (.lst (ls.map litD)) && (eqv (gridD n M) (gridD n M) && true)) = true
    rw [h4, h3]; rfl
theorem cmp_ne_st (n : Nat) (ls : Lits) (M : Mx) (μ : Heap) : cmpop .ne (.d (stD n ls M)) (.d (stD n ls M)) μ = some false := cmp_ne_of (snap_d _ _ _) (snap_d _ _ _) (st_shp n ls M).1 (st_shp n ls M).2
theorem cmp_eq_st (n : Nat) (ls : Lits) (M : Mx) (μ : Heap) : cmpop .eq (.d (stD n ls M)) (.d (stD n ls M)) μ = some true := cmp_eq_of (snap_d _ _ _) (snap_d _ _ _) (st_shp n ls M).1 (st_shp n ls M).2
end Mp
namespace Mp
theorem bme_insert (μ : Heap) (a : Nat) (k : Int) (v : Val) : bmeV .insert (.ref a) [.d (.int k), v] μ = match μ[a]? with
    | some (.lst xs) => need (small (xs.length + 1) && decide (0 ≤ k ∧ k < 2 ^ 62) && simple v) (.ok (.d .non) (μ.set a (.lst (xs.take k.toNat ++ v :: xs.drop k.toNat))))
    | _ => .bad := rfl
theorem cmp_ne_lits2 {ls : Lits} {μ : Heap} {i : Nat} (h : μ[i]? = some (.lst ((ls.map litD).map .d))) : cmpop .ne (.ref i) (.d (.lst (ls.map litD))) μ = some false :=
  cmp_ne_of (snap_lst h 7) (snap_d _ _ _) (shp_lits ls) (eqv_lits ls)
theorem eqv_lit (p : Nat × Nat × Int) : eqv (litD p) (litD p) = true := by
  have := eqv_lits [p]
  have h : (eqv (litD p) (litD p) && eqvs [] []) = true := this
  rw [Bool.and_eq_true] at h
  exact h.1
theorem plains_lits (ls : Lits) : plains (ls.map litD) = true := by
  induction ls with
  | nil => rfl
  | cons p r ih => rw [List.map_cons, plains, ih]; rfl
theorem nin_lits {ls : Lits} {p : Nat × Nat × Int} (h : p ∈ ls) (μ : Heap) : cmpop .nin (.d (litD p)) (.d (.lst (ls.map litD))) μ = some false := by
  have e : inop (.d (litD p)) (.d (.lst (ls.map litD))) μ = some true := by
    show (match some ((ls.map litD).map Val.d) with
      | some vs => match mapO (snap μ 0) vs with
        | some ds => if shp (litD p) && plains ds then some (ds.any fun d => eqv d (litD p)) else none
        | none => none
      | none => none) = _
    simp only [snaps_d]
    have hs : shp (litD p) = true := rfl
    rw [hs, plains_lits]
    simp only [Bool.and_self, if_true]
    congr 1
    exact List.any_eq_true.mpr ⟨_, List.mem_map.mpr ⟨p, h, rfl⟩, eqv_lit p⟩
  show (match inop (.d (litD p)) (.d (.lst (ls.map litD))) μ with
    | some b => some (!b)
    | none => none) = _
  rw [e]
  rfl
end Mp
end
section
set_option linter.all false
set_option maxRecDepth 100000
namespace Mp
open PySem (Str)
/-! ### tables of texts -/
def leT (a b : Str) : Bool := !decide (b.cps.toList < a.cps.toList)
theorem leT_le {a b : Str} : leT a b = true ↔ a.cps.toList ≤ b.cps.toList := by
  unfold leT
  rw [Bool.not_eq_true', decide_eq_false_iff_not, List.not_lt]
theorem leT_trans (a b c : Str) (h1 : leT a b = true) (h2 : leT b c = true) : leT a c = true := leT_le.mpr (List.le_trans (leT_le.mp h1) (leT_le.mp h2))
theorem leT_total (a b : Str) : (leT a b || leT b a) = true := by
  rw [Bool.or_eq_true, leT_le, leT_le]; exact List.le_total _ _
theorem str_ext {a b : Str} (h : a.cps.toList = b.cps.toList) : a = b := by
  cases a; cases b
  simp only [Str.mk.injEq]
  exact Array.toList_inj.mp h
theorem leT_anti (a b : Str) (h1 : leT a b = true) (h2 : leT b a = true) : a = b := str_ext (List.le_antisymm (leT_le.mp h1) (leT_le.mp h2))
def sortT (ns : List Str) : List Str := ns.mergeSort leT
theorem sortT_perm (ns : List Str) : (sortT ns).Perm ns := List.mergeSort_perm ns leT
theorem sortT_pw (ns : List Str) : (sortT ns).Pairwise fun a b => leT a b = true := List.pairwise_mergeSort leT_trans leT_total ns
theorem sortT_len (ns : List Str) : (sortT ns).length = ns.length := (sortT_perm ns).length_eq
theorem mem_sortT {ns : List Str} {x : Str} : x ∈ sortT ns ↔ x ∈ ns := (sortT_perm ns).mem_iff
theorem sortT_uniq {l ns : List Str} (h : l.Perm ns) (s : l.Pairwise fun a b => leT a b = true) : sortT ns = l := List.Perm.eq_of_pairwise (fun a b _ _ => leT_anti a b) (sortT_pw ns) s ((sortT_perm ns).trans h.symm)
theorem sortT_nil : sortT [] = [] := List.mergeSort_nil
theorem sortD_nil : sortD ltB [] = [] := rfl
theorem sortT_filter (P : Str → Bool) (ns : List Str) : sortT (ns.filter P) = (sortT ns).filter P := sortT_uniq ((sortT_perm ns).filter P) ((sortT_pw ns).sublist List.filter_sublist)
theorem sortT_idem (ns : List Str) : sortT (sortT ns) = sortT ns := sortT_uniq (List.Perm.refl _) (sortT_pw ns)
theorem sortT_nodup {ns : List Str} (h : ns.Nodup) : (sortT ns).Nodup := (sortT_perm ns).symm.nodup h
/-- sorting by an order that a map keeps -/
theorem sort_map {α β : Type} {r : α → α → Bool} {s : β → β → Bool} (f : α → β) {l : List α} (h : ∀ a ∈ l, ∀ b ∈ l, r a b = s (f a) (f b)) : (l.map f).mergeSort s = (l.mergeSort r).map f := by
  exact (List.map_mergeSort (r := r) (s := s) (f := f) (l := l) h).symm
theorem sort_strsD (ns : List Str) : (ns.map D.str).mergeSort leB = (sortT ns).map D.str := sort_map (r := leT) (s := leB) D.str fun a _ b _ => rfl
/-- a pair of a name and what g tells -/
def prG (g : Str → D) (n : Str) : D := .tup [.str n, g n]
theorem ltB_pr {g : Str → D} {n m : Str} (h : eqv (g n) (g n) = true) : ltB (prG g m) (prG g n) = decide (m.cps.toList < n.cps.toList) := by
  show (if eqv (.str m) (.str n) = true then ltDs [g m] [g n] else ltD (.str m) (.str n)).getD false = _
  by_cases e : m = n
  · subst e
    have e1 : eqv (.str m) (.str m) = true := beq_self_eq_true m
    rw [if_pos e1]
    have : ltDs [g m] [g m] = some false := by
      show (if eqv (g m) (g m) = true then ltDs [] [] else ltD (g m) (g m)) = _
      rw [if_pos h]; rfl
    rw [this]
    have : ¬ m.cps.toList < m.cps.toList := List.lt_irrefl _
    rw [decide_eq_false this]; rfl
  · have e1 : ¬ eqv (.str m) (.str n) = true := fun z => e (eq_of_beq z)
    rw [if_neg e1]; rfl
theorem sort_prs {g : Str → D} {ns : List Str} (h : ∀ n ∈ ns, eqv (g n) (g n) = true) : (ns.map (prG g)).mergeSort leB = (sortT ns).map (prG g) :=
  sort_map (r := leT) (s := leB) (prG g) fun n hn m hm => by
    show leT n m = !ltB (prG g m) (prG g n)
    rw [ltB_pr (h n hn)]; rfl
theorem plains_map {α : Type} {f : α → D} : ∀ {l : List α}, (∀ x ∈ l, plain (f x) = true) → plains (l.map f) = true
  | [], _ => rfl
  | x :: l, h => by
    show (plain (f x) && plains (l.map f)) = true
    rw [h x List.mem_cons_self, plains_map fun y hy => h y (List.mem_cons_of_mem _ hy)]; rfl
theorem depths_le {α : Type} {f : α → D} {k : Nat} : ∀ {l : List α}, (∀ x ∈ l, depth (f x) ≤ k) → depths (l.map f) ≤ k
  | [], _ => Nat.zero_le _
  | x :: l, h => Nat.max_le.mpr ⟨h x List.mem_cons_self, depths_le fun y hy => h y (List.mem_cons_of_mem _ hy)⟩
/-- what g tells can stand in pairs that are sorted -/
structure Gd1 (g : Str → D) (ns : List Str) : Prop where
  eq : ∀ n ∈ ns, eqv (g n) (g n) = true
  pl : ∀ n ∈ ns, plain (g n) = true
  dp : ∀ n ∈ ns, depth (g n) ≤ 50
  al : ∀ n ∈ ns, ∀ m ∈ ns, alk (g n) (g m) = true
theorem Gd1.sub {g : Str → D} {ns ms : List Str} (h : Gd1 g ns) (s : ∀ n ∈ ms, n ∈ ns) : Gd1 g ms := ⟨fun n hn => h.eq n (s n hn), fun n hn => h.pl n (s n hn), fun n hn => h.dp n (s n hn), fun n hn m hm => h.al n (s n hn) m (s m hm)⟩
theorem sortOk_prs {g : Str → D} {ns : List Str} (h : Gd1 g ns) : sortOk (ns.map (prG g)) = true := by
  have dpr : ∀ n ∈ ns, depth (prG g n) ≤ 51 := fun n hn => by
    have := h.dp n hn
    show max (depth (.str n)) (max (depth (g n)) 0) + 1 ≤ 51
    have : depth (.str n) = 0 := rfl
    omega
  have ltS : ∀ n ∈ ns, ∀ m ∈ ns, (ltD (prG g n) (prG g m)).isSome = true := fun n hn m hm => by
    show (if eqv (.str n) (.str m) = true then ltDs [g n] [g m] else ltD (.str n) (.str m)).isSome = true
    by_cases e : n = m
    · subst e
      have e1 : eqv (.str n) (.str n) = true := beq_self_eq_true n
      rw [if_pos e1]
      show (if eqv (g n) (g n) = true then ltDs [] [] else ltD (g n) (g n)).isSome = true
      rw [if_pos (h.eq n hn)]; rfl
    · have e1 : ¬ eqv (.str n) (.str m) = true := fun z => e (eq_of_beq z)
      rw [if_neg e1]; rfl
  unfold sortOk cmpAll
  simp only [Bool.and_eq_true, List.all_eq_true, List.mem_map, forall_exists_index, and_imp, forall_apply_eq_imp_iff₂, decide_eq_true_eq]
  refine ⟨fun n hn => rfl, plains_map fun n hn => ?_, fun n hn m hm => ltS n hn m hm, fun n hn m hm => ?_, fun n hn => by have := dpr n hn; omega⟩
  · show (true && (plain (g n) && true)) = true
    rw [h.pl n hn]; rfl
  · show (true && (alk (g n) (g m) && true)) = true
    rw [h.al n hn m hm]; rfl
theorem intL_prs {g : Str → D} {ns : List Str} (h : ns ≠ []) : intL (ns.map (prG g)) = none := by
  cases ns with
  | nil => exact absurd rfl h
  | cons n r => rfl
theorem itemsD_lst (μ : Heap) (ds : List D) : itemsD μ (.d (.lst ds)) = some ds := by
  show mapO (snap μ 0) (ds.map .d) = _
  exact snaps_d μ 0 ds
theorem itemsD_tup (μ : Heap) (ds : List D) : itemsD μ (.d (.tup ds)) = some ds := by
  show mapO (snap μ 0) (ds.map .d) = _
  exact snaps_d μ 0 ds
theorem itemsD_cell {μ : Heap} {i : Nat} {ds : List D} (h : μ[i]? = some (.lst (ds.map .d))) : itemsD μ (.ref i) = some ds := by
  unfold itemsD items
  simp only [h]
  exact snaps_d μ 0 ds
theorem sorted_prs0 {g : Str → D} {ns : List Str} (h : Gd1 g ns) {v : Val} {μ : Heap} (hi : itemsD μ v = some (ns.map (prG g))) (hl : isL μ v = true) : bltL .sorted [v] μ = some (((sortT ns).map (prG g)).map .d) := by
  rw [sorted_of, hi]
  simp only [hl, Bool.true_and]
  by_cases e : ns = []
  · subst e
    rw [if_pos (show (intL (([] : List Str).map (prG g))).isSome = true from rfl), sortT_nil]
    rfl
  · rw [if_neg (by rw [intL_prs e]; decide), if_pos (sortOk_prs h), sort_prs h.eq]
theorem strL_map (ns : List Str) : strL (ns.map D.str) = some ns := by
  unfold strL
  rw [mapO_map _ D.str id fun a => rfl, List.map_id]
theorem intL_strs {ns : List Str} (h : ns ≠ []) : intL (ns.map D.str) = none := by
  cases ns with
  | nil => exact absurd rfl h
  | cons n r => rfl
theorem sortOk_strs {ns : List Str} (h : ns ≠ []) : sortOk (ns.map D.str) = false := by
  cases ns with
  | nil => exact absurd rfl h
  | cons n r => rfl
theorem sorted_strs0 {ns : List Str} (h64 : ns.length < 64) {v : Val} {μ : Heap} (hi : itemsD μ v = some (ns.map .str)) : bltL .sorted [v] μ = some (((sortT ns).map D.str).map .d) := by
  rw [sorted_of, hi]
  simp only [strL_map, List.length_map, decide_eq_true h64, Option.isSome_some, Bool.and_true]
  by_cases e : ns = []
  · subst e
    rw [sortT_nil]
    cases isL μ v
    · rw [if_neg (by simp), if_neg (by simp), if_neg (by simp), if_pos (show (!false) = true from rfl), List.map_nil, List.mergeSort_nil]
    · rw [if_pos rfl]; rfl
  · rw [intL_strs e, sortOk_strs e]
    cases hv : isL μ v
    · rw [if_neg (by simp), if_neg (by simp), if_neg (by simp), if_pos (by simp), sort_strsD]
    · rw [if_neg (by simp), if_neg (by simp), if_pos (by simp), sort_strsD]
/-! ### dicts of texts -/
/-- the dict that gives g n for each of the names -/
def tbG (g : Str → D) (ns : List Str) : List (D × D) := ns.map fun n => (.str n, g n)
theorem eqv_str (a b : Str) : eqv (.str a) (.str b) = (a == b) := rfl
theorem lookD_tb {α : Type} (f : Str → α) (x : Str) : ∀ ns : List Str, lookD (.str x) (ns.map fun n => (D.str n, f n)) = if x ∈ ns then some (f x) else none
  | [] => rfl
  | n :: ns => by
    show (if eqv (.str n) (.str x) = true then some (f n) else lookD (.str x) (ns.map _)) = _
    rw [eqv_str, lookD_tb f x ns]
    by_cases e : n = x
    · subst e
      rw [if_pos (beq_self_eq_true n), if_pos List.mem_cons_self]
    · rw [if_neg (fun z => e (eq_of_beq z))]
      by_cases hm : x ∈ ns
      · rw [if_pos hm, if_pos (List.mem_cons_of_mem _ hm)]
      · rw [if_neg hm, if_neg fun z => (List.mem_cons.mp z).elim (fun q => e q.symm) hm]
theorem putD_new {α : Type} (f : Str → α) (x : Str) (v : α) : ∀ {ns : List Str}, x ∉ ns → putD (.str x) v (ns.map fun n => (D.str n, f n)) = ns.map (fun n => (D.str n, f n)) ++ [(.str x, v)]
  | [], _ => rfl
  | n :: ns, h => by
    rw [List.mem_cons, not_or] at h
    show (if eqv (.str n) (.str x) = true then _ else _ :: putD (.str x) v (ns.map _)) = _
    rw [eqv_str, if_neg (fun z => h.1 (eq_of_beq z).symm), putD_new f x v h.2]; rfl
theorem putD_old {α : Type} (f : Str → α) (x : Str) (v : α) : ∀ {ns : List Str}, ns.Nodup → x ∈ ns → putD (.str x) v (ns.map fun n => (D.str n, f n)) = ns.map fun n => (D.str n, if n = x then v else f n)
  | [], _, h => nomatch h
  | n :: ns, nd, h => by
    rw [List.nodup_cons] at nd
    show (if eqv (.str n) (.str x) = true then (D.str n, v) :: ns.map _ else _ :: putD (.str x) v (ns.map _)) = _
    rw [eqv_str]
    by_cases e : n = x
    · subst e
      rw [if_pos (beq_self_eq_true n), List.map_cons, if_pos rfl]
      congr 1
      exact List.map_congr_left fun m hm => by rw [if_neg (fun z : m = n => nd.1 (z ▸ hm))]
    · rw [if_neg (fun z => e (eq_of_beq z)), List.map_cons, if_neg e, putD_old f x v nd.2 ((List.mem_cons.mp h).resolve_left fun q => e q.symm)]
theorem fold_new {α : Type} (f : Str → α) : ∀ (ms ns : List Str), (ns ++ ms).Nodup → (ms.map fun n => (D.str n, f n)).foldl (fun acc p => putD p.1 p.2 acc) (ns.map fun n => (D.str n, f n)) = (ns ++ ms).map fun n => (D.str n, f n)
  | [], ns, _ => by rw [List.append_nil]; rfl
  | m :: ms, ns, h => by
    have hm : m ∉ ns := fun z => (List.nodup_append.mp h).2.2 m z m List.mem_cons_self rfl
    rw [List.map_cons, List.foldl_cons, putD_new f m (f m) hm]
    have := fold_new f ms (ns ++ [m]) (by rw [List.append_assoc]; exact h)
    rw [List.map_append] at this
    rw [show [(D.str m, f m)] = [m].map fun n => (D.str n, f n) from rfl, this, List.append_assoc]; rfl
theorem fold_new0 {α : Type} (f : Str → α) {ns : List Str} (h : ns.Nodup) : (ns.map fun n => (D.str n, f n)).foldl (fun acc p => putD p.1 p.2 acc) [] = ns.map fun n => (D.str n, f n) := fold_new f ns [] h
theorem fold_old {α : Type} (f h : Str → α) : ∀ (ms : List Str) {ns : List Str}, ns.Nodup → (∀ m ∈ ms, m ∈ ns) → (ms.map fun n => (D.str n, h n)).foldl (fun acc p => putD p.1 p.2 acc) (ns.map fun n => (D.str n, f n)) = ns.map fun n => (D.str n, if n ∈ ms then h n else f n)
  | [], ns, _, _ => by
    rw [List.map_nil, List.foldl_nil]
    exact List.map_congr_left fun n _ => by rw [if_neg (fun z => nomatch z)]
  | m :: ms, ns, nd, hs => by
    rw [List.map_cons, List.foldl_cons, putD_old f m (h m) nd (hs m List.mem_cons_self), fold_old (fun n => if n = m then h m else f n) h ms nd fun x hx => hs x (List.mem_cons_of_mem _ hx)]
    refine List.map_congr_left fun n _ => ?_
    by_cases e : n ∈ ms
    · rw [if_pos e, if_pos (List.mem_cons_of_mem _ e)]
    · rw [if_neg e]
      by_cases q : n = m
      · subst q; rw [if_pos rfl, if_pos List.mem_cons_self]
      · rw [if_neg q, if_neg fun z => (List.mem_cons.mp z).elim q e]
theorem pairs_tb (μ : Heap) (g : Str → D) (ns : List Str) : pairs μ (.d (.dct (tbG g ns))) = some (ns.map fun n => (D.str n, Val.d (g n))) := by
  show some ((tbG g ns).map _) = _
  unfold tbG; rw [List.map_map]; rfl
theorem sorted_tb {g : Str → D} {ns : List Str} (h64 : ns.length < 64) (μ : Heap) : bltL .sorted [.d (.dct (tbG g ns))] μ = some (((sortT ns).map D.str).map .d) := by
  rw [sorted_of, show itemsD μ (.d (.dct (tbG g ns))) = none from rfl, pairs_tb]
  simp only [List.map_map]
  have e : (ns.map ((fun p : D × Val => p.1) ∘ fun n => (D.str n, Val.d (g n)))) = ns.map D.str := rfl
  rw [e, strL_map, if_pos (by rw [List.length_map]; simp [h64]), sort_strsD]
  rw [List.map_map]
/-! ### whole numbers -/
theorem fm_filter {α β : Type} (c : α → Bool) (f : α → β) : ∀ l : List α, (l.flatMap fun p => if c p = true then [f p] else []) = (l.filter c).map f
  | [] => rfl
  | a :: l => by
    rw [List.flatMap_cons, List.filter_cons, fm_filter c f l]
    split <;> rfl
theorem eqv_ii (a b : Int) : eqv (.int a) (.int b) = (a == b) := rfl
theorem plains_ints : ∀ ms : List Int, plains (ms.map D.int) = true
  | [] => rfl
  | _ :: ms => plains_ints ms
theorem nin_ints (x : Int) (ms : List Int) (r : Heap) : cmpop .nin (.d (.int x)) (.ref 0) (.lst ((ms.map D.int).map .d) :: r) = some (!decide (x ∈ ms)) := by
  rw [show cmpop .nin (.d (.int x)) (.ref 0) (.lst ((ms.map D.int).map .d) :: r) = match inop (.d (.int x)) (.ref 0) (.lst ((ms.map D.int).map .d) :: r) with
    | some b => some !b
    | none => none from rfl]
  have : inop (.d (.int x)) (.ref 0) (.lst ((ms.map D.int).map .d) :: r) = some (decide (x ∈ ms)) := by
    show (match Mp.items (.lst ((ms.map D.int).map .d) :: r) (.ref 0) with
      | some vs => match mapO (Mp.snap (.lst ((ms.map D.int).map .d) :: r) 0) vs with
        | some ds => if shp (.int x) && plains ds then some (ds.any fun d => eqv d (.int x)) else none
        | none => none
      | none => match pairs (.lst ((ms.map D.int).map .d) :: r) (.ref 0) with
        | some kvs => if isKey0 (.int x) then some (lookD (.int x) kvs).isSome else none
        | none => none) = _
    rw [show Mp.items (.lst ((ms.map D.int).map .d) :: r) (.ref 0) = some ((ms.map D.int).map .d) from rfl]
    simp only [snaps_d, plains_ints]
    rw [show (shp (.int x) && true) = true from rfl, if_pos rfl]
    congr 1
    induction ms with
    | nil => rfl
    | cons a ms ih =>
      rw [List.map_cons, List.any_cons, ih, eqv_ii, Bool.eq_iff_iff, Bool.or_eq_true, decide_eq_true_eq, decide_eq_true_eq, beq_iff_eq, List.mem_cons, eq_comm]
  rw [this]
def insZ (x : Int) : List Int → List Int
  | [] => [x]
  | y :: r => if x < y then x :: y :: r else y :: insZ x r
def srtI (ns : List Int) : List Int := ns.foldl (fun acc x => insZ x acc) []
theorem insD_intZ (x : Int) : ∀ l : List Int, insD ltB (.int x) (l.map D.int) = (insZ x l).map D.int
  | [] => rfl
  | y :: r => by
    show (if ltB (.int x) (.int y) = true then _ else _) = _
    rw [show ltB (.int x) (.int y) = decide (x < y) from rfl, insD_intZ x r, show insZ x (y :: r) = if x < y then x :: y :: r else y :: insZ x r from rfl]
    by_cases h : x < y
    · rw [if_pos (decide_eq_true h), if_pos h]; rfl
    · rw [if_neg (by simpa using h), if_neg h]; rfl
theorem srt_int (ns : List Int) : sortD ltB (ns.map D.int) = (srtI ns).map D.int := by
  have : ∀ (ns acc : List Int), (ns.map D.int).foldl (fun acc x => insD ltB x acc) (acc.map D.int) = (ns.foldl (fun acc x => insZ x acc) acc).map D.int := by
    intro ns
    induction ns with
    | nil => intro acc; rfl
    | cons a ns ih =>
      intro acc
      rw [List.map_cons, List.foldl_cons, List.foldl_cons, insD_intZ]
      exact ih _
  exact this ns []
theorem insZ_perm (x : Int) : ∀ l : List Int, (insZ x l).Perm (x :: l)
  | [] => List.Perm.refl _
  | y :: r => by
    unfold insZ
    split
    · exact List.Perm.refl _
    · exact ((insZ_perm x r).cons y).trans (List.Perm.swap x y r)
theorem insZ_sort (x : Int) : ∀ l : List Int, l.Pairwise (· ≤ ·) → (insZ x l).Pairwise (· ≤ ·)
  | [], _ => List.pairwise_singleton _ _
  | y :: r, h => by
    obtain ⟨h1, h2⟩ := List.pairwise_cons.mp h
    unfold insZ
    split
    · rename_i hx
      refine List.pairwise_cons.mpr ⟨fun z hz => ?_, h⟩
      rcases List.mem_cons.mp hz with rfl | hz
      · omega
      · have := h1 z hz; omega
    · rename_i hx
      refine List.pairwise_cons.mpr ⟨fun z hz => ?_, insZ_sort x r h2⟩
      rcases List.mem_cons.mp ((insZ_perm x r).mem_iff.mp hz) with rfl | hz
      · omega
      · exact h1 z hz
theorem srtI_ok (ns : List Int) : (srtI ns).Perm ns ∧ (srtI ns).Pairwise (· ≤ ·) := by
  have : ∀ (ns acc : List Int), acc.Pairwise (· ≤ ·) → (ns.foldl (fun acc x => insZ x acc) acc).Perm (ns ++ acc) ∧ (ns.foldl (fun acc x => insZ x acc) acc).Pairwise (· ≤ ·) := by
    intro ns
    induction ns with
    | nil => intro acc h; exact ⟨List.Perm.refl _, h⟩
    | cons a ns ih =>
      intro acc h
      obtain ⟨h1, h2⟩ := ih _ (insZ_sort a acc h)
      exact ⟨h1.trans (((insZ_perm a acc).append_left ns).trans List.perm_middle), h2⟩
  have := this ns [] List.Pairwise.nil
  rwa [List.append_nil] at this
theorem setL_lastN {a : Nat} {xs : List D} {x y : D} {μ : Heap} (h : μ[a]? = some (.lst ((xs ++ [x]).map .d))) : setSub (.ref a) (.d (.int (-1))) (.d y) μ = .ok () (μ.set a (.lst ((xs ++ [y]).map .d))) := by
  unfold setSub
  simp only [h]
  have e : ixN ((xs ++ [x]).map Val.d).length (-1) = some xs.length := by
    unfold ixN
    simp only [List.length_map, List.length_append, List.length_singleton]
    rw [if_neg (by omega), if_pos (by omega)]
    congr 1; omega
  rw [e]
  simp only [simple_d, need_true]
  congr 3
  rw [List.map_append, List.map_append, List.set_append_right _ _ (by rw [List.length_map]; exact Nat.le_refl _), List.length_map, Nat.sub_self]
  rfl
theorem idx_lastN {a : Nat} {xs : List D} {x : D} {μ : Heap} (h : μ[a]? = some (.lst ((xs ++ [x]).map .d))) : idxV (.ref a) (.d (.int (-1))) μ = .ok (.d x) μ := by
  rw [idx_ref h]
  have : atI ((xs ++ [x]).map Val.d) (-1) = some (.d x) := by
    rw [List.map_append]
    unfold atI
    have e : ixN (xs.map Val.d ++ [x].map Val.d).length (-1) = some xs.length := by
      unfold ixN
      simp only [List.length_map, List.length_append, List.length_singleton]
      rw [if_neg (by omega), if_pos (by omega)]
      congr 1; omega
    rw [e]
    simp
  rw [this]; rfl
theorem any_int (x : Int) (ms : List Int) : ((ms.map D.int).any fun d => eqv d (.int x)) = decide (x ∈ ms) := by
  induction ms with
  | nil => rfl
  | cons a ms ih => rw [List.map_cons, List.any_cons, ih, eqv_ii, Bool.eq_iff_iff, Bool.or_eq_true, decide_eq_true_eq, decide_eq_true_eq, beq_iff_eq, List.mem_cons, eq_comm]
theorem inop_ref {μ : Heap} {i : Nat} {ms : List Int} (h : μ[i]? = some (.lst ((ms.map D.int).map .d))) (x : Int) : inop (.d (.int x)) (.ref i) μ = some (decide (x ∈ ms)) := by
  show (match Mp.items μ (.ref i) with
    | some vs => match mapO (Mp.snap μ 0) vs with
      | some ds => if shp (.int x) && plains ds then some (ds.any fun d => eqv d (.int x)) else none
      | none => none
    | none => match pairs μ (.ref i) with
      | some kvs => if isKey0 (.int x) then some (lookD (.int x) kvs).isSome else none
      | none => none) = _
  have e : Mp.items μ (.ref i) = some ((ms.map D.int).map .d) := by unfold items; simp only [h]
  rw [e]
  simp only [snaps_d, plains_ints]
  rw [show (shp (.int x) && true) = true from rfl, if_pos rfl, any_int]
theorem inop_lst (μ : Heap) (ms : List Int) (x : Int) : inop (.d (.int x)) (.d (.lst (ms.map D.int))) μ = some (decide (x ∈ ms)) := by
  show (match mapO (Mp.snap μ 0) ((ms.map D.int).map .d) with
      | some ds => if shp (.int x) && plains ds then some (ds.any fun d => eqv d (.int x)) else none
      | none => none) = _
  simp only [snaps_d, plains_ints]
  rw [show (shp (.int x) && true) = true from rfl, if_pos rfl, any_int]
theorem cmp_in (x y : Val) (μ : Heap) : cmpop .in_ x y μ = inop x y μ := rfl
theorem cmp_nin {x y : Val} {μ : Heap} {b : Bool} (h : inop x y μ = some b) : cmpop .nin x y μ = some (!b) := by
  show (match inop x y μ with
    | some b => some (!b)
    | none => none) = _
  rw [h]
theorem cmp_eqS (a b : Str) (μ : Heap) : cmpop .eq (.d (.str a)) (.d (.str b)) μ = some (a == b) := rfl
theorem cmp_neS (a b : Str) (μ : Heap) : cmpop .ne (.d (.str a)) (.d (.str b)) μ = some (!(a == b)) := rfl
/-- ints that pass a test -/
theorem collect_filt {step : Val → Heap → Res (List Val)} {μ : Heap} {g : List (Nat × Cell)} (p : Int → Bool) (hg : guardOk g μ) {ms : List Int} (h : ∀ x ∈ ms, step (.d (.int x)) μ = .ok (if p x = true then [.d (.int x)] else []) μ) : collect g step ((ms.map D.int).map .d) μ = .ok (((ms.filter p).map D.int).map .d) μ := by
  rw [List.map_map, collect_run (Val.d ∘ D.int) (fun x => if p x = true then [Val.d (.int x)] else []) hg ms h]
  congr 1
  rw [List.map_map]
  exact fm_filter p (fun x => Val.d (.int x)) ms
/-! ### sorted, as the walk leaves it -/
theorem sort_ifP {g : Str → D} {ns : List Str} (h : Gd1 g ns) (X : Option (List Val)) : (if (intL (ns.map (prG g))).isSome = true then some ((sortD ltB (ns.map (prG g))).map Val.d) else if sortOk (ns.map (prG g)) = true then some (((ns.map (prG g)).mergeSort leB).map Val.d) else X) = some (((sortT ns).map (prG g)).map Val.d) := by
  by_cases e : ns = []
  · subst e
    rw [if_pos (show (intL (([] : List Str).map (prG g))).isSome = true from rfl), sortT_nil]
    rfl
  · rw [if_neg (by rw [intL_prs e]; decide), if_pos (sortOk_prs h), sort_prs h.eq]
theorem sort_ifL {ns : List Str} (h64 : ns.length < 64) (X : Option (List Val)) : (if (intL (ns.map D.str)).isSome = true then some ((sortD ltB (ns.map D.str)).map Val.d) else if sortOk (ns.map D.str) = true then some (((ns.map D.str).mergeSort leB).map Val.d) else if (strL (ns.map D.str)).isSome = true ∧ ns.length < 64 then some (((ns.map D.str).mergeSort leB).map Val.d) else X) = some (((sortT ns).map D.str).map Val.d) := by
  by_cases e : ns = []
  · subst e
    rw [if_pos (show (intL (([] : List Str).map D.str)).isSome = true from rfl), sortT_nil]
    rfl
  · rw [intL_strs e, sortOk_strs e, if_neg (by decide), if_neg (by decide), if_pos ⟨by rw [strL_map]; rfl, h64⟩, sort_strsD]
theorem sort_ifT {ns : List Str} (h64 : ns.length < 64) (X : Option (List Val)) : (if (strL (ns.map D.str)).isSome = true ∧ ns.length < 64 then some (((ns.map D.str).mergeSort leB).map Val.d) else X) = some (((sortT ns).map D.str).map Val.d) := by
  rw [if_pos ⟨by rw [strL_map]; rfl, h64⟩, sort_strsD]
end Mp
end
section
set_option linter.all false
set_option maxRecDepth 100000
namespace Mp.L
open PySem
abbrev f_pairs_of : Nat := 0
abbrev f_found_in : Nat := 1
abbrev f_calendar_of : Nat := 2
abbrev f_day_of : Nat := 3
abbrev f_flag_of : Nat := 4
abbrev f_world_of : Nat := 5
abbrev f_history_of : Nat := 6
abbrev f__law_cell : Nat := 7
abbrev f__law_numbers : Nat := 8
abbrev f__law_names : Nat := 9
abbrev f__law_above : Nat := 10
abbrev f__law_rules : Nat := 11
abbrev f__law_closed : Nat := 12
abbrev f__law_stretches : Nat := 13
abbrev f__law_known : Nat := 14
abbrev f__law_case_term : Nat := 15
abbrev f__law_case_condition : Nat := 16
abbrev f__law_book : Nat := 17
abbrev f__law_filings : Nat := 18
abbrev f__law_missing : Nat := 19
abbrev f__law_without : Nat := 20
abbrev f_law : Nat := 21
abbrev c_DiesError : Nat := 0
abbrev c_NotAllowed : Nat := 1
abbrev c_Missing : Nat := 2
def ir_pairs_of : Ss :=
 (.cons (.ret (.blt .tuple false (.cons (.lc false (.nm 1) (.val (.blt .sorted false (.cons (.var 0) .nil))) .no (.tup (.cons (.var 1) (.cons (.idx (.var 0) (.var 1)) .nil)))) .nil)))
 .nil)
def fn_pairs_of : Fn := ⟨1, 2, ir_pairs_of⟩
def ir_found_in : Ss :=
 (.cons (.for_ false (.tp (.cons (.nm 2) (.cons (.nm 3) .nil))) (.val (.var 0))
 (.cons (.ife (.val (.cmp .eq (.var 2) (.var 1)))
 (.cons (.ret (.var 3))
 .nil)
 .nil)
 (.kill [2, 3] .nil)))
 (.kill [2, 3] (.cons (.raise c_Missing (.cons (.var 1) .nil))
 .nil)))
def fn_found_in : Fn := ⟨2, 4, ir_found_in⟩
def ir_calendar_of : Ss :=
 (.cons (.ret (.cal f_found_in (.cons (.idx (.var 0) (.int 0)) (.cons (.var 1) .nil))))
 .nil)
def fn_calendar_of : Fn := ⟨2, 2, ir_calendar_of⟩
def ir_day_of : Ss :=
 (.cons (.ret (.cal f_found_in (.cons (.idx (.var 0) (.int 1)) (.cons (.var 1) .nil))))
 .nil)
def fn_day_of : Fn := ⟨2, 2, ir_day_of⟩
def ir_flag_of : Ss :=
 (.cons (.ret (.cal f_found_in (.cons (.idx (.var 0) (.int 2)) (.cons (.var 1) .nil))))
 .nil)
def fn_flag_of : Fn := ⟨2, 2, ir_flag_of⟩
def ir_world_of : Ss :=
 (.cons (.asg (.tp (.cons (.nm 2) (.cons (.nm 3) .nil))) (.var 1))
 (.cons (.asg (.nm 4) (.dc true (.nm 6) (.val (.idx (.var 0) (.int 1))) .no (.var 6) (.int 0)))
 (.cons (.expr (.bme .update false (.var 4) (.cons (.dc false (.tp (.cons (.nm 6) (.cons (.nm 7) .nil))) (.val (.var 3)) .no (.var 6) (.var 7)) .nil)))
 (.cons (.asg (.nm 5) (.dc true (.nm 6) (.val (.idx (.var 0) (.int 1))) .no (.var 6) (.bl false)))
 (.cons (.expr (.bme .update false (.var 5) (.cons (.dc false (.tp (.cons (.nm 6) (.cons (.nm 8) .nil))) (.val (.var 3)) .no (.var 6) (.bl true)) .nil)))
 (.cons (.ret (.tup (.cons (.cal f_pairs_of (.cons (.dc false (.tp (.cons (.nm 9) (.cons (.nm 10) .nil))) (.val (.var 2)) .no (.var 9) (.var 10)) .nil)) (.cons (.cal f_pairs_of (.cons (.frzD (.var 4)) .nil)) (.cons (.cal f_pairs_of (.cons (.frzD (.var 5)) .nil)) .nil)))))
 .nil))))))
def fn_world_of : Fn := ⟨2, 11, ir_world_of⟩
def ir_history_of : Ss :=
 (.cons (.asg (.nm 2) (.blt .tuple false (.cons (.lcE false (.nm 7) (.val (.blt .sorted false (.cons (.lcE false (.nm 6) (.val (.idx (.var 0) (.int 0))) .no (.idx (.var 6) (.int 0))) .nil))) .no (.tup (.cons (.var 7) (.cons (.cal f_calendar_of (.cons (.var 1) (.cons (.var 7) .nil))) .nil)))) .nil)))
 (.cons (.asg (.nm 3) (.lst true .nil))
 (.cons (.for_ false (.nm 4) (.val (.blt .sorted false (.cons (.idx (.var 0) (.int 1)) .nil)))
 (.cons (.asg (.nm 5) (.cal f_day_of (.cons (.var 1) (.cons (.var 4) .nil))))
 (.cons (.ife (.val (.cal f_flag_of (.cons (.var 1) (.cons (.var 4) .nil))))
 (.cons (.expr (.bme .append false (.var 3) (.cons (.tup (.cons (.var 4) (.cons (.var 5) .nil))) .nil)))
 .nil)
 .nil)
 (.kill [4, 5] .nil))))
 (.kill [4, 5] (.cons (.ret (.tup (.cons (.var 2) (.cons (.blt .tuple false (.cons (.var 3) .nil)) .nil))))
 .nil)))))
def fn_history_of : Fn := ⟨2, 8, ir_history_of⟩
def ir__law_cell : Ss :=
 (.cons (.ife (.val (.cmp .lt (.var 1) (.blt .len false (.cons (.var 0) .nil))))
 (.cons (.ret (.idx (.var 0) (.var 1)))
 .nil)
 .nil)
 (.cons (.ret (.int 0))
 .nil))
def fn__law_cell : Fn := ⟨2, 2, ir__law_cell⟩
def ir__law_numbers : Ss :=
 (.cons (.asg (.nm 3) (.lst true .nil))
 (.cons (.ife (.val (.cmp .ge (.var 0) (.bin .pow (.int 10) (.int 18))))
 (.cons (.asg (.nm 4) (.var 0))
 (.cons (.for_ false (.nm 5) (.rng1 (.var 2))
 (.cons (.expr (.bme .append false (.var 3) (.cons (.bin .mod (.blt .int false (.cons (.var 4) .nil)) (.int 1000)) .nil)))
 (.cons (.asg (.nm 4) (.bin .fdiv (.var 4) (.int 1000)))
 (.kill [5] .nil))))
 (.kill [4, 5] (.cons (.ret (.frz (.var 3)))
 .nil))))
 .nil)
 (.kill [4, 5] (.cons (.asg (.nm 6) (.bin .mod (.blt .int false (.cons (.bin .add (.bin .add (.bin .mul (.var 0) (.int 48271)) (.bin .mul (.var 1) (.int 69621))) (.int 11)) .nil)) (.int 2147483647)))
 (.cons (.for_ false (.nm 5) (.rng1 (.var 2))
 (.cons (.asg (.nm 6) (.bin .mod (.blt .int false (.cons (.bin .add (.bin .add (.bin .mul (.var 6) (.int 16807)) (.bin .mul (.var 5) (.int 7919))) (.int 13)) .nil)) (.int 2147483647)))
 (.cons (.asg (.nm 7) (.bin .mod (.blt .int false (.cons (.bin .add (.bin .add (.bin .mul (.var 6) (.var 6)) (.bin .mul (.var 1) (.int 31))) (.var 5)) .nil)) (.int 1000000007)))
 (.cons (.expr (.bme .append false (.var 3) (.cons (.bin .mod (.blt .int false (.cons (.bin .fdiv (.var 7) (.int 101)) .nil)) (.int 1000)) .nil)))
 (.kill [5, 7] .nil)))))
 (.kill [5, 6, 7] (.cons (.ret (.frz (.var 3)))
 .nil)))))))
def fn__law_numbers : Fn := ⟨3, 8, ir__law_numbers⟩
def ir__law_names : Ss :=
 (.cons (.ret (.idx (.lst false (.cons (.tup (.cons (.str (PySem.Str.ofString "court")) (.cons (.str (PySem.Str.ofString "bank")) (.cons (.str (PySem.Str.ofString "post")) .nil)))) (.cons (.tup (.cons (.str (PySem.Str.ofString "b")) (.cons (.str (PySem.Str.ofString "a")) (.cons (.str (PySem.Str.ofString "c")) .nil)))) (.cons (.tup (.cons (.str (PySem.Str.ofString "m1")) (.cons (.str (PySem.Str.ofString "m10")) (.cons (.str (PySem.Str.ofString "m")) .nil)))) (.cons (.tup (.cons (.str (PySem.Str.ofString "zeta")) (.cons (.str (PySem.Str.ofString "z")) (.cons (.str (PySem.Str.ofString "zet")) .nil)))) .nil))))) (.bin .mod (.blt .int false (.cons (.var 0) .nil)) (.int 4))))
 .nil)
def fn__law_names : Fn := ⟨1, 1, ir__law_names⟩
def ir__law_above : Ss :=
 (.cons (.asg (.nm 2) (.lst true .nil))
 (.cons (.asg (.nm 3) (.var 1))
 (.cons (.for_ false (.nm 4) (.rng1 (.blt .len false (.cons (.var 0) .nil)))
 (.cons (.asg (.nm 5) (.lc false (.nm 6) (.val (.var 0)) (.so (.val (.cmp .eq (.idx (.var 6) (.int 0)) (.var 3)))) (.idx (.var 6) (.int 2))))
 (.cons (.ife (.or (.val (.cmp .eq (.blt .len false (.cons (.var 5) .nil)) (.int 0))) (.val (.cmp .eq (.idx (.var 5) (.int 0)) (.str (PySem.Str.ofString "")))))
 (.cons (.ret (.frz (.var 2)))
 .nil)
 .nil)
 (.cons (.asg (.nm 3) (.idx (.var 5) (.int 0)))
 (.cons (.expr (.bme .append false (.var 2) (.cons (.var 3) .nil)))
 (.kill [4, 5] .nil))))))
 (.kill [3, 4, 5] (.cons (.ret (.frz (.var 2)))
 .nil)))))
def fn__law_above : Fn := ⟨2, 7, ir__law_above⟩
def ir__law_rules : Ss :=
 (.cons (.asg (.nm 4) (.lst true .nil))
 (.cons (.for_ false (.nm 5) (.rng1 (.var 3))
 (.cons (.asg (.nm 6) (.blt .int false (.cons (.idx (.var 0) (.bin .add (.var 1) (.var 5))) .nil)))
 (.cons (.asg (.nm 7) (.str (PySem.Str.ofString "")))
 (.cons (.ife (.and (.val (.cmp .gt (.var 5) (.int 0))) (.val (.cmp .eq (.bin .mod (.bin .fdiv (.var 6) (.int 6)) (.int 2)) (.int 0))))
 (.cons (.asg (.nm 7) (.idx (.var 2) (.bin .mod (.blt .int false (.cons (.bin .fdiv (.var 6) (.int 12)) .nil)) (.var 5))))
 .nil)
 .nil)
 (.cons (.asg (.nm 8) (.idx (.lst false (.cons (.int 0) (.cons (.int 0) (.cons (.int 1) (.cons (.int 2) (.cons (.int 3) (.cons (.int 4) .nil))))))) (.bin .mod (.var 6) (.int 6))))
 (.cons (.ife (.and (.val (.cmp .eq (.var 5) (.int 2))) (.val (.cmp .ne (.var 7) (.str (PySem.Str.ofString "")))))
 (.cons (.asg (.nm 8) (.int 0))
 .nil)
 .nil)
 (.cons (.expr (.bme .append false (.var 4) (.cons (.tup (.cons (.idx (.var 2) (.var 5)) (.cons (.var 8) (.cons (.var 7) .nil)))) .nil)))
 (.kill [5, 6, 7, 8] .nil))))))))
 (.kill [5, 6, 7, 8] (.cons (.ret (.frz (.var 4)))
 .nil))))
def fn__law_rules : Fn := ⟨4, 9, ir__law_rules⟩
def ir__law_closed : Ss :=
 (.cons (.asg (.nm 3) (.dsp true .nil))
 (.cons (.for_ true (.nm 4) (.rng1 (.blt .len false (.cons (.var 2) .nil)))
 (.cons (.asg (.nm 5) (.idx (.idx (.var 2) (.var 4)) (.int 0)))
 (.cons (.asg (.nm 6) (.bin .add (.blt .int false (.cons (.idx (.var 0) (.bin .add (.var 1) (.bin .mul (.int 2) (.var 4)))) .nil)) (.bin .mul (.int 1000) (.blt .int false (.cons (.idx (.var 0) (.bin .add (.bin .add (.var 1) (.bin .mul (.int 2) (.var 4))) (.int 1))) .nil)))))
 (.cons (.asg (.nm 7) (.lst true .nil))
 (.cons (.for_ false (.nm 8) (.rng2 (.neg (.int 8)) (.int 12))
 (.cons (.ife (.val (.cmp .eq (.bin .mod (.var 6) (.int 2)) (.int 1)))
 (.cons (.expr (.bme .append false (.var 7) (.cons (.var 8) .nil)))
 .nil)
 .nil)
 (.cons (.asg (.nm 6) (.bin .fdiv (.var 6) (.int 2)))
 (.kill [8] .nil))))
 (.kill [6, 8] (.cons (.for_ false (.nm 9) (.val (.cal f__law_above (.cons (.var 2) (.cons (.var 5) .nil))))
 (.cons (.asg (.nm 7) (.binL true .add (.var 7) (.lc false (.nm 8) (.val (.idx (.var 3) (.var 9))) (.so (.val (.cmp .nin (.var 8) (.var 7)))) (.var 8))))
 (.kill [9] .nil)))
 (.kill [9] (.cons (.asg (.sub (.var 3) (.var 5)) (.frz (.var 7)))
 (.kill [4, 5, 6, 7, 8, 9] .nil))))))))))
 (.kill [4, 5, 6, 7, 8, 9] (.cons (.for_ false (.nm 10) (.val (.var 2))
 (.cons (.asg (.nm 11) (.int 0))
 (.cons (.for_ false (.nm 8) (.rng2 (.neg (.int 9)) (.int 13))
 (.cons (.ife (.val (.cmp .in_ (.var 8) (.idx (.var 3) (.idx (.var 10) (.int 0)))))
 (.cons (.asg (.nm 11) (.bin .add (.var 11) (.int 1)))
 .nil)
 (.cons (.asg (.nm 11) (.int 0))
 .nil))
 (.cons (.ife (.and (.val (.cmp .gt (.var 11) (.idx (.var 10) (.int 1)))) (.val (.cmp .gt (.idx (.var 10) (.int 1)) (.int 0))))
 (.cons (.asg (.nm 11) (.int 0))
 (.cons (.for_ false (.nm 5) (.val (.bin .add (.lst false (.cons (.idx (.var 10) (.int 0)) .nil)) (.cal f__law_above (.cons (.var 2) (.cons (.idx (.var 10) (.int 0)) .nil)))))
 (.cons (.asg (.sub (.var 3) (.var 5)) (.lc false (.nm 12) (.val (.idx (.var 3) (.var 5))) (.so (.val (.cmp .ne (.var 12) (.var 8)))) (.var 12)))
 (.kill [5] .nil)))
 (.kill [5] .nil)))
 .nil)
 (.kill [5] (.kill [5, 8] .nil)))))
 (.kill [5, 8, 11] (.kill [5, 8, 10, 11] .nil)))))
 (.kill [5, 8, 10, 11] (.cons (.ret (.frzD (.var 3)))
 .nil))))))
def fn__law_closed : Fn := ⟨3, 13, ir__law_closed⟩
def ir__law_stretches : Ss :=
 (.cons (.asg (.nm 1) (.lst true .nil))
 (.cons (.for_ false (.nm 2) (.val (.blt .sorted false (.cons (.var 0) .nil)))
 (.cons (.ife (.and (.val (.cmp .gt (.blt .len false (.cons (.var 1) .nil)) (.int 0))) (.val (.cmp .eq (.idx (.idx (.var 1) (.neg (.int 1))) (.int 1)) (.bin .sub (.var 2) (.int 1)))))
 (.cons (.asg (.sub (.var 1) (.neg (.int 1))) (.tup (.cons (.idx (.idx (.var 1) (.neg (.int 1))) (.int 0)) (.cons (.var 2) .nil))))
 .nil)
 (.cons (.ife (.or (.val (.cmp .eq (.blt .len false (.cons (.var 1) .nil)) (.int 0))) (.val (.cmp .lt (.idx (.idx (.var 1) (.neg (.int 1))) (.int 1)) (.var 2))))
 (.cons (.expr (.bme .append false (.var 1) (.cons (.tup (.cons (.var 2) (.cons (.var 2) .nil))) .nil)))
 .nil)
 .nil)
 .nil))
 (.kill [2] .nil)))
 (.kill [2] (.cons (.ret (.blt .tuple false (.cons (.var 1) .nil)))
 .nil))))
def fn__law_stretches : Fn := ⟨1, 3, ir__law_stretches⟩
def ir__law_known : Ss :=
 (.cons (.asg (.nm 4) (.lst true .nil))
 (.cons (.for_ false (.nm 5) (.rng1 (.blt .len false (.cons (.var 2) .nil)))
 (.cons (.asg (.tp (.cons (.nm 6) (.cons (.nm 7) (.cons (.nm 8) .nil)))) (.idx (.var 2) (.var 5)))
 (.cons (.asg (.nm 9) (.blt .int false (.cons (.idx (.var 0) (.bin .add (.var 1) (.var 5))) .nil)))
 (.cons (.asg (.nm 10) (.tup .nil))
 (.cons (.ife (.val (.cmp .eq (.bin .mod (.var 9) (.int 4)) (.int 0)))
 (.cons (.asg (.nm 11) (.bin .sub (.bin .mod (.bin .fdiv (.var 9) (.int 4)) (.int 9)) (.int 4)))
 (.cons (.asg (.nm 12) (.bin .add (.var 11) (.bin .mod (.bin .fdiv (.var 9) (.int 36)) (.int 3))))
 (.cons (.asg (.nm 10) (.tup (.cons (.var 11) (.cons (.var 12) (.cons (.cal f__law_stretches (.cons (.lc false (.nm 13) (.val (.idx (.var 3) (.var 6))) (.so (.val (.chn .le .le (.var 11) (.var 13) (.var 12)))) (.var 13)) .nil)) .nil)))))
 .nil)))
 .nil)
 (.kill [11, 12] (.cons (.expr (.bme .append false (.var 4) (.cons (.tup (.cons (.var 6) (.cons (.var 7) (.cons (.var 8) (.cons (.var 10) .nil))))) .nil)))
 (.kill [5, 6, 7, 8, 9, 10, 11, 12] .nil))))))))
 (.kill [5, 6, 7, 8, 9, 10, 11, 12] (.cons (.ret (.blt .tuple false (.cons (.var 4) .nil)))
 .nil))))
def fn__law_known : Fn := ⟨4, 14, ir__law_known⟩
def ir__law_case_term : Ss :=
 (.cons (.asg (.nm 6) (.idx (.var 3) (.bin .mod (.blt .int false (.cons (.var 1) .nil)) (.blt .len false (.cons (.var 3) .nil)))))
 (.cons (.asg (.nm 7) (.bin .sub (.bin .mod (.bin .fdiv (.var 1) (.int 3)) (.int 8)) (.int 1)))
 (.cons (.asg (.nm 8) (.tup (.cons (.str (PySem.Str.ofString "day")) (.cons (.var 2) .nil))))
 (.cons (.asg (.nm 9) (.tup (.cons (.str (PySem.Str.ofString "day")) (.cons (.idx (.var 4) (.bin .mod (.blt .int false (.cons (.bin .fdiv (.var 1) (.int 24)) .nil)) (.blt .len false (.cons (.var 4) .nil)))) .nil))))
 (.cons (.asg (.nm 10) (.bin .mod (.blt .int false (.cons (.var 0) .nil)) (.int 10)))
 (.cons (.ife (.val (.cmp .lt (.var 10) (.int 2)))
 (.cons (.ret (.tup (.cons (.str (PySem.Str.ofString "plus")) (.cons (.var 8) (.cons (.var 7) .nil)))))
 .nil)
 .nil)
 (.cons (.ife (.val (.cmp .lt (.var 10) (.int 5)))
 (.cons (.ret (.tup (.cons (.str (PySem.Str.ofString "next")) (.cons (.var 6) (.cons (.tup (.cons (.str (PySem.Str.ofString "plus")) (.cons (.var 8) (.cons (.var 7) .nil)))) .nil)))))
 .nil)
 .nil)
 (.cons (.ife (.val (.cmp .eq (.var 10) (.int 5)))
 (.cons (.ret (.tup (.cons (.str (PySem.Str.ofString "nth")) (.cons (.var 6) (.cons (.var 8) (.cons (.idx (.lst false (.cons (.int 1) (.cons (.int 2) (.cons (.int 3) (.cons (.neg (.int 1)) .nil))))) (.bin .mod (.blt .int false (.cons (.var 7) .nil)) (.int 4))) .nil))))))
 .nil)
 .nil)
 (.cons (.ife (.and (.val (.cmp .eq (.var 10) (.int 6))) (.val (.cmp .gt (.blt .len false (.cons (.var 5) .nil)) (.int 0))))
 (.cons (.ret (.tup (.cons (.str (PySem.Str.ofString "later")) (.cons (.tup (.cons (.str (PySem.Str.ofString "plus")) (.cons (.var 8) (.cons (.var 7) .nil)))) (.cons (.tup (.cons (.str (PySem.Str.ofString "due")) (.cons (.idx (.var 5) (.bin .mod (.blt .int false (.cons (.bin .fdiv (.var 0) (.int 10)) .nil)) (.blt .len false (.cons (.var 5) .nil)))) .nil))) .nil)))))
 .nil)
 .nil)
 (.cons (.ife (.and (.val (.cmp .eq (.var 10) (.int 7))) (.val (.cmp .gt (.blt .len false (.cons (.var 5) .nil)) (.int 0))))
 (.cons (.ret (.tup (.cons (.str (PySem.Str.ofString "earlier")) (.cons (.tup (.cons (.str (PySem.Str.ofString "prev")) (.cons (.var 6) (.cons (.tup (.cons (.str (PySem.Str.ofString "due")) (.cons (.idx (.var 5) (.bin .mod (.blt .int false (.cons (.bin .fdiv (.var 0) (.int 10)) .nil)) (.blt .len false (.cons (.var 5) .nil)))) .nil))) .nil)))) (.cons (.tup (.cons (.str (PySem.Str.ofString "plus")) (.cons (.var 8) (.cons (.var 7) .nil)))) .nil)))))
 .nil)
 .nil)
 (.cons (.ife (.val (.cmp .eq (.var 10) (.int 8)))
 (.cons (.ret (.tup (.cons (.str (PySem.Str.ofString "if")) (.cons (.tup (.cons (.str (PySem.Str.ofString "filed")) (.cons (.idx (.var 4) (.bin .mod (.blt .int false (.cons (.bin .fdiv (.var 0) (.int 10)) .nil)) (.blt .len false (.cons (.var 4) .nil)))) .nil))) (.cons (.tup (.cons (.str (PySem.Str.ofString "next")) (.cons (.var 6) (.cons (.var 8) .nil)))) (.cons (.tup (.cons (.str (PySem.Str.ofString "plus")) (.cons (.var 8) (.cons (.var 7) .nil)))) .nil))))))
 .nil)
 .nil)
 (.cons (.ife (.val (.cmp .eq (.var 10) (.int 9)))
 (.cons (.ret (.tup (.cons (.str (PySem.Str.ofString "if")) (.cons (.tup (.cons (.str (PySem.Str.ofString "le")) (.cons (.var 9) (.cons (.tup (.cons (.str (PySem.Str.ofString "plus")) (.cons (.var 8) (.cons (.var 7) .nil)))) .nil)))) (.cons (.var 9) (.cons (.tup (.cons (.str (PySem.Str.ofString "prev")) (.cons (.var 6) (.cons (.var 8) .nil)))) .nil))))))
 .nil)
 .nil)
 (.cons (.ret (.tup (.cons (.str (PySem.Str.ofString "at")) (.cons (.var 7) .nil))))
 .nil)))))))))))))
def fn__law_case_term : Fn := ⟨6, 11, ir__law_case_term⟩
def ir__law_case_condition : Ss :=
 (.cons (.asg (.nm 5) (.idx (.var 2) (.bin .mod (.blt .int false (.cons (.var 1) .nil)) (.blt .len false (.cons (.var 2) .nil)))))
 (.cons (.asg (.nm 6) (.idx (.var 3) (.bin .mod (.blt .int false (.cons (.bin .fdiv (.var 1) (.int 2)) .nil)) (.blt .len false (.cons (.var 3) .nil)))))
 (.cons (.asg (.nm 7) (.idx (.var 3) (.bin .mod (.blt .int false (.cons (.bin .fdiv (.var 0) (.int 8)) .nil)) (.blt .len false (.cons (.var 3) .nil)))))
 (.cons (.asg (.nm 8) (.bin .mod (.blt .int false (.cons (.var 0) .nil)) (.int 9)))
 (.cons (.ife (.val (.cmp .lt (.var 8) (.int 3)))
 (.cons (.ret (.tup (.cons (.str (PySem.Str.ofString "yes")) .nil)))
 .nil)
 .nil)
 (.cons (.ife (.val (.cmp .eq (.var 8) (.int 3)))
 (.cons (.ret (.tup (.cons (.str (PySem.Str.ofString "not")) (.cons (.tup (.cons (.str (PySem.Str.ofString "filed")) (.cons (.var 6) .nil))) .nil))))
 .nil)
 .nil)
 (.cons (.ife (.val (.cmp .eq (.var 8) (.int 4)))
 (.cons (.ret (.tup (.cons (.str (PySem.Str.ofString "le")) (.cons (.tup (.cons (.str (PySem.Str.ofString "day")) (.cons (.var 6) .nil))) (.cons (.tup (.cons (.str (PySem.Str.ofString "plus")) (.cons (.tup (.cons (.str (PySem.Str.ofString "day")) (.cons (.var 7) .nil))) (.cons (.bin .sub (.bin .mod (.bin .fdiv (.var 1) (.int 6)) (.int 9)) (.int 3)) .nil)))) .nil)))))
 .nil)
 .nil)
 (.cons (.ife (.val (.cmp .eq (.var 8) (.int 5)))
 (.cons (.ret (.tup (.cons (.str (PySem.Str.ofString "is")) (.cons (.var 5) (.cons (.tup (.cons (.str (PySem.Str.ofString "plus")) (.cons (.tup (.cons (.str (PySem.Str.ofString "day")) (.cons (.var 6) .nil))) (.cons (.bin .mod (.bin .fdiv (.var 1) (.int 6)) (.int 3)) .nil)))) .nil)))))
 .nil)
 .nil)
 (.cons (.ife (.and (.val (.cmp .eq (.var 8) (.int 6))) (.val (.cmp .gt (.blt .len false (.cons (.var 4) .nil)) (.int 0))))
 (.cons (.ret (.tup (.cons (.str (PySem.Str.ofString "or")) (.cons (.tup (.cons (.str (PySem.Str.ofString "called")) (.cons (.idx (.var 4) (.bin .mod (.blt .int false (.cons (.bin .fdiv (.var 0) (.int 9)) .nil)) (.blt .len false (.cons (.var 4) .nil)))) .nil))) (.cons (.tup (.cons (.str (PySem.Str.ofString "filed")) (.cons (.var 6) .nil))) .nil)))))
 .nil)
 .nil)
 (.cons (.ife (.and (.val (.cmp .eq (.var 8) (.int 7))) (.val (.cmp .gt (.blt .len false (.cons (.var 4) .nil)) (.int 0))))
 (.cons (.ret (.tup (.cons (.str (PySem.Str.ofString "not")) (.cons (.tup (.cons (.str (PySem.Str.ofString "and")) (.cons (.tup (.cons (.str (PySem.Str.ofString "missed")) (.cons (.idx (.var 4) (.bin .mod (.blt .int false (.cons (.bin .fdiv (.var 0) (.int 9)) .nil)) (.blt .len false (.cons (.var 4) .nil)))) .nil))) (.cons (.tup (.cons (.str (PySem.Str.ofString "filed")) (.cons (.var 7) .nil))) .nil)))) .nil))))
 .nil)
 .nil)
 (.cons (.ife (.and (.val (.cmp .eq (.var 8) (.int 8))) (.val (.cmp .gt (.blt .len false (.cons (.var 4) .nil)) (.int 0))))
 (.cons (.ret (.tup (.cons (.str (PySem.Str.ofString "not")) (.cons (.tup (.cons (.str (PySem.Str.ofString "le")) (.cons (.tup (.cons (.str (PySem.Str.ofString "due")) (.cons (.idx (.var 4) (.bin .mod (.blt .int false (.cons (.bin .fdiv (.var 0) (.int 9)) .nil)) (.blt .len false (.cons (.var 4) .nil)))) .nil))) (.cons (.tup (.cons (.str (PySem.Str.ofString "day")) (.cons (.var 6) .nil))) .nil)))) .nil))))
 .nil)
 .nil)
 (.cons (.ret (.tup (.cons (.str (PySem.Str.ofString "filed")) (.cons (.var 6) .nil))))
 .nil))))))))))))
def fn__law_case_condition : Fn := ⟨5, 9, ir__law_case_condition⟩
def ir__law_book : Ss :=
 (.cons (.asg (.nm 2) (.slc false (.cal f__law_names (.cons (.idx (.var 0) (.int 0)) .nil)) .no (.so (.bin .add (.int 1) (.bin .mod (.blt .int false (.cons (.idx (.var 0) (.int 1)) .nil)) (.int 2))))))
 (.cons (.asg (.nm 3) (.lst true .nil))
 (.cons (.for_ false (.tp (.cons (.nm 4) (.cons (.nm 5) (.cons (.nm 6) .nil)))) (.val (.cal f__law_rules (.cons (.var 0) (.cons (.int 2) (.cons (.var 2) (.cons (.blt .len false (.cons (.var 2) .nil)) .nil))))))
 (.cons (.expr (.bme .append false (.var 3) (.cons (.tup (.cons (.var 4) (.cons (.idx (.lst false (.cons (.var 5) (.cons (.int 0) .nil))) (.blt .int false (.cons (.cmp .ne (.var 6) (.str (PySem.Str.ofString ""))) .nil))) (.cons (.var 6) .nil)))) .nil)))
 (.kill [4, 5, 6] .nil)))
 (.kill [4, 5, 6] (.cons (.asg (.nm 7) (.cal f__law_closed (.cons (.var 0) (.cons (.int 5) (.cons (.frz (.var 3)) .nil)))))
 (.cons (.asg (.nm 8) (.idx (.lst false (.cons (.tup (.cons (.str (PySem.Str.ofString "served")) (.cons (.str (PySem.Str.ofString "reply")) (.cons (.str (PySem.Str.ofString "paid")) .nil)))) (.cons (.tup (.cons (.str (PySem.Str.ofString "b")) (.cons (.str (PySem.Str.ofString "a")) (.cons (.str (PySem.Str.ofString "ab")) .nil)))) (.cons (.tup (.cons (.str (PySem.Str.ofString "e1")) (.cons (.str (PySem.Str.ofString "e10")) (.cons (.str (PySem.Str.ofString "e2")) .nil)))) .nil)))) (.bin .mod (.blt .int false (.cons (.idx (.var 0) (.int 9)) .nil)) (.int 3))))
 (.cons (.asg (.nm 8) (.slc false (.var 8) .no (.so (.bin .add (.int 2) (.bin .mod (.blt .int false (.cons (.idx (.var 0) (.int 10)) .nil)) (.int 2))))))
 (.cons (.asg (.nm 9) (.idx (.lst false (.cons (.tup (.cons (.str (PySem.Str.ofString "answer")) (.cons (.str (PySem.Str.ofString "default")) (.cons (.str (PySem.Str.ofString "appeal")) .nil)))) (.cons (.tup (.cons (.str (PySem.Str.ofString "r10")) (.cons (.str (PySem.Str.ofString "r1")) (.cons (.str (PySem.Str.ofString "r")) .nil)))) (.cons (.tup (.cons (.str (PySem.Str.ofString "x")) (.cons (.str (PySem.Str.ofString "z")) (.cons (.str (PySem.Str.ofString "y")) .nil)))) .nil)))) (.bin .mod (.bin .fdiv (.blt .int false (.cons (.idx (.var 0) (.int 9)) .nil)) (.int 3)) (.int 3))))
 (.cons (.asg (.nm 10) (.lst true .nil))
 (.cons (.for_ false (.nm 11) (.rng1 (.bin .add (.int 1) (.bin .mod (.blt .int false (.cons (.idx (.var 0) (.int 11)) .nil)) (.var 1))))
 (.cons (.asg (.nm 12) (.slc false (.var 9) .no (.so (.var 11))))
 (.cons (.asg (.nm 13) (.idx (.bin .add (.var 8) (.var 12)) (.bin .mod (.blt .int false (.cons (.idx (.var 0) (.bin .add (.int 12) (.var 11))) .nil)) (.bin .add (.blt .len false (.cons (.var 8) .nil)) (.var 11)))))
 (.cons (.asg (.nm 14) (.cal f__law_case_condition (.cons (.idx (.var 0) (.bin .add (.int 15) (.var 11))) (.cons (.idx (.var 0) (.bin .add (.int 18) (.var 11))) (.cons (.var 2) (.cons (.var 8) (.cons (.var 12) .nil)))))))
 (.cons (.asg (.nm 15) (.cal f__law_case_term (.cons (.idx (.var 0) (.bin .add (.int 21) (.var 11))) (.cons (.idx (.var 0) (.bin .add (.int 24) (.var 11))) (.cons (.var 13) (.cons (.var 2) (.cons (.var 8) (.cons (.var 12) .nil))))))))
 (.cons (.asg (.nm 16) (.idx (.bin .mul (.bin .add (.var 8) (.tup (.cons (.str (PySem.Str.ofString "")) .nil))) (.int 2)) (.bin .mod (.bin .fdiv (.blt .int false (.cons (.idx (.var 0) (.bin .add (.int 12) (.var 11))) .nil)) (.int 10)) (.bin .add (.bin .mul (.int 2) (.blt .len false (.cons (.var 8) .nil))) (.int 1)))))
 (.cons (.expr (.bme .append false (.var 10) (.cons (.tup (.cons (.idx (.var 9) (.var 11)) (.cons (.var 13) (.cons (.var 14) (.cons (.var 15) (.cons (.var 16) .nil)))))) .nil)))
 (.kill [11, 12, 13, 14, 15, 16] .nil))))))))
 (.kill [11, 12, 13, 14, 15, 16] (.cons (.ret (.tup (.cons (.tup (.cons (.cal f__law_known (.cons (.var 0) (.cons (.int 27) (.cons (.frz (.var 3)) (.cons (.var 7) .nil))))) (.cons (.var 8) (.cons (.blt .tuple false (.cons (.var 10) .nil)) .nil)))) (.cons (.var 7) .nil))))
 .nil))))))))))))
def fn__law_book : Fn := ⟨2, 17, ir__law_book⟩
def ir__law_filings : Ss :=
 (.cons (.asg (.nm 3) (.lst true .nil))
 (.cons (.for_ false (.nm 4) (.rng1 (.blt .len false (.cons (.var 2) .nil)))
 (.cons (.asg (.nm 5) (.blt .int false (.cons (.idx (.var 0) (.bin .add (.var 1) (.var 4))) .nil)))
 (.cons (.ife (.val (.cmp .gt (.bin .mod (.var 5) (.int 4)) (.int 0)))
 (.cons (.expr (.bme .append false (.var 3) (.cons (.tup (.cons (.idx (.var 2) (.var 4)) (.cons (.bin .sub (.bin .mod (.bin .fdiv (.var 5) (.int 4)) (.int 15)) (.int 5)) .nil))) .nil)))
 .nil)
 .nil)
 (.kill [4, 5] .nil))))
 (.kill [4, 5] (.cons (.ret (.blt .tuple false (.cons (.blt .sorted false (.cons (.var 3) .nil)) .nil)))
 .nil))))
def fn__law_filings : Fn := ⟨3, 6, ir__law_filings⟩
def ir__law_missing : Ss :=
 (.cons (.try_ (.cons (.expr (.cal f_history_of (.cons (.var 0) (.cons (.var 1) .nil))))
 .nil)
 (.cons [c_Missing] (some 3) (.cons (.ret (.and (.cmp .eq (.xat 3 (PySem.Str.ofString "name")) (.var 2)) (.and (.blt (.isx [c_DiesError]) false (.cons (.var 3) .nil)) (.not (.blt (.isx [c_NotAllowed]) false (.cons (.var 3) .nil))))))
 .nil)
 .nil))
 (.kill [3] (.cons (.ret (.bl false))
 .nil)))
def fn__law_missing : Fn := ⟨3, 4, ir__law_missing⟩
def ir__law_without : Ss :=
 (.cons (.ret (.blt .tuple false (.cons (.lc false (.nm 2) (.val (.var 0)) (.so (.val (.cmp .ne (.idx (.var 2) (.int 0)) (.var 1)))) (.var 2)) .nil)))
 .nil)
def fn__law_without : Fn := ⟨2, 3, ir__law_without⟩
def ir_law : Ss :=
 (.cons (.for_ true (.nm 1) (.rng1 (.blt .max2 false (.cons (.int 1) (.cons (.blt .min2 false (.cons (.blt .len false (.cons (.var 0) .nil)) (.cons (.int 8) .nil))) .nil))))
 (.cons (.asg (.nm 2) (.cal f__law_numbers (.cons (.cal f__law_cell (.cons (.var 0) (.cons (.var 1) .nil))) (.cons (.var 1) (.cons (.int 40) .nil)))))
 (.cons (.asg (.tp (.cons (.nm 3) (.cons (.nm 4) .nil))) (.cal f__law_book (.cons (.var 2) (.cons (.int 2) .nil))))
 (.cons (.asg (.nm 5) (.blt .sorted false (.cons (.lc false (.nm 16) (.val (.idx (.var 3) (.int 0))) .no (.idx (.var 16) (.int 0))) .nil)))
 (.cons (.asg (.nm 6) (.blt .tuple false (.cons (.lc false (.nm 17) (.val (.var 5)) .no (.tup (.cons (.var 17) (.cons (.cal f__law_stretches (.cons (.idx (.var 4) (.var 17)) .nil)) .nil)))) .nil)))
 (.cons (.asg (.nm 7) (.tup (.cons (.var 6) (.cons (.cal f__law_filings (.cons (.var 2) (.cons (.int 31) (.cons (.idx (.var 3) (.int 1)) .nil)))) .nil))))
 (.cons (.asg (.nm 8) (.dsp true .nil))
 (.cons (.for_ false (.tp (.cons (.nm 9) (.cons (.nm 10) .nil))) (.val (.idx (.var 7) (.int 1)))
 (.cons (.asg (.sub (.var 8) (.var 9)) (.var 10))
 (.kill [9, 10] .nil)))
 (.kill [9, 10] (.cons (.asg (.nm 11) (.tup (.cons (.var 6) (.cons (.blt .tuple false (.cons (.lc false (.nm 9) (.val (.blt .sorted false (.cons (.idx (.var 3) (.int 1)) .nil))) .no (.tup (.cons (.var 9) (.cons (.bme .get2 false (.var 8) (.cons (.var 9) (.cons (.int 0) .nil))) .nil)))) .nil)) (.cons (.blt .tuple false (.cons (.lc false (.nm 9) (.val (.blt .sorted false (.cons (.idx (.var 3) (.int 1)) .nil))) .no (.tup (.cons (.var 9) (.cons (.cmp .in_ (.var 9) (.var 8)) .nil)))) .nil)) .nil)))))
 (.cons (.asg (.nm 12) (.cal f_world_of (.cons (.var 3) (.cons (.var 7) .nil))))
 (.cons (.ife (.or (.val (.cmp .ne (.var 12) (.var 11))) (.val (.cmp .ne (.cal f_history_of (.cons (.var 3) (.cons (.var 12) .nil))) (.var 7))))
 (.cons (.ret (.bl false))
 .nil)
 .nil)
 (.cons (.asg (.nm 13) (.bin .add (.lc false (.nm 9) (.val (.idx (.var 3) (.int 1))) .no (.tup (.cons (.var 9) (.cons (.bme .get2 false (.var 8) (.cons (.var 9) (.cons (.bin .sub (.blt .int false (.cons (.idx (.var 2) (.int 35)) .nil)) (.int 500)) .nil))) .nil)))) (.lst false (.cons (.tup (.cons (.str (PySem.Str.ofString "later1")) (.cons (.int 7) .nil))) .nil))))
 (.cons (.asg (.nm 14) (.bin .add (.lc false (.nm 9) (.val (.idx (.var 3) (.int 1))) .no (.tup (.cons (.var 9) (.cons (.cmp .in_ (.var 9) (.var 8)) .nil)))) (.lst false (.cons (.tup (.cons (.str (PySem.Str.ofString "zz9")) (.cons (.bl true) .nil))) .nil))))
 (.cons (.asg (.nm 15) (.tup (.cons (.blt .tuple false (.cons (.blt .sorted false (.cons (.bin .add (.blt .list false (.cons (.var 6) .nil)) (.lst false (.cons (.tup (.cons (.str (PySem.Str.ofString "zz")) (.cons (.tup (.cons (.tup (.cons (.int 1) (.cons (.int 1) .nil))) .nil)) .nil))) .nil))) .nil)) .nil)) (.cons (.blt .tuple false (.cons (.blt .sorted false (.cons (.var 13) .nil)) .nil)) (.cons (.blt .tuple false (.cons (.blt .sorted false (.cons (.var 14) .nil)) .nil)) .nil)))))
 (.cons (.ife (.val (.cmp .ne (.cal f_history_of (.cons (.var 3) (.cons (.var 15) .nil))) (.var 7)))
 (.cons (.ret (.bl false))
 .nil)
 .nil)
 (.cons (.asg (.nm 9) (.idx (.idx (.var 3) (.int 1)) (.bin .mod (.blt .int false (.cons (.idx (.var 2) (.int 34)) .nil)) (.blt .len false (.cons (.idx (.var 3) (.int 1)) .nil)))))
 (.cons (.ife (.not (.val (.cal f__law_missing (.cons (.var 3) (.cons (.tup (.cons (.idx (.var 12) (.int 0)) (.cons (.cal f__law_without (.cons (.idx (.var 12) (.int 1)) (.cons (.var 9) .nil))) (.cons (.idx (.var 12) (.int 2)) .nil)))) (.cons (.var 9) .nil))))))
 (.cons (.ret (.bl false))
 .nil)
 .nil)
 (.cons (.ife (.not (.val (.cal f__law_missing (.cons (.var 3) (.cons (.tup (.cons (.idx (.var 12) (.int 0)) (.cons (.idx (.var 12) (.int 1)) (.cons (.cal f__law_without (.cons (.idx (.var 12) (.int 2)) (.cons (.var 9) .nil))) .nil)))) (.cons (.var 9) .nil))))))
 (.cons (.ret (.bl false))
 .nil)
 .nil)
 (.cons (.ife (.not (.val (.cal f__law_missing (.cons (.var 3) (.cons (.tup (.cons (.cal f__law_without (.cons (.idx (.var 12) (.int 0)) (.cons (.idx (.var 5) (.neg (.int 1))) .nil))) (.cons (.idx (.var 12) (.int 1)) (.cons (.idx (.var 12) (.int 2)) .nil)))) (.cons (.idx (.var 5) (.neg (.int 1))) .nil))))))
 (.cons (.ret (.bl false))
 .nil)
 .nil)
 (.kill [1, 2, 3, 4, 5, 6, 7, 8, 9, 10, 11, 12, 13, 14, 15] .nil)))))))))))))))))))))
 (.kill [1, 2, 3, 4, 5, 6, 7, 8, 9, 10, 11, 12, 13, 14, 15] (.cons (.ret (.bl true))
 .nil)))
def fn_law : Fn := ⟨1, 18, ir_law⟩
def T : Tbl := Tbl.of [fn_pairs_of, fn_found_in, fn_calendar_of, fn_day_of, fn_flag_of, fn_world_of, fn_history_of, fn__law_cell, fn__law_numbers, fn__law_names, fn__law_above, fn__law_rules, fn__law_closed, fn__law_stretches, fn__law_known, fn__law_case_term, fn__law_case_condition, fn__law_book, fn__law_filings, fn__law_missing, fn__law_without, fn_law] [] [] [] [(1, [0]), (2, [0])] [(2, (PySem.Str.ofString "name"))] [0, 1, 2]
theorem exk_DiesError : T.exk c_DiesError = .pl := rfl
theorem exk_NotAllowed : T.exk c_NotAllowed = .pl := rfl
theorem exk_Missing : T.exk c_Missing = .fld (PySem.Str.ofString "name") := rfl
theorem exn_DiesError (s : PySem.Str) : exnOf T c_DiesError [.d (.str s)] = some (.pl c_DiesError) := exn_pl exk_DiesError s
theorem exn_NotAllowed (s : PySem.Str) : exnOf T c_NotAllowed [.d (.str s)] = some (.pl c_NotAllowed) := exn_pl exk_NotAllowed s
theorem exn_Missing (s : PySem.Str) (h : s.length ≤ 1000000) : exnOf T c_Missing [.d (.str s)] = some (.fld c_Missing (PySem.Str.ofString "name") (.str s)) := exn_fldS exk_Missing _ h
theorem exnI_Missing (i : Int) (h : i.natAbs.log2 < 1920) : exnOf T c_Missing [.d (.int i)] = some (.fld c_Missing (PySem.Str.ofString "name") (.int i)) := exn_fldI exk_Missing _ h
theorem sub_c_DiesError_DiesError : T.sub c_DiesError c_DiesError = true := by decide +kernel
theorem sub_c_DiesError_Missing : T.sub c_DiesError c_Missing = false := by decide +kernel
theorem sub_c_DiesError_NotAllowed : T.sub c_DiesError c_NotAllowed = false := by decide +kernel
theorem sub_c_Missing_DiesError : T.sub c_Missing c_DiesError = true := by decide +kernel
theorem sub_c_Missing_Missing : T.sub c_Missing c_Missing = true := by decide +kernel
theorem sub_c_Missing_NotAllowed : T.sub c_Missing c_NotAllowed = false := by decide +kernel
theorem sub_c_NotAllowed_DiesError : T.sub c_NotAllowed c_DiesError = true := by decide +kernel
theorem sub_c_NotAllowed_Missing : T.sub c_NotAllowed c_Missing = false := by decide +kernel
theorem sub_c_NotAllowed_NotAllowed : T.sub c_NotAllowed c_NotAllowed = true := by decide +kernel
end Mp.L
end
section
set_option linter.all false
set_option maxRecDepth 100000
set_option maxHeartbeats 2000000
namespace Mp.L
open PySem
local macro_rules | `(tactic| walk_at "mp") => `(tactic| (simp -implicitDefEqProofs (disch := first | omega | with_reducible assumption | decide) only [Nat.reduceAdd, Nat.reduceSub, Nat.reduceMul, Nat.reduceLT, Nat.reduceLeDiff, Nat.reduceEqDiff, Nat.reduceBEq, Nat.reducePow, Nat.reduceGT, Int.reduceAdd, Int.reduceSub, Int.reduceMul, Int.reduceNeg, Int.reduceLT, Int.reduceLE, Int.reduceEq, Int.reducePow, Int.reduceToNat, Int.reduceMod, Int.reduceDiv, Int.cast_ofNat_Int, reduceCtorEq, Nat.reduceMod, Nat.reduceDiv, ite_self, bnd_ok, nox_ok, nox_bad, nox_ex, bnd_ex, bnd_bad, then_ok, then_ex, then_bad, opt_some, opt_none, tri_some, need_true, need_small, seq_nx, seq_rt, seq_bk, seq_ct, seq_ex, seq_bad, ite_fin, ite_ok, ite_d, ite_int, ite_bl, turn_nx, turn_ct, turn_bk, turn_rt, turn_ex, ite_turn, fin_nx, fin_rt, fin_ex, at_zero, at_succ, List.set_cons_zero, List.set_cons_succ, List.getElem?_cons_zero, List.getElem?_cons_succ, List.map_cons, List.map_nil, List.length_cons, List.length_nil, List.replicate, List.cons_append, List.append_nil, List.nil_append, Option.map_some, Option.map_none, List.filterMap_cons, List.filterMap_nil, truth_non, truth_bl, truth_int, truth_lst, truth_tup, cmp_lt, cmp_le, cmp_gt, cmp_ge, cmp_is0, cmp_isI, cmp_isT, cmp_isB, cmp_isn0, cmp_isnI, cmp_isnT, cmp_eqI, cmp_neI, cmp_eqB, cmp_neB, aug_add, aug_sub, bin_add, bin_sub, bin_mul, bin_fdiv, bin_mod, bin_pow, decide_eq_true_eq, Bool.decide_eq_true, if_true, if_false, Bool.not_true, Bool.not_false, Bool.not_eq_true', Bool.false_eq_true, reduceIte, Bool.and_eq_true, Bool.or_eq_true, Bool.not_not, decide_eq_false_iff_not, killS, List.foldl_cons, List.foldl_nil, Nat.sub_self, Nat.add_one_sub_one, decide_not, snap_d, snaps_d, snaps_f, freeze_d, ints_map, bools_map, snoc_d, app_d, snoc_i, belows_d, idx_lst, idx_tup, forL_nil0, forL_cons0, List.length_append, List.length_map, List.all_cons, List.all_nil, Bool.true_and, Bool.and_true, Bool.true_or, Bool.or_true, Bool.false_or, Bool.or_false, run1_succ, Option.isNone_none, List.lookup_nil, List.lookup_cons, decide_true, decide_false, not_true_eq_false, not_false_eq_true, List.isEmpty_cons, List.isEmpty_nil, List.any_cons, List.any_nil, exS_for, exS_whl, exS_try, ev_lc, ev_lcE, ev_lcc, ev_dc, pairUp, id_eq, tgSlots, tgsSlots, tgsLen, beq_self_eq_true, ev_non, ev_bl, ev_int, ev_str, ev_var, ev_frz, ev_glb, ev_fnv, ev_bin, ev_binL, ev_neg, ev_not, ev_and, ev_or, ev_cmp, ev_chn, ev_ife, ev_idx, ev_slc, ev_bck, ev_att, ev_tup, ev_lst, ev_dsp, ev_cal, ev_cai, ev_cac, ev_cav, ev_sup, ev_met, ev_mk, ev_blt, ev_bme, ev_lam, ev_fst, ev_xat, evt_and, evt_or, evt_not, evt_ife, evt_val, evs_nil, evs_cons, evs_star, evo_no, evo_so, evc_no, evc_so, evi_val, evi_rng1, evi_rng2, evi_rng3, evi_enm, evi_enmFrom, evi_zip, evi_rev, evi_keys, evi_vals, evi_itms, asg_nm, asg_tp, asg_sub, asg_slc, asg_att, asgs_nil, asgs_cons, exS_asg, exS_asg2, exS_aug, exS_augL, exS_expr, exS_ret, exS_retN, exS_ifq, ifq_t, ifq_f, ifq_ex, exS_raise, exS_raiseH, exS_pass, exS_brk, exS_cont, exS_ndef, exSs_nil, exSs_consq, sq_nx, sq_rt, sq_bk, sq_ct, sq_ex, exSs_kill, exHs_nil, exHs_cons, mapO_nil, mapO_cons, items_lst, items_tup, items_ref, pairs_dct, pairs_ref, isL_lst, isL_tup, isL_int, isL_ref, isDct_lst, isDct_tup, isDct_dct, isDct_str, isDct_ref, isDctO_ref, sameRef_d, ev_frzD, isD_d, isD_ref, flat_int, flat_bl, flat_non, flat_str, itemsD_def, swS_str, swS_ref, swS_lst, swS_tup, idx_dct, fpairs_d, items_dct, lookD_nil, lookD_cons, seqWalk_ref, seqWalk_lst, seqWalk_tup, truth_ref, truth_str, newL_true, newL_false, newD_true, newD_false, tupV_def, attV_ref, attV_obj, setAtt_ref, bme_append, bmt_append, bmt_extend, bmt_pop0, bmt_popAt, bmt_insert, bmt_remove, bmt_index, bmt_reverse, bmt_get1, bmt_get2, bmt_setdefault, bmt_update, bme_extend, bme_pop0, bme_get1, bme_get2, bme_setdefault, bme_update, len_lst, len_tup, len_str, len_ref, abs_int, int_int, int_bl, tuple_of, sum_of, min1_of, max1_of, maxd_of, min2_int, max2_int, all_of, any_of, isi_of, isx_of', clr_nil, clr_none, clr_d, clr_ref, clr_exn, clr_clo, rclr_rt, rclr_nx, rclr_bk, rclr_ct, rclr_ex, ite_clr, nos_ok, nos_rt, nos_bk, nos_ct, ite_nos, list_none, list_of, sorted_none, sorted_of, tyOf_non, tyOf_bl, tyOf_int, tyOf_str, tyOf_lst, tyOf_tup, tyOf_ref, cls_pl, cls_fld, isTy_bl_int, isTy_bl_bl, isTy_int_int, isTy_int_bl, isTy_non_int, isTy_non_bl, isTy_tup_int, isTy_tup_tup, isTy_lst_lst, isTy_str_str, pureCall_def, metF_ref, mkCall_def, simple_d, simple_ref, simple_map, setF_nil, setF_cons, add_ll, add_tt, add_ss, add_rl, add_lr, lstop_add, lstop_mul, mul_li, gc_f, gc_t, fq_nx, fq_rt, lq_nx, lq_ct, lq_bk, lq_rt, lq_ex, ite_and_dec, ite_or_dec, atI_ints, atI_mod, Int.toNat_natCast, Int.zero_add, Nat.zero_add, Nat.add_zero, bkQ_def, sqQ_in, sqQ_nx, sqQ_bk, sqQ_ct, sqQ_rt, sqQ_ex, cutG_map, cutG_take, List.length_take, take_d, take_i, drop_d, drop_i, frz_lst, gh_top, gh_get, gh_set, cmp_isO, cmp_isnO, optD_some, optD_none, rowD_len, rowD_at, grid_at, Option.isNone_some, Option.isSome_some, Option.isSome_none, List.getElem?_concat_length, preH_len, gridH_len, preH_at, bfH_len, css_len, small_ok2, Nat.one_mul, flat_rep, rep_simple, atI_0, atI_1, atI_2, cmp_isLow, at_v3, ints_mapf, vals_at, vals_len, lits_at, lits_before, bools_mapf, len_grid, rev_l, cmp_ne_grid, List.length_reverse, cmp_isnB, eq_self, tryR_ex, tryR_ok, cmp_ne_st, cmp_eq_st, bme_insert, bf_val, bf_setV, bf_setC, css_at, idx_last, tyOf_optD, isTy_ite, small_ok, List.length_replicate, List.length_range, true_and, and_true, false_or, or_false, true_or, or_true, and_false, false_and, idx_grid, walk_grid, swS_grid, zip_rows, exn_DiesError, exn_NotAllowed, exn_Missing, exnI_Missing, sub_c_DiesError_DiesError, sub_c_DiesError_Missing, sub_c_DiesError_NotAllowed, sub_c_Missing_DiesError, sub_c_Missing_Missing, sub_c_Missing_NotAllowed, sub_c_NotAllowed_DiesError, sub_c_NotAllowed_Missing, sub_c_NotAllowed_NotAllowed]))
local macro_rules | `(tactic| walk_at "mps") => `(tactic| (simp -implicitDefEqProofs (disch := first | omega | with_reducible assumption | decide | (simp only [List.length_set, List.length_append, List.length_cons, List.length_nil, List.length_map, List.length_range]; omega)) only [Nat.reduceAdd, Nat.reduceSub, Nat.reduceMul, Nat.reduceLT, Nat.reduceLeDiff, Nat.reduceEqDiff, Nat.reduceBEq, Nat.reducePow, Nat.reduceGT, Int.reduceAdd, Int.reduceSub, Int.reduceMul, Int.reduceNeg, Int.reduceLT, Int.reduceLE, Int.reduceEq, Int.reducePow, Int.reduceToNat, Int.reduceMod, Int.reduceDiv, Int.cast_ofNat_Int, reduceCtorEq, Nat.reduceMod, Nat.reduceDiv, ite_self, bnd_ok, nox_ok, nox_bad, nox_ex, bnd_ex, bnd_bad, then_ok, then_ex, then_bad, opt_some, opt_none, tri_some, need_true, need_small, seq_nx, seq_rt, seq_bk, seq_ct, seq_ex, seq_bad, ite_fin, ite_ok, ite_d, ite_int, ite_bl, turn_nx, turn_ct, turn_bk, turn_rt, turn_ex, ite_turn, fin_nx, fin_rt, fin_ex, at_zero, at_succ, List.set_cons_zero, List.set_cons_succ, List.getElem?_cons_zero, List.getElem?_cons_succ, List.map_cons, List.map_nil, List.length_cons, List.length_nil, List.replicate, List.cons_append, List.append_nil, List.nil_append, Option.map_some, Option.map_none, List.filterMap_cons, List.filterMap_nil, truth_non, truth_bl, truth_int, truth_lst, truth_tup, cmp_lt, cmp_le, cmp_gt, cmp_ge, cmp_is0, cmp_isI, cmp_isT, cmp_isB, cmp_isn0, cmp_isnI, cmp_isnT, cmp_eqI, cmp_neI, cmp_eqB, cmp_neB, aug_add, aug_sub, bin_add, bin_sub, bin_mul, bin_fdiv, bin_mod, bin_pow, decide_eq_true_eq, Bool.decide_eq_true, if_true, if_false, Bool.not_true, Bool.not_false, Bool.not_eq_true', Bool.false_eq_true, reduceIte, Bool.and_eq_true, Bool.or_eq_true, Bool.not_not, decide_eq_false_iff_not, killS, List.foldl_cons, List.foldl_nil, Nat.sub_self, Nat.add_one_sub_one, decide_not, snap_d, snaps_d, snaps_f, freeze_d, ints_map, bools_map, snoc_d, app_d, snoc_i, belows_d, idx_lst, idx_tup, forL_nil0, forL_cons0, List.length_append, List.length_map, List.all_cons, List.all_nil, Bool.true_and, Bool.and_true, Bool.true_or, Bool.or_true, Bool.false_or, Bool.or_false, run1_succ, Option.isNone_none, List.lookup_nil, List.lookup_cons, decide_true, decide_false, not_true_eq_false, not_false_eq_true, List.isEmpty_cons, List.isEmpty_nil, List.any_cons, List.any_nil, exS_for, exS_whl, exS_try, ev_lc, ev_lcE, ev_lcc, ev_dc, pairUp, id_eq, tgSlots, tgsSlots, tgsLen, beq_self_eq_true, ev_non, ev_bl, ev_int, ev_str, ev_var, ev_frz, ev_glb, ev_fnv, ev_bin, ev_binL, ev_neg, ev_not, ev_and, ev_or, ev_cmp, ev_chn, ev_ife, ev_idx, ev_slc, ev_bck, ev_att, ev_tup, ev_lst, ev_dsp, ev_cal, ev_cai, ev_cac, ev_cav, ev_sup, ev_met, ev_mk, ev_blt, ev_bme, ev_lam, ev_fst, ev_xat, evt_and, evt_or, evt_not, evt_ife, evt_val, evs_nil, evs_cons, evs_star, evo_no, evo_so, evc_no, evc_so, evi_val, evi_rng1, evi_rng2, evi_rng3, evi_enm, evi_enmFrom, evi_zip, evi_rev, evi_keys, evi_vals, evi_itms, asg_nm, asg_tp, asg_sub, asg_slc, asg_att, asgs_nil, asgs_cons, exS_asg, exS_asg2, exS_aug, exS_augL, exS_expr, exS_ret, exS_retN, exS_ifq, ifq_t, ifq_f, ifq_ex, exS_raise, exS_raiseH, exS_pass, exS_brk, exS_cont, exS_ndef, exSs_nil, exSs_consq, sq_nx, sq_rt, sq_bk, sq_ct, sq_ex, exSs_kill, exHs_nil, exHs_cons, mapO_nil, mapO_cons, items_lst, items_tup, items_ref, pairs_dct, pairs_ref, isL_lst, isL_tup, isL_int, isL_ref, isDct_lst, isDct_tup, isDct_dct, isDct_str, isDct_ref, isDctO_ref, sameRef_d, ev_frzD, isD_d, isD_ref, flat_int, flat_bl, flat_non, flat_str, itemsD_def, swS_str, swS_ref, swS_lst, swS_tup, idx_dct, fpairs_d, items_dct, lookD_nil, lookD_cons, seqWalk_ref, seqWalk_lst, seqWalk_tup, truth_ref, truth_str, newL_true, newL_false, newD_true, newD_false, tupV_def, attV_ref, attV_obj, setAtt_ref, bme_append, bmt_append, bmt_extend, bmt_pop0, bmt_popAt, bmt_insert, bmt_remove, bmt_index, bmt_reverse, bmt_get1, bmt_get2, bmt_setdefault, bmt_update, bme_extend, bme_pop0, bme_get1, bme_get2, bme_setdefault, bme_update, len_lst, len_tup, len_str, len_ref, abs_int, int_int, int_bl, tuple_of, sum_of, min1_of, max1_of, maxd_of, min2_int, max2_int, all_of, any_of, isi_of, isx_of', clr_nil, clr_none, clr_d, clr_ref, clr_exn, clr_clo, rclr_rt, rclr_nx, rclr_bk, rclr_ct, rclr_ex, ite_clr, nos_ok, nos_rt, nos_bk, nos_ct, ite_nos, list_none, list_of, sorted_none, sorted_of, tyOf_non, tyOf_bl, tyOf_int, tyOf_str, tyOf_lst, tyOf_tup, tyOf_ref, cls_pl, cls_fld, isTy_bl_int, isTy_bl_bl, isTy_int_int, isTy_int_bl, isTy_non_int, isTy_non_bl, isTy_tup_int, isTy_tup_tup, isTy_lst_lst, isTy_str_str, pureCall_def, metF_ref, mkCall_def, simple_d, simple_ref, simple_map, setF_nil, setF_cons, add_ll, add_tt, add_ss, add_rl, add_lr, lstop_add, lstop_mul, mul_li, gc_f, gc_t, fq_nx, fq_rt, lq_nx, lq_ct, lq_bk, lq_rt, lq_ex, ite_and_dec, ite_or_dec, atI_ints, atI_mod, Int.toNat_natCast, Int.zero_add, Nat.zero_add, Nat.add_zero, bkQ_def, sqQ_in, sqQ_nx, sqQ_bk, sqQ_ct, sqQ_rt, sqQ_ex, cutG_map, cutG_take, List.length_take, take_d, take_i, drop_d, drop_i, frz_lst, gh_top, gh_get, gh_set, cmp_isO, cmp_isnO, optD_some, optD_none, rowD_len, rowD_at, grid_at, Option.isNone_some, Option.isSome_some, Option.isSome_none, List.getElem?_concat_length, preH_len, gridH_len, preH_at, bfH_len, css_len, small_ok2, Nat.one_mul, flat_rep, rep_simple, atI_0, atI_1, atI_2, cmp_isLow, at_v3, ints_mapf, vals_at, vals_len, lits_at, lits_before, bools_mapf, len_grid, rev_l, cmp_ne_grid, List.length_reverse, cmp_isnB, eq_self, tryR_ex, tryR_ok, cmp_ne_st, cmp_eq_st, bme_insert, bf_val, bf_setV, bf_setC, css_at, idx_last, tyOf_optD, isTy_ite, small_ok, List.length_replicate, List.length_range, true_and, and_true, false_or, or_false, true_or, or_true, and_false, false_and, idx_grid, walk_grid, swS_grid, zip_rows, exn_DiesError, exn_NotAllowed, exn_Missing, exnI_Missing, sub_c_DiesError_DiesError, sub_c_DiesError_Missing, sub_c_DiesError_NotAllowed, sub_c_Missing_DiesError, sub_c_Missing_Missing, sub_c_Missing_NotAllowed, sub_c_NotAllowed_DiesError, sub_c_NotAllowed_Missing, sub_c_NotAllowed_NotAllowed, List.getElem?_set_self, List.getElem?_set_ne, List.getElem?_append_left, List.set_append_left, List.set_set, set_last, List.length_set, *]))
local macro_rules | `(tactic| walk_at "mpa") => `(tactic| (simp -implicitDefEqProofs (disch := first | omega | with_reducible assumption | decide | (simp only [List.length_set, List.length_append, List.length_cons, List.length_nil, List.length_map, List.length_range]; omega)) only [Nat.reduceAdd, Nat.reduceSub, Nat.reduceMul, Nat.reduceLT, Nat.reduceLeDiff, Nat.reduceEqDiff, Nat.reduceBEq, Nat.reducePow, Nat.reduceGT, Int.reduceAdd, Int.reduceSub, Int.reduceMul, Int.reduceNeg, Int.reduceLT, Int.reduceLE, Int.reduceEq, Int.reducePow, Int.reduceToNat, Int.reduceMod, Int.reduceDiv, Int.cast_ofNat_Int, reduceCtorEq, Nat.reduceMod, Nat.reduceDiv, ite_self, bnd_ok, nox_ok, nox_bad, nox_ex, bnd_ex, bnd_bad, then_ok, then_ex, then_bad, opt_some, opt_none, tri_some, need_true, need_small, seq_nx, seq_rt, seq_bk, seq_ct, seq_ex, seq_bad, ite_fin, ite_ok, ite_d, ite_int, ite_bl, turn_nx, turn_ct, turn_bk, turn_rt, turn_ex, ite_turn, fin_nx, fin_rt, fin_ex, at_zero, at_succ, List.set_cons_zero, List.set_cons_succ, List.getElem?_cons_zero, List.getElem?_cons_succ, List.map_cons, List.map_nil, List.length_cons, List.length_nil, List.replicate, List.cons_append, List.append_nil, List.nil_append, Option.map_some, Option.map_none, List.filterMap_cons, List.filterMap_nil, truth_non, truth_bl, truth_int, truth_lst, truth_tup, cmp_lt, cmp_le, cmp_gt, cmp_ge, cmp_is0, cmp_isI, cmp_isT, cmp_isB, cmp_isn0, cmp_isnI, cmp_isnT, cmp_eqI, cmp_neI, cmp_eqB, cmp_neB, aug_add, aug_sub, bin_add, bin_sub, bin_mul, bin_fdiv, bin_mod, bin_pow, decide_eq_true_eq, Bool.decide_eq_true, if_true, if_false, Bool.not_true, Bool.not_false, Bool.not_eq_true', Bool.false_eq_true, reduceIte, Bool.and_eq_true, Bool.or_eq_true, Bool.not_not, decide_eq_false_iff_not, killS, List.foldl_cons, List.foldl_nil, Nat.sub_self, Nat.add_one_sub_one, decide_not, snap_d, snaps_d, snaps_f, freeze_d, ints_map, bools_map, snoc_d, app_d, snoc_i, belows_d, idx_lst, idx_tup, forL_nil0, forL_cons0, List.length_append, List.length_map, List.all_cons, List.all_nil, Bool.true_and, Bool.and_true, Bool.true_or, Bool.or_true, Bool.false_or, Bool.or_false, run1_succ, Option.isNone_none, List.lookup_nil, List.lookup_cons, decide_true, decide_false, not_true_eq_false, not_false_eq_true, List.isEmpty_cons, List.isEmpty_nil, List.any_cons, List.any_nil, exS_for, exS_whl, exS_try, ev_lc, ev_lcE, ev_lcc, ev_dc, pairUp, id_eq, tgSlots, tgsSlots, tgsLen, beq_self_eq_true, ev_non, ev_bl, ev_int, ev_str, ev_var, ev_frz, ev_glb, ev_fnv, ev_bin, ev_binL, ev_neg, ev_not, ev_and, ev_or, ev_cmp, ev_chn, ev_ife, ev_idx, ev_slc, ev_bck, ev_att, ev_tup, ev_lst, ev_dsp, ev_cal, ev_cai, ev_cac, ev_cav, ev_sup, ev_met, ev_mk, ev_blt, ev_bme, ev_lam, ev_fst, ev_xat, evt_and, evt_or, evt_not, evt_ife, evt_val, evs_nil, evs_cons, evs_star, evo_no, evo_so, evc_no, evc_so, evi_val, evi_rng1, evi_rng2, evi_rng3, evi_enm, evi_enmFrom, evi_zip, evi_rev, evi_keys, evi_vals, evi_itms, asg_nm, asg_tp, asg_sub, asg_slc, asg_att, asgs_nil, asgs_cons, exS_asg, exS_asg2, exS_aug, exS_augL, exS_expr, exS_ret, exS_retN, exS_ifq, ifq_t, ifq_f, ifq_ex, exS_raise, exS_raiseH, exS_pass, exS_brk, exS_cont, exS_ndef, exSs_nil, exSs_consq, sq_nx, sq_rt, sq_bk, sq_ct, sq_ex, exSs_kill, exHs_nil, exHs_cons, mapO_nil, mapO_cons, items_lst, items_tup, items_ref, pairs_dct, pairs_ref, isL_lst, isL_tup, isL_int, isL_ref, isDct_lst, isDct_tup, isDct_dct, isDct_str, isDct_ref, isDctO_ref, sameRef_d, ev_frzD, isD_d, isD_ref, flat_int, flat_bl, flat_non, flat_str, itemsD_def, swS_str, swS_ref, swS_lst, swS_tup, idx_dct, fpairs_d, items_dct, lookD_nil, lookD_cons, seqWalk_ref, seqWalk_lst, seqWalk_tup, truth_ref, truth_str, newL_true, newL_false, newD_true, newD_false, tupV_def, attV_ref, attV_obj, setAtt_ref, bme_append, bmt_append, bmt_extend, bmt_pop0, bmt_popAt, bmt_insert, bmt_remove, bmt_index, bmt_reverse, bmt_get1, bmt_get2, bmt_setdefault, bmt_update, bme_extend, bme_pop0, bme_get1, bme_get2, bme_setdefault, bme_update, len_lst, len_tup, len_str, len_ref, abs_int, int_int, int_bl, tuple_of, sum_of, min1_of, max1_of, maxd_of, min2_int, max2_int, all_of, any_of, isi_of, isx_of', clr_nil, clr_none, clr_d, clr_ref, clr_exn, clr_clo, rclr_rt, rclr_nx, rclr_bk, rclr_ct, rclr_ex, ite_clr, nos_ok, nos_rt, nos_bk, nos_ct, ite_nos, list_none, list_of, sorted_none, sorted_of, tyOf_non, tyOf_bl, tyOf_int, tyOf_str, tyOf_lst, tyOf_tup, tyOf_ref, cls_pl, cls_fld, isTy_bl_int, isTy_bl_bl, isTy_int_int, isTy_int_bl, isTy_non_int, isTy_non_bl, isTy_tup_int, isTy_tup_tup, isTy_lst_lst, isTy_str_str, pureCall_def, metF_ref, mkCall_def, simple_d, simple_ref, simple_map, setF_nil, setF_cons, add_ll, add_tt, add_ss, add_rl, add_lr, lstop_add, lstop_mul, mul_li, gc_f, gc_t, fq_nx, fq_rt, lq_nx, lq_ct, lq_bk, lq_rt, lq_ex, ite_and_dec, ite_or_dec, atI_ints, atI_mod, Int.toNat_natCast, Int.zero_add, Nat.zero_add, Nat.add_zero, bkQ_def, sqQ_in, sqQ_nx, sqQ_bk, sqQ_ct, sqQ_rt, sqQ_ex, cutG_map, cutG_take, List.length_take, take_d, take_i, drop_d, drop_i, frz_lst, gh_top, gh_get, gh_set, cmp_isO, cmp_isnO, optD_some, optD_none, rowD_len, rowD_at, grid_at, Option.isNone_some, Option.isSome_some, Option.isSome_none, preH_len, gridH_len, preH_at, bfH_len, css_len, small_ok2, Nat.one_mul, flat_rep, rep_simple, atI_0, atI_1, atI_2, cmp_isLow, at_v3, ints_mapf, vals_at, vals_len, lits_at, lits_before, bools_mapf, len_grid, rev_l, cmp_ne_grid, List.length_reverse, cmp_isnB, eq_self, tryR_ex, tryR_ok, cmp_ne_st, cmp_eq_st, bme_insert, bf_val, bf_setV, bf_setC, css_at, idx_last, tyOf_optD, isTy_ite, small_ok, List.length_replicate, List.length_range, true_and, and_true, false_or, or_false, true_or, or_true, and_false, false_and, idx_grid, walk_grid, swS_grid, zip_rows, exn_DiesError, exn_NotAllowed, exn_Missing, exnI_Missing, sub_c_DiesError_DiesError, sub_c_DiesError_Missing, sub_c_DiesError_NotAllowed, sub_c_Missing_DiesError, sub_c_Missing_Missing, sub_c_Missing_NotAllowed, sub_c_NotAllowed_DiesError, sub_c_NotAllowed_Missing, sub_c_NotAllowed_NotAllowed, List.getElem?_set_self, List.getElem?_set_ne, List.getElem?_append_left, List.set_append_left, List.set_set, List.length_set, List.append_assoc, app_at0, app_at1, app_at2, app_set0, app_set1, app_set2, *]))
/-- thousandths -/
def Ns (m : Nat) (rs : List Int) : Prop := rs.length = m ∧ ∀ r ∈ rs, 0 ≤ r ∧ r < 1000
theorem Ns.snoc {m : Nat} {rs : List Int} (h : Ns m rs) {x : Int} (hx : 0 ≤ x ∧ x < 1000) : Ns (m + 1) (rs ++ [x]) := ⟨by rw [List.length_append, h.1]; rfl, fun r hr => (List.mem_append.mp hr).elim (h.2 r) fun z => by rw [List.mem_singleton.mp z]; exact hx⟩
theorem Ns.at {m : Nat} {rs : List Int} (h : Ns m rs) (i : Int) (h0 : 0 ≤ i) (h1 : i < m) : ∃ x : Int, (0 ≤ x ∧ x < 1000) ∧ atI (rs.map D.int) i = some (.int x) := by
  have hl : i.toNat < rs.length := by rw [h.1]; omega
  refine ⟨rs.getD i.toNat 0, ?_, atI_ints h0 (by rw [h.1]; exact h1)⟩
  rw [List.getD_eq_getElem?_getD, List.getElem?_eq_getElem hl]
  exact h.2 _ (List.getElem_mem _)
theorem mod1000 (x : Int) : 0 ≤ x % 1000 ∧ x % 1000 < 1000 := ⟨Int.emod_nonneg _ (by omega), Int.emod_lt_of_pos _ (by omega)⟩
theorem ok__law_numbers (k : Nat) (c : Int) (j : Nat) (hj : j ≤ 100) (m : Nat) (hm : m ≤ 1000) : Wv (run T (k + 1) f__law_numbers [.d (.int c), .d (.int j), .d (.int m)] []) fun v _ => ∃ rs : List Int, Ns m rs ∧ v = .d (.lst (rs.map D.int)) := by
  refine w_run (fn := fn__law_numbers) rfl rfl ?_
  simp only [fn__law_numbers, ir__law_numbers]
  walk_at "mp"
  refine w_if ?_ ?_ <;> intro h0
  · walk_at "mp"
    refine w_forR (fun i δ μ => ∃ (rs : List Int) (x : Int), Sx (Ns i rs) δ [some (.d (.int c)), some (.d (.int j)), some (.d (.int m)), some (.ref 0), some (.d (.int x)), none, none, none] μ [.lst ((rs.map D.int).map .d)]) ⟨[], _, ⟨rfl, fun _ z => nomatch z⟩, rfl, rfl⟩ ?_ ?_
    · rintro i _ _ hi ⟨rs, x, hr, rfl, rfl⟩
      have hl := hr.1
      simp only [stepF]
      walk_at "mp"
      exact ⟨_, _, hr.snoc (mod1000 _), rfl, rfl⟩
    · rintro _ _ ⟨rs, x, hr, rfl, rfl⟩
      walk_at "mp"
      exact ⟨_, hr, rfl⟩
  · walk_at "mp"
    refine w_forR (fun i δ μ => ∃ (rs : List Int) (x : Int), Sx (Ns i rs ∧ 0 ≤ x ∧ x < 2147483647) δ [some (.d (.int c)), some (.d (.int j)), some (.d (.int m)), some (.ref 0), none, none, some (.d (.int x)), none] μ [.lst ((rs.map D.int).map .d)]) ⟨[], _, ⟨⟨rfl, fun _ z => nomatch z⟩, Int.emod_nonneg _ (by omega), Int.emod_lt_of_pos _ (by omega)⟩, rfl, rfl⟩ ?_ ?_
    · rintro i _ _ hi ⟨rs, x, ⟨hr, hx⟩, rfl, rfl⟩
      have hl := hr.1
      simp only [stepF]
      walk_at "mp"
      exact ⟨_, _, ⟨hr.snoc (mod1000 _), Int.emod_nonneg _ (by omega), Int.emod_lt_of_pos _ (by omega)⟩, rfl, rfl⟩
    · rintro _ _ ⟨rs, x, ⟨hr, hx⟩, rfl, rfl⟩
      walk_at "mp"
      exact ⟨_, hr, rfl⟩
theorem ok__law_cell (k : Nat) (ns : List Int) (j : Nat) : ∃ c, run T (k + 1) f__law_cell [.d (.lst (ns.map D.int)), .d (.int j)] [] = .ok (.d (.int c)) [] := by
  have : Wv (run T (k + 1) f__law_cell [.d (.lst (ns.map D.int)), .d (.int j)] []) fun v μ => μ = [] ∧ ∃ c, v = .d (.int c) := by
    refine w_run (fn := fn__law_cell) rfl rfl ?_
    simp only [fn__law_cell, ir__law_cell]
    walk_at "mp"
    refine w_if (fun h => ?_) fun h => ?_
    · have := atI_ints (ns := ns) (i := (j : Int)) (by omega) (by omega)
      walk_at "mp"
      exact ⟨_, rfl⟩
    · walk_at "mp"
      exact ⟨_, rfl⟩
  obtain ⟨_, _, e, rfl, c, rfl⟩ := this
  exact ⟨c, e⟩
abbrev es : PySem.Str := PySem.Str.ofString ""
def rl1 (a : PySem.Str) (x : Int) : List D := [.tup [.str a, .int x, .str es]]
def wiT (a : PySem.Str) (w : Bool) : PySem.Str := if w = true then a else es
def rl2 (a b : PySem.Str) (x y : Int) (w : Bool) : List D := [.tup [.str a, .int x, .str es], .tup [.str b, .int y, .str (wiT a w)]]
/-- calendar rules of one or two calendars -/
inductive RL : List PySem.Str → List D → Prop
  | one (a x) : RL [a] (rl1 a x)
  | two (a b x y w) : RL [a, b] (rl2 a b x y w)
theorem at6 {x : Int} (h : 0 ≤ x ∧ x < 6) : ∃ y : Int, atI [D.int 0, D.int 0, D.int 1, D.int 2, D.int 3, D.int 4] x = some (.int y) := by
  have : x = 0 ∨ x = 1 ∨ x = 2 ∨ x = 3 ∨ x = 4 ∨ x = 5 := by omega
  rcases this with rfl | rfl | rfl | rfl | rfl | rfl <;> exact ⟨_, rfl⟩
theorem ok__law_rules1 (k : Nat) {rs : List Int} (h : Ns 40 rs) (a : PySem.Str) : Wv (run T (k + 1) f__law_rules [.d (.lst (rs.map D.int)), .d (.int 2), .d (.tup ([a].map D.str)), .d (.int 1)] []) fun v _ => ∃ x, v = .d (.lst (rl1 a x)) := by
  refine w_run (fn := fn__law_rules) rfl rfl ?_
  simp only [fn__law_rules, ir__law_rules]
  walk_at "mp"
  refine w_forR (fun i δ μ => ∃ l : List D, Sx (i = 0 ∧ l = [] ∨ i = 1 ∧ ∃ x, l = rl1 a x) δ [some (.d (.lst (rs.map D.int))), some (.d (.int 2)), some (.d (.tup [D.str a])), some (.d (.int 1)), some (.ref 0), none, none, none, none] μ [.lst (l.map .d)]) ⟨[], .inl ⟨rfl, rfl⟩, rfl, rfl⟩ ?_ ?_
  · rintro i _ _ hi ⟨l, hl, rfl, rfl⟩
    have : i = 0 := by omega
    subst this
    obtain ⟨z, hz, ez⟩ := h.at 2 (by omega) (by omega)
    obtain ⟨y, ey⟩ := at6 (x := z % 6) ⟨Int.emod_nonneg _ (by omega), Int.emod_lt_of_pos _ (by omega)⟩
    rcases hl with ⟨-, rfl⟩ | ⟨h, _⟩
    rotate_left
    · omega
    simp only [stepF]
    walk_at "mp"
    simp only [ez]
    walk_at "mp"
    simp only [ey, show ((0 : Nat) : Int) = 0 from rfl]
    walk_at "mp"
    exact ⟨_, ⟨_, rfl⟩, rfl, rfl⟩
  · rintro _ _ ⟨l, hl, rfl, rfl⟩
    rcases hl with ⟨h, _⟩ | ⟨-, x, rfl⟩
    · omega
    walk_at "mp"
    exact ⟨x, by simp only [rl1, List.map_cons, List.map_nil, snaps_d]⟩
theorem ok__law_rules2 (k : Nat) {rs : List Int} (h : Ns 40 rs) (a b : PySem.Str) : Wv (run T (k + 1) f__law_rules [.d (.lst (rs.map D.int)), .d (.int 2), .d (.tup ([a, b].map D.str)), .d (.int 2)] []) fun v _ => ∃ x y w, v = .d (.lst (rl2 a b x y w)) := by
  refine w_run (fn := fn__law_rules) rfl rfl ?_
  simp only [fn__law_rules, ir__law_rules]
  walk_at "mp"
  refine w_forR (fun i δ μ => ∃ l : List D, Sx (i = 0 ∧ l = [] ∨ i = 1 ∧ (∃ x, l = rl1 a x) ∨ i = 2 ∧ ∃ x y w, l = rl2 a b x y w) δ [some (.d (.lst (rs.map D.int))), some (.d (.int 2)), some (.d (.tup [D.str a, D.str b])), some (.d (.int 2)), some (.ref 0), none, none, none, none] μ [.lst (l.map .d)]) ⟨[], .inl ⟨rfl, rfl⟩, rfl, rfl⟩ ?_ ?_
  · rintro i _ _ hi ⟨l, hl, rfl, rfl⟩
    obtain ⟨z, hz, ez⟩ := h.at (2 + (i : Int)) (by omega) (by omega)
    obtain ⟨y, ey⟩ := at6 (x := z % 6) ⟨Int.emod_nonneg _ (by omega), Int.emod_lt_of_pos _ (by omega)⟩
    rcases hl with ⟨rfl, rfl⟩ | ⟨rfl, x, rfl⟩ | ⟨h, _⟩
    rotate_left 2
    · omega
    · simp only [show ((0 : Nat) : Int) = 0 from rfl] at ez
      simp only [stepF]
      walk_at "mp"
      simp only [Int.add_zero] at ez
      simp only [show ((0 : Nat) : Int) = 0 from rfl, Int.add_zero, ez]
      walk_at "mp"
      simp only [ey]
      walk_at "mp"
      exact ⟨_, ⟨_, rfl⟩, rfl, rfl⟩
    · have e1 : ∀ q : Int, q % 1 = 0 := fun q => by omega
      have ez : atI (rs.map D.int) 3 = some (.int z) := ez
      simp only [stepF]
      walk_at "mp"
      simp only [ez]
      walk_at "mp"
      refine w_ifm (fun δ μ => ∃ w, Sx True δ [some (.d (.lst (rs.map D.int))), some (.d (.int 2)), some (.d (.tup [D.str a, D.str b])), some (.d (.int 2)), some (.ref 0), some (.d (.int 1)), some (.d (.int z)), some (.d (.str (wiT a w))), none] μ [.lst ((rl1 a x).map .d)]) (fun hc => ?_) (fun hc => ?_) ?_
      · walk_at "mp"
        simp only [Int.emod_one]
        walk_at "mp"
        exact ⟨_, _, rfl, true, trivial, rfl, rfl⟩
      · walk_at "mp"
        exact ⟨_, _, rfl, false, trivial, rfl, rfl⟩
      rintro _ _ ⟨w, -, rfl, rfl⟩
      walk_at "mp"
      simp only [ey, rl1]
      walk_at "mp"
      exact ⟨_, ⟨x, y, w, rfl⟩, rfl, rfl⟩
  · rintro _ _ ⟨l, hl, rfl, rfl⟩
    rcases hl with ⟨h, _⟩ | ⟨h, _⟩ | ⟨-, x, y, w, rfl⟩
    · omega
    · omega
    walk_at "mp"
    exact ⟨x, y, w, by simp only [rl2, List.map_cons, List.map_nil, snaps_d]⟩
theorem ne_beq {a b : PySem.Str} (h : a ≠ b) : (a == b) = false := by
  cases e : a == b with
  | false => rfl
  | true => exact absurd (eq_of_beq e) h
theorem beq_r (a : PySem.Str) : (a == a) = true := beq_self_eq_true a
theorem fz_nil : freeze 8 (.ref 0) [.lst []] = some (.lst [], [.frz (.lst [])]) := rfl
theorem fz_one (x : D) : freeze 8 (.ref 0) [.lst [.d x]] = some (.lst [x], [.frz (.lst [x])]) := rfl
theorem ok__law_above (k : Nat) {cs : List PySem.Str} {l : List D} (h : RL cs l) (nd : cs.Nodup) (ne : es ∉ cs) {i : Nat} (hi : i < cs.length) : Wv (run T (k + 1) f__law_above [.d (.lst l), .d (.str (cs.getD i es))] []) fun v _ => ∃ us : List PySem.Str, (us.length ≤ 1 ∧ ∀ u ∈ us, u ∈ cs.take i) ∧ v = .d (.lst (us.map D.str)) := by
  have ee : (PySem.Str.ofString "" == PySem.Str.ofString "") = true := beq_r _
  cases h with
  | one a x =>
    have : i = 0 := by simp at hi; omega
    subst this
    refine w_run (fn := fn__law_above) rfl rfl ?_
    simp only [fn__law_above, ir__law_above, rl1, List.getD_cons_zero]
    walk_at "mp"
    refine w_forR (fun j δ μ => Sx (j = 0) δ [some (.d (.lst [.tup [.str a, .int x, .str es]])), some (.d (.str a)), some (.ref 0), some (.d (.str a)), none, none, none] μ [.lst []]) ⟨rfl, rfl, rfl⟩ ?_ ?_
    · rintro j _ _ hj ⟨rfl, rfl, rfl⟩
      simp only [stepF]
      walk_at "mp"
      simp only [collect_cons, collect_nil, lcF]
      walk_at "mp"
      simp only [cmp_eqS, beq_r]
      walk_at "mp"
      simp only [cmp_eqS, beq_r]
      walk_at "mp"
      simp only [fz_nil]
      walk_at "mp"
      exact ⟨[], ⟨Nat.zero_le _, fun _ z => nomatch z⟩, rfl⟩
    · rintro _ _ ⟨h, _⟩
      omega
  | two a b x y w =>
    have hab : a ≠ b := fun e => by rw [e] at nd; simp at nd
    have hae : a ≠ es := fun e => ne (by rw [e]; simp)
    have q1 := ne_beq hab
    have q2 := ne_beq (Ne.symm hab)
    have q3 := ne_beq hae
    have : i = 0 ∨ i = 1 := by simp at hi; omega
    rcases this with rfl | rfl
    · refine w_run (fn := fn__law_above) rfl rfl ?_
      simp only [fn__law_above, ir__law_above, rl2, List.getD_cons_zero]
      walk_at "mp"
      refine w_forR (fun j δ μ => Sx (j = 0) δ [some (.d (.lst [.tup [.str a, .int x, .str es], .tup [.str b, .int y, .str (wiT a w)]])), some (.d (.str a)), some (.ref 0), some (.d (.str a)), none, none, none] μ [.lst []]) ⟨rfl, rfl, rfl⟩ ?_ ?_
      · rintro j _ _ hj ⟨rfl, rfl, rfl⟩
        simp only [stepF]
        walk_at "mp"
        simp only [collect_cons, collect_nil, lcF]
        walk_at "mp"
        simp only [cmp_eqS, beq_r, q2]
        walk_at "mp"
        simp only [cmp_eqS, beq_r]
        walk_at "mp"
        simp only [fz_nil]
        walk_at "mp"
        exact ⟨[], ⟨Nat.zero_le _, fun _ z => nomatch z⟩, rfl⟩
      · rintro _ _ ⟨h, _⟩
        omega
    · refine w_run (fn := fn__law_above) rfl rfl ?_
      simp only [fn__law_above, ir__law_above, rl2, List.getD_cons_zero, List.getD_cons_succ]
      walk_at "mp"
      refine w_forR (fun j δ μ => ∃ us : List PySem.Str, ∃ h : PySem.Str, Sx (j = 0 ∧ us = [] ∧ h = b ∨ j = 1 ∧ us = [a] ∧ h = a) δ [some (.d (.lst [.tup [.str a, .int x, .str es], .tup [.str b, .int y, .str (wiT a w)]])), some (.d (.str b)), some (.ref 0), some (.d (.str h)), none, none, none] μ [.lst ((us.map D.str).map .d)]) ⟨[], b, .inl ⟨rfl, rfl, rfl⟩, rfl, rfl⟩ ?_ ?_
      · rintro j _ _ hj ⟨us, h, hc, rfl, rfl⟩
        rcases hc with ⟨rfl, rfl, rfl⟩ | ⟨rfl, rfl, rfl⟩
        · simp only [stepF]
          walk_at "mp"
          simp only [collect_cons, collect_nil, lcF]
          walk_at "mp"
          simp only [cmp_eqS, beq_r, q1]
          walk_at "mp"
          cases w with
          | true =>
            simp only [wiT, if_true, cmp_eqS, q3]
            walk_at "mp"
            exact ⟨[a], _, ⟨rfl, rfl⟩, rfl, rfl⟩
          | false =>
            simp only [wiT, Bool.false_eq_true, if_false, cmp_eqS, ee]
            walk_at "mp"
            simp only [fz_nil]
            walk_at "mp"
            exact ⟨[], ⟨Nat.zero_le _, fun _ z => nomatch z⟩, rfl⟩
        · simp only [stepF]
          walk_at "mp"
          simp only [collect_cons, collect_nil, lcF]
          walk_at "mp"
          simp only [cmp_eqS, beq_r, q2]
          walk_at "mp"
          simp only [cmp_eqS, beq_r]
          walk_at "mp"
          simp only [fz_one]
          walk_at "mp"
          exact ⟨[h], ⟨Nat.le_refl _, fun u hu => by rw [List.mem_singleton.mp hu]; simp⟩, rfl⟩
      · rintro _ _ ⟨us, h, hc, rfl, rfl⟩
        rcases hc with ⟨h, _⟩ | ⟨h, _⟩ <;> omega
def iD (ds : List Int) : D := .lst (ds.map .int)
/-- the own dict of days -/
def tbI (g : PySem.Str → List Int) (ns : List PySem.Str) : List (D × Val) := ns.map fun n => (.str n, .d (iD (g n)))
theorem idx_own {μ : Heap} {i : Nat} {g : PySem.Str → List Int} {ns : List PySem.Str} (h : μ[i]? = some (.dct (tbI g ns))) {x : PySem.Str} (hx : x ∈ ns) : idxV (.ref i) (.d (.str x)) μ = .ok (.d (iD (g x))) μ := by
  have e1 : Mp.items μ (.ref i) = none := by unfold items; simp only [h]
  have e2 : pairs μ (.ref i) = some (tbI g ns) := by unfold pairs; simp only [h]
  show (match (.d (.str x) : Val), Mp.items μ (.ref i) with
      | .d (.int k), some vs => opt (atI vs k) μ
      | .d k, none => match pairs μ (.ref i) with
        | some kvs => need (isKey0 k) (opt (lookD k kvs) μ)
        | none => .bad
      | _, _ => .bad) = _
  rw [e1, e2]
  show opt (lookD (.str x) (tbI g ns)) μ = _
  unfold tbI
  rw [lookD_tb (fun n => Val.d (iD (g n))) x ns, if_pos hx]; rfl
theorem set_own {μ : Heap} {i : Nat} {g : PySem.Str → List Int} {ns : List PySem.Str} (h : μ[i]? = some (.dct (tbI g ns))) (hl : ns.length ≤ 100) (nd : ns.Nodup) {x : PySem.Str} (hx : x ∈ ns) (v : List Int) : setSub (.ref i) (.d (.str x)) (.d (iD v)) μ = .ok () (μ.set i (.dct (tbI (fun n => if n = x then v else g n) ns))) := by
  rw [setSub_ref, h]
  have hz : small ((tbI g ns).length + 1) = true := by unfold tbI; rw [List.length_map]; exact decide_eq_true (by omega)
  show need (isKey0 (.str x) && small ((tbI g ns).length + 1) && simple (.d (iD v))) _ = _
  rw [hz]
  show Res.ok () (μ.set i (.dct (putD (.str x) (.d (iD v)) (tbI g ns)))) = _
  congr 3
  unfold tbI
  rw [putD_old (fun n => Val.d (iD (g n))) x _ nd hx]
  exact List.map_congr_left fun n _ => by by_cases e : n = x <;> simp [e]
theorem set_new {μ : Heap} {i : Nat} {g : PySem.Str → List Int} {ns : List PySem.Str} (h : μ[i]? = some (.dct (tbI g ns))) (hl : ns.length ≤ 100) {x : PySem.Str} (hx : x ∉ ns) (v : List Int) : setSub (.ref i) (.d (.str x)) (.d (iD v)) μ = .ok () (μ.set i (.dct (tbI (fun n => if n = x then v else g n) (ns ++ [x])))) := by
  rw [setSub_ref, h]
  have hz : small ((tbI g ns).length + 1) = true := by unfold tbI; rw [List.length_map]; exact decide_eq_true (by omega)
  show need (isKey0 (.str x) && small ((tbI g ns).length + 1) && simple (.d (iD v))) _ = _
  rw [hz]
  show Res.ok () (μ.set i (.dct (putD (.str x) (.d (iD v)) (tbI g ns)))) = _
  congr 3
  unfold tbI
  rw [putD_new (fun n => Val.d (iD (g n))) x _ hx, List.map_append, List.map_cons, List.map_nil]
  dsimp only
  rw [if_pos rfl]
  congr 1
  exact List.map_congr_left fun n hn => by rw [if_neg (fun e : n = x => hx (e ▸ hn))]
theorem fz1 (C : Cell) (ds : List Int) : freeze 8 (.ref 1) [C, .lst ((ds.map D.int).map .d)] = some (.lst (ds.map .int), [C, .frz (.lst (ds.map .int))]) := freeze_lst rfl 7
theorem fz2 (C C2 : Cell) (ds : List Int) : freeze 8 (.ref 2) [C, C2, .lst ((ds.map D.int).map .d)] = some (.lst (ds.map .int), [C, C2, .frz (.lst (ds.map .int))]) := freeze_lst rfl 7
theorem belowC_tb (n : Nat) (g : PySem.Str → List Int) (ns : List PySem.Str) : belowC n (.dct (tbI g ns)) = true := by
  show belows n ((tbI g ns).map (·.2)) = true
  unfold tbI
  induction ns with
  | nil => rfl
  | cons a r ih => exact ih
theorem gc_tb {δ : Slots} {g : PySem.Str → List Int} {ns : List PySem.Str} {r : Heap} (h : belows 1 (δ.filterMap id) = true) : gcTo true 1 δ (.dct (tbI g ns) :: r) = some [.dct (tbI g ns)] := by
  show (if (belows 1 (δ.filterMap id) && (belowC 1 (.dct (tbI g ns)) && true)) = true then some [Cell.dct (tbI g ns)] else none) = _
  rw [belowC_tb, h]; rfl
theorem RL.at {cs : List PySem.Str} {l : List D} (h : RL cs l) {i : Nat} (hi : i < cs.length) : ∃ x w, atI l (i : Int) = some (.tup [.str (cs.getD i es), .int x, .str w]) := by
  cases h with
  | one a x =>
    have : i = 0 := by simp at hi; omega
    subst this; exact ⟨x, _, rfl⟩
  | two a b x y w =>
    have : i = 0 ∨ i = 1 := by simp at hi; omega
    rcases this with rfl | rfl
    · exact ⟨x, _, rfl⟩
    · exact ⟨y, _, rfl⟩
theorem RL.at' {cs : List PySem.Str} {l : List D} (h : RL cs l) {i : Nat} (hi : i < cs.length) : ∃ x w, l[i]? = some (.tup [.str (cs.getD i es), .int x, .str w]) := by
  cases h with
  | one a x =>
    have : i = 0 := by simp at hi; omega
    subst this; exact ⟨x, _, rfl⟩
  | two a b x y w =>
    have : i = 0 ∨ i = 1 := by simp at hi; omega
    rcases this with rfl | rfl
    · exact ⟨x, _, rfl⟩
    · exact ⟨y, _, rfl⟩
theorem RL.len {cs : List PySem.Str} {l : List D} (h : RL cs l) : l.length = cs.length ∧ 0 < cs.length ∧ cs.length ≤ 2 := by
  cases h with
  | one => exact ⟨rfl, by simp, by simp⟩
  | two => exact ⟨rfl, by simp, by simp⟩
theorem take_snoc {cs : List PySem.Str} {i : Nat} (hi : i < cs.length) : cs.take (i + 1) = cs.take i ++ [cs.getD i es] := by
  rw [List.take_add_one, List.getElem?_eq_getElem hi, List.getD_eq_getElem?_getD, List.getElem?_eq_getElem hi]; rfl
theorem nin_take {cs : List PySem.Str} (nd : cs.Nodup) {i : Nat} (hi : i < cs.length) : cs.getD i es ∉ cs.take i := fun z => by
  have h := (List.take_sublist (i + 1) cs).nodup nd
  rw [take_snoc hi, List.nodup_append] at h
  exact h.2.2 _ z _ (List.mem_singleton.mpr rfl) rfl
theorem cmp_neI' (a b : Int) (μ : Heap) : cmpop .ne (.d (.int a)) (.d (.int b)) μ = some (!decide (a = b)) := cmp_neI μ a b
theorem body5 (k : Nat) {cs : List PySem.Str} (nd : cs.Nodup) (hl : cs.length ≤ 100) {u : PySem.Str} (hu : u ∈ cs) {g : PySem.Str → List Int} (hg : ∀ n ∈ cs, (g n).length ≤ 40) (a b c e y : Val) (d : Int) : ∃ g' : PySem.Str → List Int, (∀ n ∈ cs, (g' n).length ≤ 40) ∧
    stepF T (run T (k + 1)) (run T k) (.nm 5) (.cons (.asg (.sub (.var 3) (.var 5)) (.lc false (.nm 12) (.val (.idx (.var 3) (.var 5))) (.so (.val (.cmp .ne (.var 12) (.var 8)))) (.var 12))) (.kill [5] .nil)) (.d (.str u)) [some a, some b, some c, some (.ref 0), none, none, none, none, some (.d (.int d)), none, some e, some y, none] [.dct (tbI g cs)] =
      .ok [some a, some b, some c, some (.ref 0), none, none, none, none, some (.d (.int d)), none, some e, some y, none] .nx [.dct (tbI g' cs)] := by
  have e4 : idxV (.ref 0) (.d (.str u)) [.dct (tbI g cs)] = .ok (.d (.lst ((g u).map D.int))) [.dct (tbI g cs)] := idx_own rfl hu
  have hgl := hg u hu
  have e5 : ∀ v : List Int, setSub (.ref 0) (.d (.str u)) (.d (.lst (v.map D.int))) [.dct (tbI g cs)] = .ok () [.dct (tbI (fun n => if n = u then v else g n) cs)] := fun v => set_own rfl hl nd hu v
  have hfl : (List.filter (fun x => !decide (x = d)) (g u)).length ≤ (g u).length := List.length_filter_le _ _
  refine ⟨fun n => if n = u then List.filter (fun x => !decide (x = d)) (g u) else g n, fun n hn => ?_, ?_⟩
  · dsimp only
    split
    · omega
    · exact hg n hn
  simp only [stepF]
  walk_at "mp"
  simp only [e4]
  walk_at "mp"
  rw [collect_filt (g := []) (fun x => !decide (x = d)) trivial (fun x hx => ?_)]
  · walk_at "mp"
    simp only [e5]
    walk_at "mp"
  · simp only [lcF]
    walk_at "mp"
theorem snaps_tb (μ : Heap) (g : PySem.Str → List Int) (cs : List PySem.Str) : mapO (snap μ 0) ((tbI g cs).map fun x => x.2) = some (cs.map fun n => iD (g n)) := by
  unfold tbI
  rw [List.map_map]
  exact snaps_f μ 0 (fun n => iD (g n)) cs
theorem zip_tb (g : PySem.Str → List Int) (cs : List PySem.Str) : ((tbI g cs).map fun x => x.1).zip (cs.map fun n => iD (g n)) = cs.map fun n => (.str n, iD (g n)) := by
  unfold tbI
  rw [List.map_map]
  induction cs with
  | nil => rfl
  | cons a r ih => rw [List.map_cons, List.map_cons, List.zip_cons_cons, ih]; rfl
theorem ok__law_closed (k : Nat) {rs : List Int} (h : Ns 40 rs) {cs : List PySem.Str} {l : List D} (hr : RL cs l) (nd : cs.Nodup) (ne : es ∉ cs) : Wv (run T (k + 2) f__law_closed [.d (.lst (rs.map D.int)), .d (.int 5), .d (.lst l)] []) fun v _ => ∃ g : PySem.Str → List Int, (∀ n ∈ cs, (g n).length ≤ 40) ∧ v = .d (.dct (cs.map fun n => (.str n, iD (g n)))) := by
  obtain ⟨l1, l2, l3⟩ := hr.len
  refine w_run (fn := fn__law_closed) rfl rfl ?_
  simp only [fn__law_closed, ir__law_closed]
  walk_at "mp"
  rw [l1]
  refine w_forR (fun j δ μ => ∃ g : PySem.Str → List Int, Sx (∀ n ∈ cs.take j, (g n).length ≤ 20 * j) δ [some (.d (.lst (rs.map D.int))), some (.d (.int 5)), some (.d (.lst l)), some (.ref 0), none, none, none, none, none, none, none, none, none] μ [.dct (tbI g (cs.take j))]) ⟨fun _ => [], (fun _ z => nomatch z), rfl, rfl⟩ ?_ ?_
  · rintro j _ _ hj ⟨g, hg, rfl, rfl⟩
    obtain ⟨x, w, ex⟩ := hr.at hj
    obtain ⟨z1, hz1, e1⟩ := h.at (5 + 2 * (j : Int)) (by omega) (by omega)
    obtain ⟨z2, hz2, e2⟩ := h.at (5 + 2 * (j : Int) + 1) (by omega) (by omega)
    obtain ⟨_, μ3, e3, us, ⟨hu1, hu2⟩, rfl⟩ := ok__law_above k hr nd ne hj
    simp only [stepF]
    walk_at "mp"
    simp only [ex]
    walk_at "mp"
    simp only [e1]
    walk_at "mp"
    simp only [e2]
    walk_at "mp"
    refine w_forR (fun i δ μ => ∃ (ds : List Int) (b : Int), Sx (ds.length ≤ i) δ [some (.d (.lst (rs.map D.int))), some (.d (.int 5)), some (.d (.lst l)), some (.ref 0), some (.d (.int j)), some (.d (.str (cs.getD j es))), some (.d (.int b)), some (.ref 1), none, none, none, none, none] μ [.dct (tbI g (cs.take j)), .lst ((ds.map D.int).map .d)]) ⟨[], _, Nat.le_refl _, rfl, rfl⟩ ?_ ?_
    · rintro i _ _ hi ⟨ds, b, hd, rfl, rfl⟩
      simp only [stepF]
      walk_at "mp"
      refine w_if (fun h0 => ?_) fun h0 => ?_
      · walk_at "mp"
        exact ⟨_, _, by rw [List.length_append, List.length_singleton]; omega, rfl, rfl⟩
      · walk_at "mp"
        exact ⟨_, _, by omega, rfl, rfl⟩
    rintro _ _ ⟨ds, b, hd, rfl, rfl⟩
    walk_at "mp"
    simp only [e3]
    walk_at "mp"
    have hnt := nin_take nd hj
    have htl : (cs.take j).length ≤ 100 := by rw [List.length_take]; omega
    rcases us with _ | ⟨u, us⟩
    · have e5 : ∀ C : Cell, setSub (.ref 0) (.d (.str (cs.getD j es))) (.d (.lst (ds.map D.int))) [.dct (tbI g (cs.take j)), C] = .ok () [.dct (tbI (fun n => if n = cs.getD j es then ds else g n) (cs.take j ++ [cs.getD j es])), C] := fun C => set_new rfl htl hnt ds
      walk_at "mp"
      simp only [fz1]
      walk_at "mp"
      simp only [e5]
      walk_at "mp"
      rw [lq_nxg]
      refine ⟨_, gc_tb rfl, fun n => if n = cs.getD j es then ds else g n, fun n hn => ?_, rfl, by rw [take_snoc hj]⟩
      rw [take_snoc hj, List.mem_append, List.mem_singleton] at hn
      dsimp only
      split
      · omega
      · rename_i hne
        have := hg n (hn.resolve_right hne)
        omega
    · have : us = [] := by cases us with
        | nil => rfl
        | cons => simp at hu1
      subst this
      have hu := hu2 u (List.mem_singleton.mpr rfl)
      have e4 : ∀ C : Cell, idxV (.ref 0) (.d (.str u)) [.dct (tbI g (cs.take j)), C] = .ok (.d (iD (g u))) [.dct (tbI g (cs.take j)), C] := fun C => idx_own rfl hu
      walk_at "mp"
      simp only [stepF]
      walk_at "mp"
      simp only [e4, iD]
      walk_at "mp"
      rw [collect_filt (g := []) (fun x => !decide (x ∈ ds)) trivial (fun x hx => ?_)]
      · have e5 : ∀ (C C2 : Cell) (v : List Int), setSub (.ref 0) (.d (.str (cs.getD j es))) (.d (.lst (v.map D.int))) [.dct (tbI g (cs.take j)), C, C2] = .ok () [.dct (tbI (fun n => if n = cs.getD j es then v else g n) (cs.take j ++ [cs.getD j es])), C, C2] := fun C C2 v => set_new rfl htl hnt v
        have hgl := hg u hu
        have hfl : (List.filter (fun x => !decide (x ∈ ds)) (g u)).length ≤ (g u).length := List.length_filter_le _ _
        have e6 : (ds.map D.int ++ (List.filter (fun x => !decide (x ∈ ds)) (g u)).map D.int) = (ds ++ List.filter (fun x => !decide (x ∈ ds)) (g u)).map D.int := by rw [List.map_append]
        walk_at "mp"
        rw [e6]
        simp only [fz2]
        walk_at "mp"
        simp only [e5]
        walk_at "mp"
        rw [lq_nxg]
        refine ⟨_, gc_tb rfl, fun n => if n = cs.getD j es then ds ++ List.filter (fun x => !decide (x ∈ ds)) (g u) else g n, fun n hn => ?_, rfl, by rw [take_snoc hj]⟩
        rw [take_snoc hj, List.mem_append, List.mem_singleton] at hn
        dsimp only
        split
        · rw [List.length_append]; omega
        · rename_i hne
          have := hg n (hn.resolve_right hne)
          omega
      · have q : ∀ C : Cell, inop (.d (.int x)) (.ref 1) [C, .lst ((ds.map D.int).map .d)] = some (decide (x ∈ ds)) := fun C => inop_ref rfl x
        simp only [lcF]
        walk_at "mp"
        simp only [cmp_nin (q _)]
        walk_at "mp"
  rintro _ _ ⟨g, hg, rfl, rfl⟩
  rw [List.take_length] at hg ⊢
  have hg : ∀ n ∈ cs, (g n).length ≤ 40 := fun n hn => by have := hg n hn; omega
  have hcl : cs.length ≤ 100 := by omega
  walk_at "mp"
  refine w_forL (f := Val.d) (fun j δ μ => ∃ g : PySem.Str → List Int, Sx (∀ n ∈ cs, (g n).length ≤ 40) δ [some (.d (.lst (rs.map D.int))), some (.d (.int 5)), some (.d (.lst l)), some (.ref 0), none, none, none, none, none, none, none, none, none] μ [.dct (tbI g cs)]) (fun _ _ _ _ => trivial) ⟨g, hg, rfl, rfl⟩ ?_ ?_
  · rintro j q _ _ hj ⟨g, hg, rfl, rfl⟩
    have hjl : j < cs.length := by rw [← l1]; exact (List.getElem?_eq_some_iff.mp hj).1
    obtain ⟨x, w, ex⟩ := hr.at' hjl
    rw [ex] at hj; cases hj
    have hmem : cs.getD j es ∈ cs := by rw [List.getD_eq_getElem?_getD, List.getElem?_eq_getElem hjl]; exact List.getElem_mem _
    obtain ⟨_, μ3, e3, us, ⟨hu1, hu2⟩, rfl⟩ := ok__law_above k hr nd ne hjl
    simp only [stepF]
    walk_at "mp"
    refine w_forR (fun i δ μ => ∃ (g : PySem.Str → List Int) (y : Int), Sx (∀ n ∈ cs, (g n).length ≤ 40) δ [some (.d (.lst (rs.map D.int))), some (.d (.int 5)), some (.d (.lst l)), some (.ref 0), none, none, none, none, none, none, some (.d (.tup [.str (cs.getD j es), .int x, .str w])), some (.d (.int y)), none] μ [.dct (tbI g cs)]) ⟨g, _, hg, rfl, rfl⟩ ?_ ?_
    · rintro i _ _ hi ⟨g, y, hg, rfl, rfl⟩
      have e4 : idxV (.ref 0) (.d (.str (cs.getD j es))) [.dct (tbI g cs)] = .ok (.d (.lst ((g (cs.getD j es)).map D.int))) [.dct (tbI g cs)] := idx_own rfl hmem
      simp only [stepF]
      walk_at "mp"
      simp only [e4]
      walk_at "mp"
      simp only [cmp_in, inop_lst]
      walk_at "mp"
      refine w_ifm (fun δ μ => ∃ y : Int, Sx True δ [some (.d (.lst (rs.map D.int))), some (.d (.int 5)), some (.d (.lst l)), some (.ref 0), none, none, none, none, some (.d (.int (-9 + i))), none, some (.d (.tup [.str (cs.getD j es), .int x, .str w])), some (.d (.int y)), none] μ [.dct (tbI g cs)]) (fun hc => ?_) (fun hc => ?_) ?_
      · walk_at "mp"
        exact ⟨_, _, rfl, _, trivial, rfl, rfl⟩
      · walk_at "mp"
        exact ⟨_, _, rfl, _, trivial, rfl, rfl⟩
      rintro _ _ ⟨y, -, rfl, rfl⟩
      walk_at "mp"
      refine w_if (fun hc => ?_) (fun hc => ?_)
      · walk_at "mp"
        simp only [e3]
        walk_at "mp"
        obtain ⟨g2, hg2, b2⟩ := body5 k nd hcl hmem hg (.d (.lst (rs.map D.int))) (.d (.int 5)) (.d (.lst l)) (.d (.tup [.str (cs.getD j es), .int x, .str w])) (.d (.int 0)) (-9 + i)
        rw [b2]
        rcases us with _ | ⟨u, us⟩
        · walk_at "mp"
          exact ⟨_, _, hg2, rfl, rfl⟩
        · have : us = [] := by cases us with
            | nil => rfl
            | cons => simp at hu1
          subst this
          have hu := List.mem_of_mem_take (hu2 u (List.mem_singleton.mpr rfl))
          obtain ⟨g3, hg3, b3⟩ := body5 k nd hcl hu hg2 (.d (.lst (rs.map D.int))) (.d (.int 5)) (.d (.lst l)) (.d (.tup [.str (cs.getD j es), .int x, .str w])) (.d (.int 0)) (-9 + i)
          walk_at "mp"
          rw [b3]
          walk_at "mp"
          exact ⟨_, _, hg3, rfl, rfl⟩
      · walk_at "mp"
        exact ⟨_, _, hg, rfl, rfl⟩
    · rintro _ _ ⟨g, y, hg, rfl, rfl⟩
      walk_at "mp"
      exact ⟨_, hg, rfl, rfl⟩
  · rintro _ _ ⟨g, hg, rfl, rfl⟩
    walk_at "mp"
    simp only [snaps_tb, zip_tb]
    walk_at "mp"
    exact ⟨_, hg, rfl⟩
abbrev I2 := Int × Int
def prI (p : I2) : D := .tup [.int p.1, .int p.2]
def stD (l : List I2) : D := .tup (l.map prI)
theorem ok__law_stretches (k : Nat) {ds : List Int} (hd : ds.length ≤ 1000) : Wv (run T (k + 1) f__law_stretches [.d (.lst (ds.map D.int))] []) fun v _ => ∃ ps : List I2, ps.length ≤ ds.length ∧ v = .d (stD ps) := by
  have hp := (srtI_ok ds).1
  have hpl := hp.length_eq
  refine w_run (fn := fn__law_stretches) rfl rfl ?_
  simp only [fn__law_stretches, ir__law_stretches]
  walk_at "mp"
  simp only [srt_int]
  walk_at "mp"
  refine w_forD (f := D.int) (fun j δ μ => ∃ l : List I2, Sx (l.length ≤ j) δ [some (.d (.lst (ds.map D.int))), some (.ref 0), none] μ [.lst ((l.map prI).map .d)]) (fun _ _ _ _ => trivial) ⟨[], Nat.le_refl _, rfl, rfl⟩ ?_ ?_
  · rintro j x _ _ hj ⟨l, hl, rfl, rfl⟩
    have hjl := (List.getElem?_eq_some_iff.mp hj).1
    simp only [stepF]
    rcases List.eq_nil_or_concat l with rfl | ⟨l0, ⟨c, e⟩, rfl⟩
    · walk_at "mp"
      exact ⟨[(x, x)], by simp, rfl, rfl⟩
    · rw [List.concat_eq_append] at hl ⊢
      simp only [List.length_append, List.length_singleton] at hl
      have hm : (l0 ++ [(c, e)]).map prI = l0.map prI ++ [D.tup [.int c, .int e]] := by rw [List.map_append]; rfl
      rw [hm]
      walk_at "mp"
      have hi : idxV (.ref 0) (.d (.int (-1))) [.lst ((l0.map prI ++ [D.tup [.int c, .int e]]).map .d)] = .ok (.d (.tup [.int c, .int e])) [.lst ((l0.map prI ++ [D.tup [.int c, .int e]]).map .d)] := idx_lastN rfl
      have hs : ∀ y : D, setSub (.ref 0) (.d (.int (-1))) (.d y) [.lst ((l0.map prI ++ [D.tup [.int c, .int e]]).map .d)] = .ok () [.lst ((l0.map prI ++ [y]).map .d)] := fun y => setL_lastN rfl
      refine w_if (fun h => ?_) (fun h => ?_)
      · walk_at "mp"
        simp only [hs]
        walk_at "mp"
        exact ⟨l0 ++ [(c, x)], by rw [List.length_append, List.length_singleton]; omega, rfl, by simp [prI]⟩
      · walk_at "mp"
        refine w_if (fun h2 => ?_) (fun h2 => ?_)
        · walk_at "mp"
          exact ⟨l0 ++ [(c, e), (x, x)], by simp only [List.length_append, List.length_cons, List.length_nil]; omega, rfl, by rw [List.map_append]; simp [prI]⟩
        · walk_at "mp"
          exact ⟨l0 ++ [(c, e)], by rw [List.length_append, List.length_singleton]; omega, rfl, by simp [prI]⟩
  · rintro _ _ ⟨l, hl, rfl, rfl⟩
    walk_at "mp"
    exact ⟨l, by omega, rfl⟩
theorem k0 (x : PySem.Str) : isKey0 (.str x) = true := rfl
theorem lk0 {h : PySem.Str → D} {cs : List PySem.Str} {x : PySem.Str} (hx : x ∈ cs) : lookD (.str x) (cs.map fun n => (D.str n, h n)) = some (h x) := by rw [lookD_tb h x cs, if_pos hx]
theorem idx_tbD {h : PySem.Str → D} {cs : List PySem.Str} {x : PySem.Str} (hx : x ∈ cs) (μ : Heap) : idxV (.d (.dct (cs.map fun n => (.str n, h n)))) (.d (.str x)) μ = .ok (.d (h x)) μ := by
  show (match pairs μ (.d (.dct (cs.map fun n => (.str n, h n)))) with
        | some kvs => need (isKey0 (.str x)) (opt (lookD (.str x) kvs) μ)
        | none => .bad) = _
  have e : pairs μ (.d (.dct (cs.map fun n => (.str n, h n)))) = some (cs.map fun n => (D.str n, Val.d (h n))) := by
    show some ((cs.map _).map _) = _
    rw [List.map_map]; rfl
  rw [e]
  show opt (lookD (.str x) (cs.map fun n => (D.str n, Val.d (h n)))) μ = _
  rw [lookD_tb (fun n => Val.d (h n)) x cs, if_pos hx]; rfl
def ru (f : PySem.Str → List D) (n : PySem.Str) : D := .tup (.str n :: f n)
theorem ok__law_known (k : Nat) {rs : List Int} (h : Ns 40 rs) {cs : List PySem.Str} {l : List D} (hr : RL cs l) (nd : cs.Nodup) {g : PySem.Str → List Int} (hg : ∀ n ∈ cs, (g n).length ≤ 40) : Wv (run T (k + 2) f__law_known [.d (.lst (rs.map D.int)), .d (.int 27), .d (.lst l), .d (.dct (cs.map fun n => (.str n, iD (g n))))] []) fun v _ => ∃ f : PySem.Str → List D, v = .d (.tup (cs.map (ru f))) := by
  obtain ⟨l1, l2, l3⟩ := hr.len
  refine w_run (fn := fn__law_known) rfl rfl ?_
  simp only [fn__law_known, ir__law_known]
  walk_at "mp"
  rw [l1]
  refine w_forR (fun j δ μ => ∃ f : PySem.Str → List D, Sx True δ [some (.d (.lst (rs.map D.int))), some (.d (.int 27)), some (.d (.lst l)), some (.d (.dct (cs.map fun n => (.str n, iD (g n))))), some (.ref 0), none, none, none, none, none, none, none, none, none] μ [.lst (((cs.take j).map (ru f)).map .d)]) ⟨fun _ => [], trivial, rfl, rfl⟩ ?_ ?_
  · rintro j _ _ hj ⟨f, -, rfl, rfl⟩
    obtain ⟨x, w, ex⟩ := hr.at hj
    have hmem : cs.getD j es ∈ cs := by rw [List.getD_eq_getElem?_getD, List.getElem?_eq_getElem hj]; exact List.getElem_mem _
    have hnt := nin_take nd hj
    obtain ⟨z, hz, e1⟩ := h.at (27 + (j : Int)) (by omega) (by omega)
    have e4 : lookD (.str (cs.getD j es)) (cs.map fun n => (D.str n, iD (g n))) = some (.lst ((g (cs.getD j es)).map D.int)) := lk0 (h := fun n => iD (g n)) hmem
    have hgl := hg _ hmem
    have fin : ∀ d : List D, (List.take j cs).map (ru f) ++ [D.tup (.str (cs.getD j es) :: d)] = (List.take (j + 1) cs).map (ru fun n => if n = cs.getD j es then d else f n) := fun d => by
      rw [take_snoc hj, List.map_append, List.map_cons, List.map_nil]
      congr 1
      · exact List.map_congr_left fun n hn => by unfold ru; dsimp only; rw [if_neg (fun e : n = cs.getD j es => hnt (e ▸ hn))]
      · unfold ru; dsimp only; rw [if_pos rfl]
    simp only [stepF]
    walk_at "mp"
    simp only [ex]
    walk_at "mp"
    simp only [e1]
    walk_at "mp"
    refine w_ifm (fun δ μ => ∃ (d : D) (u v : Option Val), Sx True δ [some (.d (.lst (rs.map D.int))), some (.d (.int 27)), some (.d (.lst l)), some (.d (.dct (cs.map fun n => (.str n, iD (g n))))), some (.ref 0), some (.d (.int j)), some (.d (.str (cs.getD j es))), some (.d (.int x)), some (.d (.str w)), some (.d (.int z)), some (.d d), u, v, none] μ [.lst (((cs.take j).map (ru f)).map .d)]) (fun hc => ?_) (fun hc => ?_) ?_
    · walk_at "mp"
      simp only [k0, e4]
      walk_at "mp"
      rw [collect_filt (g := []) (fun q => decide (z / 4 % 9 - 4 ≤ q ∧ q ≤ z / 4 % 9 - 4 + z / 36 % 3)) trivial (fun q hq => ?_)]
      · have hfl : (List.filter (fun q => decide (z / 4 % 9 - 4 ≤ q ∧ q ≤ z / 4 % 9 - 4 + z / 36 % 3)) (g (cs.getD j es))).length ≤ (g (cs.getD j es)).length := List.length_filter_le _ _
        obtain ⟨_, μ6, e6, ps, hps, rfl⟩ := ok__law_stretches k (ds := List.filter (fun q => decide (z / 4 % 9 - 4 ≤ q ∧ q ≤ z / 4 % 9 - 4 + z / 36 % 3)) (g (cs.getD j es))) (by omega)
        walk_at "mp"
        simp only [e6]
        walk_at "mp"
        exact ⟨_, _, rfl, _, _, _, trivial, rfl, rfl⟩
      · simp only [lcF]
        walk_at "mp"
    · walk_at "mp"
      exact ⟨_, _, rfl, _, _, _, trivial, rfl, rfl⟩
    rintro _ _ ⟨d, u, v, -, rfl, rfl⟩
    walk_at "mp"
    rw [fin]
    exact ⟨_, trivial, rfl, rfl⟩
  · rintro _ _ ⟨f, -, rfl, rfl⟩
    rw [List.take_length]
    walk_at "mp"
    exact ⟨_, rfl⟩
theorem at_str {ns : List PySem.Str} (h : 0 < ns.length) (x : Int) : ∃ s : PySem.Str, s ∈ ns ∧ atI (ns.map D.str) (x % (ns.length : Int)) = some (.str s) := by
  have h1 := Int.emod_nonneg x (b := (ns.length : Int)) (by omega)
  have h2 := Int.emod_lt_of_pos x (b := (ns.length : Int)) (by omega)
  obtain ⟨i, hi⟩ : ∃ i : Nat, x % (ns.length : Int) = i := ⟨(x % (ns.length : Int)).toNat, by omega⟩
  have hl : i < ns.length := by omega
  refine ⟨ns[i], List.getElem_mem _, ?_⟩
  rw [hi]
  exact atI_nat (by rw [List.getElem?_map, List.getElem?_eq_getElem hl]; rfl)
theorem at4 {x : Int} (h : 0 ≤ x ∧ x < 4) : ∃ y : Int, atI [D.int 1, D.int 2, D.int 3, D.int (-1)] x = some (.int y) := by
  have : x = 0 ∨ x = 1 ∨ x = 2 ∨ x = 3 := by omega
  rcases this with rfl | rfl | rfl | rfl <;> exact ⟨_, rfl⟩
theorem ok__law_case_term (k : Nat) (p o : Int) (s : PySem.Str) {cs ev rl : List PySem.Str} (h1 : 0 < cs.length) (h2 : 0 < ev.length) (l1 : cs.length ≤ 10) (l2 : ev.length ≤ 10) (l3 : rl.length ≤ 10) : Wv (run T (k + 1) f__law_case_term [.d (.int p), .d (.int o), .d (.str s), .d (.tup (cs.map .str)), .d (.tup (ev.map .str)), .d (.tup (rl.map .str))] []) fun v _ => ∃ d, v = .d d := by
  obtain ⟨n, -, e1⟩ := at_str h1 o
  obtain ⟨m, -, e2⟩ := at_str h2 (o / 24)
  obtain ⟨m2, -, e3⟩ := at_str h2 (p / 10)
  obtain ⟨y, e4⟩ := at4 (x := (o / 3 % 8 - 1) % 4) ⟨Int.emod_nonneg _ (by omega), Int.emod_lt_of_pos _ (by omega)⟩
  have e5 := fun h : 0 < rl.length => at_str h (p / 10)
  refine w_run (fn := fn__law_case_term) rfl rfl ?_
  simp only [fn__law_case_term, ir__law_case_term]
  walk_at "mp"
  simp only [e1]
  walk_at "mp"
  simp only [e2]
  walk_at "mp"
  refine w_if (fun h => ?_) (fun h => ?_)
  · walk_at "mp"; exact ⟨_, rfl⟩
  walk_at "mp"
  refine w_if (fun h => ?_) (fun h => ?_)
  · walk_at "mp"; exact ⟨_, rfl⟩
  walk_at "mp"
  refine w_if (fun h => ?_) (fun h => ?_)
  · walk_at "mp"
    simp only [e4]
    walk_at "mp"
    exact ⟨_, rfl⟩
  walk_at "mp"
  refine w_if (fun h => ?_) (fun h => ?_)
  · obtain ⟨q, -, eq⟩ := e5 (by omega)
    walk_at "mp"
    simp only [eq]
    walk_at "mp"
    exact ⟨_, rfl⟩
  walk_at "mp"
  refine w_if (fun h => ?_) (fun h => ?_)
  · obtain ⟨q, -, eq⟩ := e5 (by omega)
    walk_at "mp"
    simp only [eq]
    walk_at "mp"
    exact ⟨_, rfl⟩
  walk_at "mp"
  refine w_if (fun h => ?_) (fun h => ?_)
  · walk_at "mp"
    simp only [e3]
    walk_at "mp"
    exact ⟨_, rfl⟩
  walk_at "mp"
  refine w_if (fun h => ?_) (fun h => ?_)
  · walk_at "mp"; exact ⟨_, rfl⟩
  walk_at "mp"
  exact ⟨_, rfl⟩
theorem ok__law_case_condition (k : Nat) (p o : Int) {cs ev rl : List PySem.Str} (h1 : 0 < cs.length) (h2 : 0 < ev.length) (l1 : cs.length ≤ 10) (l2 : ev.length ≤ 10) (l3 : rl.length ≤ 10) : Wv (run T (k + 1) f__law_case_condition [.d (.int p), .d (.int o), .d (.tup (cs.map .str)), .d (.tup (ev.map .str)), .d (.tup (rl.map .str))] []) fun v _ => ∃ d, v = .d d := by
  obtain ⟨n, -, e1⟩ := at_str h1 o
  obtain ⟨m, -, e2⟩ := at_str h2 (o / 2)
  obtain ⟨m2, -, e3⟩ := at_str h2 (p / 8)
  have e5 := fun h : 0 < rl.length => at_str h (p / 9)
  refine w_run (fn := fn__law_case_condition) rfl rfl ?_
  simp only [fn__law_case_condition, ir__law_case_condition]
  walk_at "mp"
  simp only [e1]
  walk_at "mp"
  simp only [e2]
  walk_at "mp"
  simp only [e3]
  walk_at "mp"
  refine w_if (fun h => ?_) (fun h => ?_)
  · walk_at "mp"; exact ⟨_, rfl⟩
  walk_at "mp"
  refine w_if (fun h => ?_) (fun h => ?_)
  · walk_at "mp"; exact ⟨_, rfl⟩
  walk_at "mp"
  refine w_if (fun h => ?_) (fun h => ?_)
  · walk_at "mp"; exact ⟨_, rfl⟩
  walk_at "mp"
  refine w_if (fun h => ?_) (fun h => ?_)
  · walk_at "mp"; exact ⟨_, rfl⟩
  walk_at "mp"
  refine w_if (fun h => ?_) (fun h => ?_)
  · obtain ⟨q, -, eq⟩ := e5 (by omega)
    walk_at "mp"
    simp only [eq]
    walk_at "mp"
    exact ⟨_, rfl⟩
  walk_at "mp"
  refine w_if (fun h => ?_) (fun h => ?_)
  · obtain ⟨q, -, eq⟩ := e5 (by omega)
    walk_at "mp"
    simp only [eq]
    walk_at "mp"
    exact ⟨_, rfl⟩
  walk_at "mp"
  refine w_if (fun h => ?_) (fun h => ?_)
  · obtain ⟨q, -, eq⟩ := e5 (by omega)
    walk_at "mp"
    simp only [eq]
    walk_at "mp"
    exact ⟨_, rfl⟩
  walk_at "mp"
  exact ⟨_, rfl⟩
/-- a filing's day -/
abbrev gI (d : PySem.Str → Int) : PySem.Str → D := fun e => .int (d e)
theorem gd_int (d : PySem.Str → Int) (ns : List PySem.Str) : Gd1 (gI d) ns := ⟨fun n _ => beq_self_eq_true (d n), fun _ _ => rfl, fun _ _ => Nat.zero_le _, fun _ _ _ _ => rfl⟩
theorem getD_mem {cs : List PySem.Str} {j : Nat} (hj : j < cs.length) : cs.getD j es ∈ cs := by rw [List.getD_eq_getElem?_getD, List.getElem?_eq_getElem hj]; exact List.getElem_mem _
theorem at_strN {ns : List PySem.Str} {j : Nat} (h : j < ns.length) : atI (ns.map D.str) (j : Int) = some (.str (ns.getD j es)) := atI_nat (by rw [List.getElem?_map, List.getElem?_eq_getElem h, List.getD_eq_getElem?_getD, List.getElem?_eq_getElem h]; rfl)
theorem flt_snoc (P : PySem.Str → Bool) (d : PySem.Str → Int) {ev : List PySem.Str} (nd : ev.Nodup) {j : Nat} (hj : j < ev.length) (c : Bool) (x : Int) : ((ev.take (j + 1)).filter fun e => if e = ev.getD j es then c else P e).map (prG (gI fun e => if e = ev.getD j es then x else d e)) = ((ev.take j).filter P).map (prG (gI d)) ++ (if c = true then [D.tup [.str (ev.getD j es), .int x]] else []) := by
  have hnt := nin_take nd hj
  rw [take_snoc hj, List.filter_append, List.map_append]
  congr 1
  · have e : (ev.take j).filter (fun e => if e = ev.getD j es then c else P e) = (ev.take j).filter P := by
      apply List.filter_congr
      intro e he
      rw [if_neg (fun z : e = ev.getD j es => hnt (z ▸ he))]
    rw [e]
    refine List.map_congr_left fun e he => ?_
    have he := (List.mem_filter.mp he).1
    unfold prG gI
    dsimp only
    rw [if_neg (fun z : e = ev.getD j es => hnt (z ▸ he))]
  · cases c with
    | true => simp [List.filter_cons, prG, gI]
    | false => simp [List.filter_cons]
theorem ok__law_filings (k : Nat) {rs : List Int} (h : Ns 40 rs) {ev : List PySem.Str} (nd : ev.Nodup) (hl : ev.length ≤ 3) : Wv (run T (k + 1) f__law_filings [.d (.lst (rs.map D.int)), .d (.int 31), .d (.tup (ev.map D.str))] []) fun v _ => ∃ (P : PySem.Str → Bool) (d : PySem.Str → Int), v = .d (.tup ((sortT (ev.filter P)).map (prG (gI d)))) := by
  refine w_run (fn := fn__law_filings) rfl rfl ?_
  simp only [fn__law_filings, ir__law_filings]
  walk_at "mp"
  refine w_forR (fun j δ μ => ∃ (P : PySem.Str → Bool) (d : PySem.Str → Int), Sx True δ [some (.d (.lst (rs.map D.int))), some (.d (.int 31)), some (.d (.tup (ev.map D.str))), some (.ref 0), none, none] μ [.lst ((((ev.take j).filter P).map (prG (gI d))).map .d)]) ⟨fun _ => false, fun _ => 0, trivial, rfl, rfl⟩ ?_ ?_
  · rintro j _ _ hj ⟨P, d, -, rfl, rfl⟩
    have hj : j < ev.length := by simpa using hj
    obtain ⟨z, hz, e1⟩ := h.at (31 + (j : Int)) (by omega) (by omega)
    have e2 := at_strN hj
    have hfl : ((ev.take j).filter P).length ≤ 3 := Nat.le_trans (List.length_filter_le _ _) (by rw [List.length_take]; omega)
    simp only [stepF]
    walk_at "mp"
    simp only [e1]
    walk_at "mp"
    refine w_if (fun hc => ?_) (fun hc => ?_)
    · walk_at "mp"
      simp only [e2]
      walk_at "mp"
      have := flt_snoc P d nd hj true (z / 4 % 15 - 5)
      rw [if_pos rfl] at this
      rw [← this]
      exact ⟨_, _, trivial, rfl, rfl⟩
    · walk_at "mp"
      have := flt_snoc P d nd hj false 0
      rw [if_neg (by decide), List.append_nil] at this
      rw [← this]
      exact ⟨_, _, trivial, rfl, rfl⟩
  · rintro _ _ ⟨P, d, -, rfl, rfl⟩
    rw [List.take_length]
    have e3 := fun X => sort_ifP (gd_int d (ev.filter P)) X
    have hfl : (ev.filter P).length ≤ 3 := Nat.le_trans (List.length_filter_le _ _) hl
    have hsl : (sortT (ev.filter P)).length ≤ 3 := by rw [sortT_len]; exact hfl
    walk_at "mp"
    simp only [e3]
    walk_at "mp"
    exact ⟨_, _, rfl⟩
def nZZ : PySem.Str := PySem.Str.ofString "zz"
def nL1 : PySem.Str := PySem.Str.ofString "later1"
def nZ9 : PySem.Str := PySem.Str.ofString "zz9"
def csB (cs : List PySem.Str) : Bool := decide cs.Nodup && (decide (es ∉ cs) && (decide (nZZ ∉ cs) && (decide (cs.length = 1 ∨ cs.length = 2) && cs.all fun s => decide (s.length ≤ 1000))))
def evB (ev : List PySem.Str) : Bool := decide ev.Nodup && (decide (nL1 ∉ ev) && (decide (nZ9 ∉ ev) && (decide (ev.length = 2 ∨ ev.length = 3) && ev.all fun s => decide (s.length ≤ 1000))))
structure CsOk (cs : List PySem.Str) : Prop where
  nd : cs.Nodup
  ne : es ∉ cs
  zz : nZZ ∉ cs
  len : cs.length = 1 ∨ cs.length = 2
  sm : ∀ s ∈ cs, s.length ≤ 1000
structure EvOk (ev : List PySem.Str) : Prop where
  nd : ev.Nodup
  l1 : nL1 ∉ ev
  z9 : nZ9 ∉ ev
  len : ev.length = 2 ∨ ev.length = 3
  sm : ∀ s ∈ ev, s.length ≤ 1000
theorem cs_of {cs : List PySem.Str} (h : csB cs = true) : CsOk cs := by
  unfold csB at h
  simp only [Bool.and_eq_true, decide_eq_true_eq, List.all_eq_true] at h
  exact ⟨h.1, h.2.1, h.2.2.1, h.2.2.2.1, h.2.2.2.2⟩
theorem ev_of {cs : List PySem.Str} (h : evB cs = true) : EvOk cs := by
  unfold evB at h
  simp only [Bool.and_eq_true, decide_eq_true_eq, List.all_eq_true] at h
  exact ⟨h.1, h.2.1, h.2.2.1, h.2.2.2.1, h.2.2.2.2⟩
abbrev tS (l : List String) : List PySem.Str := l.map PySem.Str.ofString
def NM : List (List PySem.Str) := [tS ["court", "bank", "post"], tS ["b", "a", "c"], tS ["m1", "m10", "m"], tS ["zeta", "z", "zet"]]
def EV : List (List PySem.Str) := [tS ["served", "reply", "paid"], tS ["b", "a", "ab"], tS ["e1", "e10", "e2"]]
def RN : List (List PySem.Str) := [tS ["answer", "default", "appeal"], tS ["r10", "r1", "r"], tS ["x", "z", "y"]]
theorem nm_ok : (NM.all fun nm => csB (nm.take 1) && csB (nm.take 2)) = true := by decide +kernel
theorem ev_ok : (EV.all fun nm => evB (nm.take 2) && evB (nm.take 3)) = true := by decide +kernel
theorem rn_ok : (RN.all fun nm => decide (nm.length = 3)) = true := by decide +kernel
theorem cut_n (nm : List PySem.Str) (x : Int) (m : Nat) : ∃ b : Nat, (b = 0 ∨ b = 1) ∧ cutG nm none (some ((m : Int) + x % 2)) = nm.take (m + b) := by
  have h0 : x % 2 = 0 ∨ x % 2 = 1 := by omega
  rcases h0 with h0 | h0
  · refine ⟨0, .inl rfl, ?_⟩
    rw [h0, Int.add_zero, cutG_take]; rfl
  · refine ⟨1, .inr rfl, ?_⟩
    rw [h0, show (m : Int) + 1 = ((m + 1 : Nat) : Int) by omega, cutG_take]
theorem ok__law_names (k : Nat) (x : Int) : ∃ nm ∈ NM, run T (k + 1) f__law_names [.d (.int x)] [] = .ok (.d (.tup (nm.map D.str))) [] := by
  have h1 : x % 4 = 0 ∨ x % 4 = 1 ∨ x % 4 = 2 ∨ x % 4 = 3 := by omega
  obtain ⟨nm, hn, e⟩ : ∃ nm ∈ NM, atI [D.tup [.str (PySem.Str.ofString "court"), .str (PySem.Str.ofString "bank"), .str (PySem.Str.ofString "post")], .tup [.str (PySem.Str.ofString "b"), .str (PySem.Str.ofString "a"), .str (PySem.Str.ofString "c")], .tup [.str (PySem.Str.ofString "m1"), .str (PySem.Str.ofString "m10"), .str (PySem.Str.ofString "m")], .tup [.str (PySem.Str.ofString "zeta"), .str (PySem.Str.ofString "z"), .str (PySem.Str.ofString "zet")]] (x % 4) = some (.tup (nm.map D.str)) := by
    rcases h1 with h | h | h | h <;> rw [h]
    · exact ⟨NM[0], by simp [NM], rfl⟩
    · exact ⟨NM[1], by simp [NM], rfl⟩
    · exact ⟨NM[2], by simp [NM], rfl⟩
    · exact ⟨NM[3], by simp [NM], rfl⟩
  refine ⟨nm, hn, ?_⟩
  rw [run_of (fn := fn__law_names) rfl _ _ _ rfl]
  simp only [fn__law_names, ir__law_names]
  walk_at "mp"
  simp only [e]
  walk_at "mp"
theorem at2i (a b : Int) (c : Prop) [Decidable c] : ∃ y : Int, atI [D.int a, D.int b] (if c then 1 else 0) = some (.int y) := by
  by_cases h : c
  · rw [if_pos h]; exact ⟨_, rfl⟩
  · rw [if_neg h]; exact ⟨_, rfl⟩
theorem at_some {xs : List D} {i : Int} (h : 0 ≤ i) (h2 : i < xs.length) : ∃ d, atI xs i = some d := by
  obtain ⟨n, rfl⟩ : ∃ n : Nat, i = n := ⟨i.toNat, by omega⟩
  exact ⟨xs[n], atI_nat (List.getElem?_eq_getElem (by omega))⟩
theorem ev_at {x : Int} (h : 0 ≤ x ∧ x < 3) : ∃ nm ∈ EV, atI [D.tup [.str (PySem.Str.ofString "served"), .str (PySem.Str.ofString "reply"), .str (PySem.Str.ofString "paid")], .tup [.str (PySem.Str.ofString "b"), .str (PySem.Str.ofString "a"), .str (PySem.Str.ofString "ab")], .tup [.str (PySem.Str.ofString "e1"), .str (PySem.Str.ofString "e10"), .str (PySem.Str.ofString "e2")]] x = some (.tup (nm.map D.str)) := by
  have h1 : x = 0 ∨ x = 1 ∨ x = 2 := by omega
  rcases h1 with rfl | rfl | rfl
  · exact ⟨EV[0], by simp [EV], rfl⟩
  · exact ⟨EV[1], by simp [EV], rfl⟩
  · exact ⟨EV[2], by simp [EV], rfl⟩
theorem rn_at {x : Int} (h : 0 ≤ x ∧ x < 3) : ∃ nm : List PySem.Str, nm.length = 3 ∧ atI [D.tup [.str (PySem.Str.ofString "answer"), .str (PySem.Str.ofString "default"), .str (PySem.Str.ofString "appeal")], .tup [.str (PySem.Str.ofString "r10"), .str (PySem.Str.ofString "r1"), .str (PySem.Str.ofString "r")], .tup [.str (PySem.Str.ofString "x"), .str (PySem.Str.ofString "z"), .str (PySem.Str.ofString "y")]] x = some (.tup (nm.map D.str)) := by
  have h1 : x = 0 ∨ x = 1 ∨ x = 2 := by omega
  rcases h1 with rfl | rfl | rfl
  · exact ⟨RN[0], rfl, rfl⟩
  · exact ⟨RN[1], rfl, rfl⟩
  · exact ⟨RN[2], rfl, rfl⟩
def reI (v : Int) : D → D
  | .tup [a, _, c] => .tup [a, .int v, c]
  | d => d
def reInt (l : List D) (fi : Nat → Int) : List D := l.mapIdx fun i d => reI (fi i) d
theorem reInt_len {l : List D} {fi : Nat → Int} : (reInt l fi).length = l.length := List.length_mapIdx
theorem reInt_at {l : List D} {fi : Nat → Int} (i : Nat) : (reInt l fi)[i]? = (l[i]?).map (reI (fi i)) := List.getElem?_mapIdx
theorem RL.re {cs : List PySem.Str} {l : List D} (h : RL cs l) (fi : Nat → Int) : RL cs (reInt l fi) := by
  cases h with
  | one a x => exact .one a (fi 0)
  | two a b x y w => exact .two a b (fi 0) (fi 1) w
theorem reInt_step {l : List D} {fi : Nat → Int} {j : Nat} {a b c : D} (h : l[j]? = some (.tup [a, b, c])) {v : Int} : (reInt l fi).take j ++ [D.tup [a, .int v, c]] = (reInt l fun i => if i = j then v else fi i).take (j + 1) := by
  have hl := (List.getElem?_eq_some_iff.mp h).1
  rw [List.take_add_one, reInt_at, h]
  show _ = _ ++ [D.tup [a, .int (if j = j then v else fi j), c]]
  rw [if_pos rfl]
  congr 1
  apply List.ext_getElem?
  intro i
  by_cases hi : i < j
  · rw [List.getElem?_take_of_lt hi, List.getElem?_take_of_lt hi, reInt_at, reInt_at]
    rw [if_neg (by omega)]
  · rw [List.getElem?_eq_none (by rw [List.length_take]; omega), List.getElem?_eq_none (by rw [List.length_take]; omega)]
theorem ok__law_book (k : Nat) {rs : List Int} (h : Ns 40 rs) : Wv (run T (k + 3) f__law_book [.d (.lst (rs.map D.int)), .d (.int 2)] []) fun v _ => ∃ (cs ev : List PySem.Str) (f : PySem.Str → List D) (g : PySem.Str → List Int) (rd : D), (CsOk cs ∧ EvOk ev ∧ ∀ n ∈ cs, (g n).length ≤ 40) ∧ v = .d (.tup [.tup [.tup (cs.map (ru f)), .tup (ev.map D.str), rd], .dct (cs.map fun n => (.str n, iD (g n)))]) := by
  refine w_run (fn := fn__law_book) rfl rfl ?_
  simp only [fn__law_book, ir__law_book]
  obtain ⟨z0, hz0, e0⟩ := h.at 0 (by omega) (by omega)
  obtain ⟨z1, hz1, e1⟩ := h.at 1 (by omega) (by omega)
  obtain ⟨z9, hz9, e9⟩ := h.at 9 (by omega) (by omega)
  obtain ⟨z10, hz10, e10⟩ := h.at 10 (by omega) (by omega)
  obtain ⟨z11, hz11, e11⟩ := h.at 11 (by omega) (by omega)
  obtain ⟨nm, hnm, en⟩ := ok__law_names (k + 1) z0
  have en : run T (k + 2) f__law_names [.d (.int z0)] [] = .ok (.d (.tup (nm.map D.str))) [] := en
  obtain ⟨b, hb, ec⟩ := cut_n nm z1 1
  have hcs : CsOk (nm.take (1 + b)) := by
    have := List.all_eq_true.mp nm_ok nm hnm
    rw [Bool.and_eq_true] at this
    rcases hb with rfl | rfl
    · exact cs_of this.1
    · exact cs_of this.2
  have ec : cutG nm none (some (1 + z1 % 2)) = nm.take (1 + b) := ec
  obtain ⟨cs, hcs'⟩ : ∃ cs, cs = nm.take (1 + b) := ⟨_, rfl⟩
  rw [← hcs'] at hcs ec
  obtain ⟨en1, hen1, ee⟩ := ev_at (x := z9 % 3) ⟨Int.emod_nonneg _ (by omega), Int.emod_lt_of_pos _ (by omega)⟩
  obtain ⟨b2, hb2, ec2⟩ := cut_n en1 z10 2
  have hev : EvOk (en1.take (2 + b2)) := by
    have := List.all_eq_true.mp ev_ok en1 hen1
    rw [Bool.and_eq_true] at this
    rcases hb2 with rfl | rfl
    · exact ev_of this.1
    · exact ev_of this.2
  have ec2 : cutG en1 none (some (2 + z10 % 2)) = en1.take (2 + b2) := ec2
  obtain ⟨ev, hev'⟩ : ∃ ev, ev = en1.take (2 + b2) := ⟨_, rfl⟩
  rw [← hev'] at hev ec2
  obtain ⟨rn, hrn, er⟩ := rn_at (x := z9 / 3 % 3) ⟨Int.emod_nonneg _ (by omega), Int.emod_lt_of_pos _ (by omega)⟩
  have hel := hev.len
  have hcl := hcs.len
  walk_at "mp"
  simp only [e0]
  walk_at "mp"
  simp only [en]
  walk_at "mp"
  simp only [e1]
  walk_at "mp"
  rw [ec]
  -- the plain rules
  have tail : ∀ {l2 : List D}, RL cs l2 → ∃ (r1 r2 : D) (f : PySem.Str → List D) (g : PySem.Str → List Int), (∀ n ∈ cs, (g n).length ≤ 40) ∧ (∃ μ, run T (k + 2) f__law_closed [.d (.lst (rs.map D.int)), .d (.int 5), .d (.lst l2)] [] = .ok (.d (.dct (cs.map fun n => (.str n, iD (g n))))) μ) ∧ ∃ μ, run T (k + 2) f__law_known [.d (.lst (rs.map D.int)), .d (.int 27), .d (.lst l2), .d (.dct (cs.map fun n => (.str n, iD (g n))))] [] = .ok (.d (.tup (cs.map (ru f)))) μ := fun {l2} hr => by
    obtain ⟨_, μa, ea, g, hg, rfl⟩ := ok__law_closed k h hr hcs.nd hcs.ne
    obtain ⟨_, μb, eb, f, rfl⟩ := ok__law_known k h hr hcs.nd hg
    exact ⟨.non, .non, f, g, hg, ⟨μa, ea⟩, ⟨μb, eb⟩⟩
  have two : ∃ l μ, RL cs l ∧ run T (k + 2) f__law_rules [.d (.lst (rs.map D.int)), .d (.int 2), .d (.tup (cs.map D.str)), .d (.int cs.length)] [] = .ok (.d (.lst l)) μ := by
    rcases hcl with hcl | hcl
    · obtain ⟨a, rfl⟩ := List.length_eq_one_iff.mp hcl
      obtain ⟨_, μ, e, x, rfl⟩ := ok__law_rules1 (k + 1) h a
      exact ⟨_, μ, .one a x, e⟩
    · obtain ⟨a, b, rfl⟩ : ∃ a b, cs = [a, b] := by
        match cs, hcl with
        | [a, b], _ => exact ⟨a, b, rfl⟩
      obtain ⟨_, μ, e, x, y, w, rfl⟩ := ok__law_rules2 (k + 1) h a b
      exact ⟨_, μ, .two a b x y w, e⟩
  obtain ⟨l, μr, hl, el⟩ := two
  have hll := hl.len
  simp only [el]
  walk_at "mp"
  refine w_forL (f := Val.d) (fun j δ μ => ∃ fi : Nat → Int, Sx True δ [some (.d (.lst (rs.map D.int))), some (.d (.int 2)), some (.d (.tup (cs.map D.str))), some (.ref 0), none, none, none, none, none, none, none, none, none, none, none, none, none] μ [.lst (((reInt l fi).take j).map .d)]) (fun _ _ _ _ => trivial) ⟨fun _ => 0, trivial, rfl, rfl⟩ ?_ ?_
  · rintro j q _ _ hj ⟨fi, -, rfl, rfl⟩
    have hjl : j < cs.length := by rw [← hll.1]; exact (List.getElem?_eq_some_iff.mp hj).1
    obtain ⟨x, w, ex⟩ := hl.at' hjl
    rw [ex] at hj; cases hj
    obtain ⟨y, ey⟩ := at2i x 0 ((w == PySem.Str.ofString "") = false)
    have st := fun v => reInt_step (fi := fi) ex (v := v)
    have hrl : ((reInt l fi).take j).length ≤ 2 := by rw [List.length_take, reInt_len]; omega
    simp only [stepF]
    walk_at "mp"
    simp only [cmp_neS]
    walk_at "mp"
    simp only [ey]
    walk_at "mp"
    rw [st]
    exact ⟨_, trivial, rfl, rfl⟩
  · rintro _ _ ⟨fi, -, rfl, rfl⟩
    have hre : (reInt l fi).take l.length = reInt l fi := List.take_of_length_le (by rw [reInt_len]; exact Nat.le_refl _)
    rw [hre]
    obtain ⟨r1, r2, f, g, hg, ⟨μa, ea⟩, ⟨μb, eb⟩⟩ := tail (hl.re fi)
    walk_at "mp"
    simp only [ea]
    walk_at "mp"
    simp only [e9]
    walk_at "mp"
    simp only [ee]
    walk_at "mp"
    simp only [e10]
    walk_at "mp"
    rw [ec2]
    simp only [e9]
    walk_at "mp"
    simp only [er]
    walk_at "mp"
    simp only [e11]
    walk_at "mp"
    refine w_forR (fun j δ μ => ∃ rd : List D, Sx (rd.length = j) δ [some (.d (.lst (rs.map D.int))), some (.d (.int 2)), some (.d (.tup (cs.map D.str))), some (.ref 0), none, none, none, some (.d (.dct (cs.map fun n => (.str n, iD (g n))))), some (.d (.tup (ev.map D.str))), some (.d (.tup (rn.map D.str))), some (.ref 1), none, none, none, none, none, none] μ [.frz (.lst (reInt l fi)), .lst (rd.map .d)]) ⟨[], rfl, rfl, rfl⟩ ?_ ?_
    · rintro j _ _ hj ⟨rd, hrd, rfl, rfl⟩
      have hj2 : j ≤ 1 := by omega
      have hjr : j < rn.length := by omega
      obtain ⟨y12, hy12, q12⟩ := h.at (12 + (j : Int)) (by omega) (by omega)
      obtain ⟨y15, hy15, q15⟩ := h.at (15 + (j : Int)) (by omega) (by omega)
      obtain ⟨y18, hy18, q18⟩ := h.at (18 + (j : Int)) (by omega) (by omega)
      obtain ⟨y21, hy21, q21⟩ := h.at (21 + (j : Int)) (by omega) (by omega)
      obtain ⟨y24, hy24, q24⟩ := h.at (24 + (j : Int)) (by omega) (by omega)
      have htl : (rn.take j).length = j := by rw [List.length_take]; omega
      obtain ⟨on, -, eon⟩ := at_str (ns := ev ++ rn.take j) (by rw [List.length_append]; omega) y12
      rw [List.length_append, htl, List.map_append] at eon
      have eon : atI (ev.map D.str ++ (rn.take j).map D.str) (y12 % ((ev.length : Int) + j)) = some (.str on) := eon
      obtain ⟨_, μ5, e5, d5, rfl⟩ := ok__law_case_condition (k + 1) y15 y18 (cs := cs) (ev := ev) (rl := rn.take j) (by omega) (by omega) (by omega) (by omega) (by omega)
      obtain ⟨_, μ6, e6, d6, rfl⟩ := ok__law_case_term (k + 1) y21 y24 on (cs := cs) (ev := ev) (rl := rn.take j) (by omega) (by omega) (by omega) (by omega) (by omega)
      have e7 : ∀ μ, binV .mul (.d (.tup (ev.map D.str ++ [.str (PySem.Str.ofString "")]))) (.d (.int 2)) μ = .ok (.d (.tup (List.replicate 2 (ev.map D.str ++ [.str (PySem.Str.ofString "")])).flatten)) μ := fun μ => bin_repT μ (by unfold repOk; simp [List.length_append]; omega)
      have hm1 := Int.emod_nonneg (y12 / 10) (b := 2 * (ev.length : Int) + 1) (by omega)
      have hm2 := Int.emod_lt_of_pos (y12 / 10) (b := 2 * (ev.length : Int) + 1) (by omega)
      obtain ⟨dm, em⟩ := at_some (xs := (List.replicate 2 (ev.map D.str ++ [.str (PySem.Str.ofString "")])).flatten) hm1 (by simp [List.length_append]; omega)
      have e8 := at_strN hjr
      simp only [stepF]
      walk_at "mp"
      rw [List.map_take] at eon e5 e6
      rw [show k + 1 + 1 = k + 2 from rfl] at e5 e6
      simp only [q12]
      walk_at "mp"
      rw [eon]
      walk_at "mp"
      simp only [q15]
      walk_at "mp"
      simp only [q18]
      walk_at "mp"
      simp only [e5]
      walk_at "mp"
      simp only [q21]
      walk_at "mp"
      simp only [q24]
      walk_at "mp"
      simp only [e6]
      walk_at "mp"
      simp only [q12]
      walk_at "mp"
      simp only [e7]
      walk_at "mp"
      have em : atI [ev.map D.str ++ [.str (PySem.Str.ofString "")], ev.map D.str ++ [.str (PySem.Str.ofString "")]].flatten (y12 / 10 % (2 * (ev.length : Int) + 1)) = some dm := em
      simp only [em]
      walk_at "mp"
      simp only [e8]
      walk_at "mp"
      exact ⟨rd ++ [_], by simp [hrd], rfl, rfl⟩
    · rintro _ _ ⟨rd, hrd, rfl, rfl⟩
      walk_at "mp"
      have ef : freeze 8 (Val.ref 0) [Cell.frz (.lst (reInt l fi)), Cell.lst (rd.map Val.d)] = some (.lst (reInt l fi), [Cell.frz (.lst (reInt l fi)), Cell.lst (rd.map Val.d)]) := rfl
      rw [ef]
      walk_at "mp"
      simp only [eb]
      walk_at "mp"
      exact ⟨cs, ev, f, g, _, ⟨hcs, hev, hg⟩, rfl⟩
theorem fnd (k : Nat) {g : PySem.Str → D} {ns : List PySem.Str} {x : PySem.Str} (h : x ∈ ns) : run T (k + 1) f_found_in [.d (.tup (ns.map (prG g))), .d (.str x)] [] = .ok (.d (g x)) [] := by
  have : Wv (run T (k + 1) f_found_in [.d (.tup (ns.map (prG g))), .d (.str x)] []) fun v μ => v = .d (g x) ∧ μ = [] := by
    refine w_run (fn := fn_found_in) rfl rfl ?_
    simp only [fn_found_in, ir_found_in]
    walk_at "mp"
    refine w_forD (fun i δ μ => Sx (x ∉ ns.take i) δ [some (.d (.tup (ns.map (prG g)))), some (.d (.str x)), none, none] μ []) (fun _ _ _ _ => trivial) ⟨by simp, rfl, rfl⟩ ?_ ?_
    · rintro i y _ _ hi ⟨hn, rfl, rfl⟩
      have ec : ∀ μ, cmpop .eq (.d (.str y)) (.d (.str x)) μ = some (y == x) := fun μ => rfl
      simp only [stepF, prG]
      walk_at "mp"
      simp only [ec]
      walk_at "mp"
      refine w_ifb (fun h => ?_) (fun h => ?_)
      · rw [eq_of_beq h]
        walk_at "mp"
      · walk_at "mp"
        refine ⟨?_, rfl, rfl⟩
        rw [List.take_add_one, hi, List.mem_append, not_or]
        refine ⟨hn, fun z => ?_⟩
        rw [Option.toList_some, List.mem_singleton] at z
        rw [z, beq_self_eq_true] at h; cases h
    · rintro _ _ ⟨hn, rfl, rfl⟩
      rw [List.take_length] at hn
      exact absurd h hn
  obtain ⟨_, _, e, rfl, rfl⟩ := this
  exact e
theorem fnd_no (k : Nat) {g : PySem.Str → D} {ns : List PySem.Str} {x : PySem.Str} (hx : x.length ≤ 1000) (h : x ∉ ns) : run T (k + 1) f_found_in [.d (.tup (ns.map (prG g))), .d (.str x)] [] = .ex (.fld c_Missing (PySem.Str.ofString "name") (.str x)) [] := by
  refine w_runx (fn := fn_found_in) rfl rfl ?_
  simp only [fn_found_in, ir_found_in]
  walk_at "mp"
  refine w_forD (fun i δ μ => Sx True δ [some (.d (.tup (ns.map (prG g)))), some (.d (.str x)), none, none] μ []) (fun _ _ _ _ => trivial) ⟨trivial, rfl, rfl⟩ ?_ ?_
  · rintro i y _ _ hi ⟨-, rfl, rfl⟩
    have ec : ∀ μ, cmpop .eq (.d (.str y)) (.d (.str x)) μ = some (y == x) := fun μ => rfl
    have hm : y ∈ ns := List.mem_of_getElem? hi
    have hne : y ≠ x := fun z => h (z ▸ hm)
    simp only [stepF, prG]
    walk_at "mp"
    simp only [ec]
    walk_at "mp"
    refine w_ifb (fun h => absurd (eq_of_beq h) hne) (fun h => ?_)
    walk_at "mp"
    exact ⟨trivial, rfl, rfl⟩
  · rintro _ _ ⟨-, rfl, rfl⟩
    walk_at "mp"
    exact ⟨_, rfl⟩
theorem cal_of (k : Nat) {g : PySem.Str → D} {ns : List PySem.Str} {x : PySem.Str} (b c : D) (h : x ∈ ns) : run T (k + 2) f_calendar_of [.d (.tup [.tup (ns.map (prG g)), b, c]), .d (.str x)] [] = .ok (.d (g x)) [] := by
  have e := fnd k (g := g) h
  rw [run_of (fn := fn_calendar_of) rfl _ _ _ rfl]
  simp only [fn_calendar_of, ir_calendar_of]
  walk_at "mp"
  simp only [e]
  walk_at "mp"
theorem cal_no (k : Nat) {g : PySem.Str → D} {ns : List PySem.Str} {x : PySem.Str} (b c : D) (hx : x.length ≤ 1000) (h : x ∉ ns) : run T (k + 2) f_calendar_of [.d (.tup [.tup (ns.map (prG g)), b, c]), .d (.str x)] [] = .ex (.fld c_Missing (PySem.Str.ofString "name") (.str x)) [] := by
  have e := fnd_no k (g := g) hx h
  rw [run_of (fn := fn_calendar_of) rfl _ _ _ rfl]
  simp only [fn_calendar_of, ir_calendar_of]
  walk_at "mp"
  simp only [e]
  walk_at "mp"
theorem day_of (k : Nat) {g : PySem.Str → D} {ns : List PySem.Str} {x : PySem.Str} (a c : D) (h : x ∈ ns) : run T (k + 2) f_day_of [.d (.tup [a, .tup (ns.map (prG g)), c]), .d (.str x)] [] = .ok (.d (g x)) [] := by
  have e := fnd k (g := g) h
  rw [run_of (fn := fn_day_of) rfl _ _ _ rfl]
  simp only [fn_day_of, ir_day_of]
  walk_at "mp"
  simp only [e]
  walk_at "mp"
theorem day_no (k : Nat) {g : PySem.Str → D} {ns : List PySem.Str} {x : PySem.Str} (a c : D) (hx : x.length ≤ 1000) (h : x ∉ ns) : run T (k + 2) f_day_of [.d (.tup [a, .tup (ns.map (prG g)), c]), .d (.str x)] [] = .ex (.fld c_Missing (PySem.Str.ofString "name") (.str x)) [] := by
  have e := fnd_no k (g := g) hx h
  rw [run_of (fn := fn_day_of) rfl _ _ _ rfl]
  simp only [fn_day_of, ir_day_of]
  walk_at "mp"
  simp only [e]
  walk_at "mp"
theorem flag_of (k : Nat) {g : PySem.Str → D} {ns : List PySem.Str} {x : PySem.Str} (a b : D) (h : x ∈ ns) : run T (k + 2) f_flag_of [.d (.tup [a, b, .tup (ns.map (prG g))]), .d (.str x)] [] = .ok (.d (g x)) [] := by
  have e := fnd k (g := g) h
  rw [run_of (fn := fn_flag_of) rfl _ _ _ rfl]
  simp only [fn_flag_of, ir_flag_of]
  walk_at "mp"
  simp only [e]
  walk_at "mp"
theorem flag_no (k : Nat) {g : PySem.Str → D} {ns : List PySem.Str} {x : PySem.Str} (a b : D) (hx : x.length ≤ 1000) (h : x ∉ ns) : run T (k + 2) f_flag_of [.d (.tup [a, b, .tup (ns.map (prG g))]), .d (.str x)] [] = .ex (.fld c_Missing (PySem.Str.ofString "name") (.str x)) [] := by
  have e := fnd_no k (g := g) hx h
  rw [run_of (fn := fn_flag_of) rfl _ _ _ rfl]
  simp only [fn_flag_of, ir_flag_of]
  walk_at "mp"
  simp only [e]
  walk_at "mp"
theorem nog {μ : Heap} : guardOk [] μ := trivial
theorem mapd_comp {α : Type} (f : α → D) (xs : List α) : xs.map (fun n => Val.d (f n)) = (xs.map f).map .d := by rw [List.map_map]; rfl
theorem tb_keys (g : PySem.Str → D) (ns : List PySem.Str) : List.map (fun x => x.fst) (List.map (fun p : D × D => (p.fst, Val.d p.snd)) (tbG g ns)) = ns.map D.str := by
  unfold tbG; rw [List.map_map, List.map_map]; rfl
theorem tb_len (g : PySem.Str → D) (ns : List PySem.Str) : (tbG g ns).length = ns.length := List.length_map ..
theorem ok_pairs_of (k : Nat) (g : PySem.Str → D) {ns : List PySem.Str} (h : ns.length ≤ 60) : run T (k + 1) f_pairs_of [.d (.dct (tbG g ns))] [] = .ok (.d (.tup ((sortT ns).map (prG g)))) [] := by
  have hl : (sortT ns).length ≤ 60 := by rw [sortT_len]; exact h
  rw [run_of (fn := fn_pairs_of) rfl _ _ _ rfl]
  simp only [fn_pairs_of, ir_pairs_of]
  walk_at "mp"
  simp only [tb_keys, tb_len]
  rw [sort_ifT (by omega)]
  walk_at "mp"
  rw [collect_D (fun n => Val.d (prG g n)) nog]
  · rw [mapd_comp]
    walk_at "mp"
  · intro n hn
    have hk : lookD (.str n) (tbG g ns) = some (g n) := by
      unfold tbG
      rw [lookD_tb, if_pos (mem_sortT.mp hn)]
    simp only [lcF]
    walk_at "mp"
    simp only [hk, show isKey0 (.str n) = true from rfl]
    walk_at "mp"
    rfl
abbrev bkD (f : PySem.Str → List D) (cs ev : List PySem.Str) (rd : D) : D := .tup [.tup (cs.map (ru f)), .tup (ev.map D.str), rd]
theorem k_all {α : Type} (f : PySem.Str → α) (ns : List PySem.Str) : ((ns.map fun n => (D.str n, f n)).all fun p => isKey0 p.fst) = true := List.all_eq_true.mpr fun p hp => by
  obtain ⟨n, -, rfl⟩ := List.mem_map.mp hp
  rfl
theorem s_all (g : PySem.Str → D) (ns : List PySem.Str) : ((ns.map fun n => (D.str n, Val.d (g n))).map (fun x => x.snd)).all simple = true := List.all_eq_true.mpr fun p hp => by
  rw [List.map_map] at hp
  obtain ⟨n, -, rfl⟩ := List.mem_map.mp hp
  rfl
theorem snaps_k (μ : Heap) (g : PySem.Str → D) (ns : List PySem.Str) : mapO (snap μ 0) ((ns.map fun n => (D.str n, Val.d (g n))).map (fun x => x.snd)) = some (ns.map g) := by
  rw [List.map_map]
  have := snaps_d μ 0 (ns.map g)
  rw [List.map_map] at this
  exact this
theorem zip_k (g : PySem.Str → D) : ∀ ns : List PySem.Str, (((ns.map fun n => (D.str n, Val.d (g n))).map (fun x => x.fst)).zip (ns.map g)) = tbG g ns
  | [] => rfl
  | n :: ns => by
    show _ :: _ = _ :: _
    congr 1
    exact zip_k g ns
theorem isk_s (n : PySem.Str) : isKey0 (.str n) = true := rfl
theorem tb_vals (g : PySem.Str → D) (ns : List PySem.Str) : (tbG g ns).map (fun p => (p.fst, Val.d p.snd)) = ns.map fun n => (D.str n, Val.d (g n)) := by
  unfold tbG; rw [List.map_map]; rfl
theorem up_int (d : PySem.Str → Int) {ev fs : List PySem.Str} (h2 : ev.Nodup) (hs : ∀ n ∈ fs, n ∈ ev) : (fs.map fun n => (D.str n, Val.d (gI d n))).foldl (fun acc p => putD p.fst p.snd acc) (ev.map fun n => (D.str n, Val.d (.int 0))) = ev.map fun n => (D.str n, Val.d (gI (fun e => if e ∈ fs then d e else 0) n)) := by
  rw [fold_old (fun _ => Val.d (.int 0)) (fun n => Val.d (gI d n)) fs h2 hs]
  refine List.map_congr_left fun n _ => ?_
  by_cases h : n ∈ fs
  · simp only [gI, if_pos h]
  · simp only [gI, if_neg h]
theorem up_bl {ev fs : List PySem.Str} (h2 : ev.Nodup) (hs : ∀ n ∈ fs, n ∈ ev) : (fs.map fun n => (D.str n, Val.d (.bl true))).foldl (fun acc p => putD p.fst p.snd acc) (ev.map fun n => (D.str n, Val.d (.bl false))) = ev.map fun n => (D.str n, Val.d (.bl (decide (n ∈ fs)))) := by
  rw [fold_old (fun _ => Val.d (.bl false)) (fun n => Val.d (.bl true)) fs h2 hs]
  refine List.map_congr_left fun n _ => ?_
  by_cases h : n ∈ fs
  · simp only [if_pos h, decide_eq_true h]
  · simp only [if_neg h, decide_eq_false h]
theorem ok_world_of (k : Nat) {f : PySem.Str → List D} {s : PySem.Str → D} {d : PySem.Str → Int} {cs cc ev fs : List PySem.Str} {rd : D} (h1 : cc.Nodup) (h2 : ev.Nodup) (h3 : fs.Nodup) (l1 : cc.length ≤ 60) (l2 : ev.length ≤ 60) (l3 : fs.length ≤ 60) (hs : ∀ n ∈ fs, n ∈ ev) : Wv (run T (k + 2) f_world_of [.d (bkD f cs ev rd), .d (.tup [.tup (cc.map (prG s)), .tup (fs.map (prG (gI d)))])] []) fun v _ => v = .d (.tup [.tup ((sortT cc).map (prG s)), .tup ((sortT ev).map (prG (gI fun e => if e ∈ fs then d e else 0))), .tup ((sortT ev).map (prG fun e => .bl (decide (e ∈ fs))))]) := by
  refine w_run (fn := fn_world_of) rfl rfl ?_
  simp only [fn_world_of, ir_world_of]
  walk_at "mp"
  rw [collect_D (fun n => (D.str n, Val.d (.int 0))) nog]
  · walk_at "mp"
    rw [fold_new0 (fun _ => Val.d (.int 0)) h2, k_all, s_all fun _ => .int 0]
    walk_at "mp"
    rw [collect_D (fun n => (D.str n, Val.d (gI d n))) nog]
    · walk_at "mp"
      rw [fold_new0 (fun n => Val.d (gI d n)) h3, k_all, snaps_k]
      walk_at "mp"
      simp only [zip_k, tb_vals, tb_len]
      rw [s_all (gI d), up_int d h2 hs]
      walk_at "mp"
      rw [collect_D (fun n => (D.str n, Val.d (.bl false))) nog]
      · walk_at "mp"
        rw [fold_new0 (fun _ => Val.d (.bl false)) h2, k_all, s_all fun _ => .bl false]
        walk_at "mp"
        rw [collect_D (fun n => (D.str n, Val.d (.bl true))) nog]
        · walk_at "mp"
          rw [fold_new0 (fun n => Val.d (.bl true)) h3, k_all, snaps_k _ fun _ => .bl true]
          walk_at "mp"
          simp only [zip_k fun _ => .bl true, tb_vals, tb_len]
          rw [s_all (fun _ => .bl true), up_bl h2 hs]
          walk_at "mp"
          rw [collect_D (fun n => (D.str n, Val.d (s n))) nog]
          · walk_at "mp"
            rw [fold_new0 (fun n => Val.d (s n)) h1, k_all, snaps_k]
            walk_at "mp"
            rw [zip_k]
            simp only [ok_pairs_of k s l1]
            walk_at "mp"
            simp only [snaps_k _ fun e => D.bl (decide (e ∈ fs)), snaps_k _ (gI _), zip_k (gI _), zip_k fun e => D.bl (decide (e ∈ fs))]
            walk_at "mp"
            simp only [ok_pairs_of k _ l2]
            walk_at "mp"
            simp only [snaps_k _ fun e => D.bl (decide (e ∈ fs)), zip_k fun e => D.bl (decide (e ∈ fs))]
            walk_at "mp"
            simp only [ok_pairs_of k _ l2]
            walk_at "mp"
          · intro n hn
            simp only [dcF, prG]
            walk_at "mp"
            simp only [isk_s]
            walk_at "mp"
        · intro n hn
          simp only [dcF, prG]
          walk_at "mp"
          simp only [isk_s]
          walk_at "mp"
      · intro n hn
        simp only [dcF, prG]
        walk_at "mp"
        simp only [isk_s]
        walk_at "mp"
    · intro n hn
      simp only [dcF, prG]
      walk_at "mp"
      simp only [isk_s]
      walk_at "mp"
  · intro n hn
    simp only [dcF]
    walk_at "mp"
    simp only [isk_s]
    walk_at "mp"
theorem w_runxE {f : Nat} {fn : Fn} {k : Nat} {args : List Val} {μ : Heap} {x : Exn} (h : T.fn f = some fn) (hl : args.length = fn.npar)
    (w : Wr (exSs T (run T k) (run1 T k) fn.body (args.map some ++ List.replicate (fn.nslot - fn.npar) none) μ) fun r => ∃ δ μ', r = .ex x δ μ') : ∃ μ', run T (k + 1) f args μ = .ex x μ' := by
  rw [run_of h k args μ hl]
  obtain ⟨δ, μ', e⟩ := w
  exact ⟨μ', by rw [e]; rfl⟩
abbrev wD (s : PySem.Str → D) (d : PySem.Str → Int) (q : PySem.Str → Bool) (wc wd wf : List PySem.Str) : D := .tup [.tup (wc.map (prG s)), .tup (wd.map (prG (gI d))), .tup (wf.map (prG fun e => .bl (q e)))]
theorem flt_step (q : PySem.Str → Bool) (d : PySem.Str → Int) {l : List PySem.Str} {j : Nat} {y : PySem.Str} (h : l[j]? = some y) : ((l.take (j + 1)).filter q).map (prG (gI d)) = ((l.take j).filter q).map (prG (gI d)) ++ if q y = true then [D.tup [.str y, .int (d y)]] else [] := by
  rw [List.take_add_one, h, Option.toList_some, List.filter_append, List.map_append]
  congr 1
  cases hq : q y <;> simp [List.filter_cons, hq, prG, gI]
theorem ok_history_of (k : Nat) {f : PySem.Str → List D} {s : PySem.Str → D} {d : PySem.Str → Int} {q : PySem.Str → Bool} {cs ev wc wd wf : List PySem.Str} {rd : D} (l1 : cs.length ≤ 3) (l2 : ev.length ≤ 3) (h1 : ∀ n ∈ cs, n ∈ wc) (h2 : ∀ n ∈ ev, n ∈ wd) (h3 : ∀ n ∈ ev, n ∈ wf) : Wv (run T (k + 3) f_history_of [.d (bkD f cs ev rd), .d (wD s d q wc wd wf)] []) fun v _ => v = .d (.tup [.tup ((sortT cs).map (prG s)), .tup (((sortT ev).filter q).map (prG (gI d)))]) := by
  have hl1 : (sortT cs).length ≤ 3 := by rw [sortT_len]; exact l1
  have hl2 : (sortT ev).length ≤ 3 := by rw [sortT_len]; exact l2
  refine w_run (fn := fn_history_of) rfl rfl ?_
  simp only [fn_history_of, ir_history_of]
  walk_at "mp"
  rw [collect_D (fun n => Val.d (.str n)) nog]
  · rw [mapd_comp D.str]
    have e1 := fun X => sort_ifL (ns := cs) (by omega) X
    walk_at "mp"
    simp only [e1]
    walk_at "mp"
    rw [collect_D (fun n => Val.d (prG s n)) nog]
    · rw [mapd_comp (prG s)]
      walk_at "mp"
      rw [sort_ifT (by omega)]
      walk_at "mp"
      refine w_forD (f := D.str) (fun j δ μ => Sx True δ [some (.d (bkD f cs ev rd)), some (.d (wD s d q wc wd wf)), some (.d (.tup ((sortT cs).map (prG s)))), some (.ref 0), none, none, none, none] μ [.lst (((((sortT ev).take j).filter q).map (prG (gI d))).map .d)]) (fun _ _ _ _ => trivial) ⟨trivial, rfl, rfl⟩ ?_ ?_
      · rintro j y _ _ hj ⟨-, rfl, rfl⟩
        have hy : y ∈ ev := mem_sortT.mp (List.mem_of_getElem? hj)
        have e2 := day_of k (g := gI d) (.tup (wc.map (prG s))) (.tup (wf.map (prG fun e => .bl (q e)))) (h2 y hy)
        have e3 := flag_of k (g := fun e => .bl (q e)) (.tup (wc.map (prG s))) (.tup (wd.map (prG (gI d)))) (h3 y hy)
        have hst := flt_step q d hj
        have hsl : (((sortT ev).take j).filter q).length ≤ 3 := Nat.le_trans (List.length_filter_le _ _) (by rw [List.length_take]; omega)
        simp only [stepF]
        walk_at "mp"
        simp only [e2]
        walk_at "mp"
        simp only [e3]
        walk_at "mp"
        refine w_ifb (fun h => ?_) (fun h => ?_)
        · rw [if_pos h] at hst
          walk_at "mp"
          rw [hst]
          exact ⟨trivial, rfl, rfl⟩
        · rw [if_neg (by rw [h]; decide), List.append_nil] at hst
          walk_at "mp"
          rw [hst]
          exact ⟨trivial, rfl, rfl⟩
      · rintro _ _ ⟨-, rfl, rfl⟩
        rw [List.take_length]
        walk_at "mp"
        trace_state
    · intro n hn
      have e := cal_of k (g := s) (.tup (wd.map (prG (gI d)))) (.tup (wf.map (prG fun e => .bl (q e)))) (h1 n (mem_sortT.mp hn))
      simp only [lcF]
      walk_at "mp"
      simp only [e]
      walk_at "mp"
      rfl
  · intro n hn
    simp only [lcF, ru]
    walk_at "mp"
theorem collect_exD {α β : Type} {step : Val → Heap → Res (List β)} {f : α → D} {μ : Heap} (k : α → β) {y : D} {e : Exn} {μ' : Heap} (rest : List Val) : ∀ (xs : List α), (∀ x ∈ xs, step (.d (f x)) μ = .ok [k x] μ) → step (.d y) μ = .ex e μ' → collect [] step ((xs.map f).map .d ++ .d y :: rest) μ = .ex e μ'
  | [], _, hy => by
    rw [List.map_nil, List.map_nil, List.nil_append, collect_cons, hy]; rfl
  | x :: xs, h, hy => by
    rw [List.map_cons, List.map_cons, List.cons_append, collect_cons, h x List.mem_cons_self]
    simp only [bnd_ok]
    rw [collect_exD k rest xs (fun z hz => h z (List.mem_cons_of_mem _ hz)) hy]
    rfl
theorem hist_no1 (k : Nat) {f : PySem.Str → List D} {s : PySem.Str → D} {d : PySem.Str → Int} {q : PySem.Str → Bool} {cs ev wc wd wf : List PySem.Str} {rd : D} (l1 : cs.length ≤ 3) (l2 : ev.length ≤ 3) {x : PySem.Str} (hx : x.length ≤ 1000) (hm : x ∈ cs) (hn : x ∉ wc) (h1 : ∀ n ∈ cs, n ≠ x → n ∈ wc) : ∃ μ, run T (k + 3) f_history_of [.d (bkD f cs ev rd), .d (wD s d q wc wd wf)] [] = .ex (.fld c_Missing (PySem.Str.ofString "name") (.str x)) μ := by
  have hl1 : (sortT cs).length ≤ 3 := by rw [sortT_len]; exact l1
  obtain ⟨as, bs, hab, hna⟩ := List.eq_append_cons_of_mem (mem_sortT.mpr hm)
  refine w_runxE (fn := fn_history_of) rfl rfl ?_
  simp only [fn_history_of, ir_history_of]
  walk_at "mp"
  rw [collect_D (fun n => Val.d (.str n)) nog]
  · rw [mapd_comp D.str]
    have e1 := fun X => sort_ifL (ns := cs) (by omega) X
    walk_at "mp"
    simp only [e1]
    walk_at "mp"
    rw [hab, List.map_append, List.map_append, List.map_cons, List.map_cons]
    rw [collect_exD (fun n => Val.d (prG s n)) (e := .fld c_Missing (PySem.Str.ofString "name") (.str x)) (μ' := [])]
    · walk_at "mp"
      exact ⟨_, _, rfl⟩
    · intro n hn
      have hc : n ∈ cs := mem_sortT.mp (hab ▸ List.mem_append_left _ hn)
      have e := cal_of k (g := s) (.tup (wd.map (prG (gI d)))) (.tup (wf.map (prG fun e => .bl (q e)))) (h1 n hc fun z => hna (z ▸ hn))
      simp only [lcF]
      walk_at "mp"
      simp only [e]
      walk_at "mp"
      rfl
    · have e := cal_no k (g := s) (.tup (wd.map (prG (gI d)))) (.tup (wf.map (prG fun e => .bl (q e)))) hx hn
      simp only [lcF]
      walk_at "mp"
      simp only [e]
      walk_at "mp"
  · intro n hn
    simp only [lcF, ru]
    walk_at "mp"
theorem hist_no2 (k : Nat) {f : PySem.Str → List D} {s : PySem.Str → D} {d : PySem.Str → Int} {q : PySem.Str → Bool} {cs ev wc wd wf : List PySem.Str} {rd : D} (l1 : cs.length ≤ 3) (l2 : ev.length ≤ 3) {x : PySem.Str} (hx : x.length ≤ 1000) (h1 : ∀ n ∈ cs, n ∈ wc) (hm : x ∈ ev) (hn : x ∉ wd) (h2 : ∀ n ∈ ev, n ≠ x → n ∈ wd) (h3 : ∀ n ∈ ev, n ≠ x → n ∈ wf) : ∃ μ, run T (k + 3) f_history_of [.d (bkD f cs ev rd), .d (wD s d q wc wd wf)] [] = .ex (.fld c_Missing (PySem.Str.ofString "name") (.str x)) μ := by
  have hl1 : (sortT cs).length ≤ 3 := by rw [sortT_len]; exact l1
  have hl2 : (sortT ev).length ≤ 3 := by rw [sortT_len]; exact l2
  refine w_runxE (fn := fn_history_of) rfl rfl ?_
  simp only [fn_history_of, ir_history_of]
  walk_at "mp"
  rw [collect_D (fun n => Val.d (.str n)) nog]
  · rw [mapd_comp D.str]
    have e1 := fun X => sort_ifL (ns := cs) (by omega) X
    walk_at "mp"
    simp only [e1]
    walk_at "mp"
    rw [collect_D (fun n => Val.d (prG s n)) nog]
    · rw [mapd_comp (prG s)]
      walk_at "mp"
      rw [sort_ifT (by omega)]
      walk_at "mp"
      refine w_forD (f := D.str) (fun j δ μ => Sx (x ∉ (sortT ev).take j) δ [some (.d (bkD f cs ev rd)), some (.d (wD s d q wc wd wf)), some (.d (.tup ((sortT cs).map (prG s)))), some (.ref 0), none, none, none, none] μ [.lst (((((sortT ev).take j).filter q).map (prG (gI d))).map .d)]) (fun _ _ _ _ => trivial) ⟨by simp, rfl, rfl⟩ ?_ ?_
      · rintro j y _ _ hj ⟨hnt, rfl, rfl⟩
        have hy : y ∈ ev := mem_sortT.mp (List.mem_of_getElem? hj)
        have htk : y ≠ x → x ∉ (sortT ev).take (j + 1) := fun hyx => by
          rw [List.take_add_one, hj, List.mem_append, not_or, Option.toList_some, List.mem_singleton]
          exact ⟨hnt, fun z => hyx z.symm⟩
        have hst := flt_step q d hj
        have hsl : (((sortT ev).take j).filter q).length ≤ 3 := Nat.le_trans (List.length_filter_le _ _) (by rw [List.length_take]; omega)
        by_cases hyx : y = x
        · have e2 := day_no k (g := gI d) (.tup (wc.map (prG s))) (.tup (wf.map (prG fun e => .bl (q e)))) hx hn
          rw [hyx]
          simp only [stepF]
          walk_at "mp"
          simp only [e2]
          walk_at "mp"
          exact ⟨_, _, rfl⟩
        have e2 := day_of k (g := gI d) (.tup (wc.map (prG s))) (.tup (wf.map (prG fun e => .bl (q e)))) (h2 y hy hyx)
        have e3 := flag_of k (g := fun e => .bl (q e)) (.tup (wc.map (prG s))) (.tup (wd.map (prG (gI d)))) (h3 y hy hyx)
        simp only [stepF]
        walk_at "mp"
        simp only [e2]
        walk_at "mp"
        simp only [e3]
        walk_at "mp"
        refine w_ifb (fun h => ?_) (fun h => ?_)
        · rw [if_pos h] at hst
          walk_at "mp"
          rw [hst]
          exact ⟨htk hyx, rfl, rfl⟩
        · rw [if_neg (by rw [h]; decide), List.append_nil] at hst
          walk_at "mp"
          rw [hst]
          exact ⟨htk hyx, rfl, rfl⟩
      · rintro _ _ ⟨hnt, rfl, rfl⟩
        rw [List.take_length] at hnt
        exact absurd (mem_sortT.mpr hm) hnt
    · intro n hn
      have e := cal_of k (g := s) (.tup (wd.map (prG (gI d)))) (.tup (wf.map (prG fun e => .bl (q e)))) (h1 n (mem_sortT.mp hn))
      simp only [lcF]
      walk_at "mp"
      simp only [e]
      walk_at "mp"
      rfl
  · intro n hn
    simp only [lcF, ru]
    walk_at "mp"
theorem hist_no3 (k : Nat) {f : PySem.Str → List D} {s : PySem.Str → D} {d : PySem.Str → Int} {q : PySem.Str → Bool} {cs ev wc wd wf : List PySem.Str} {rd : D} (l1 : cs.length ≤ 3) (l2 : ev.length ≤ 3) {x : PySem.Str} (hx : x.length ≤ 1000) (h1 : ∀ n ∈ cs, n ∈ wc) (hm : x ∈ ev) (h2 : ∀ n ∈ ev, n ∈ wd) (hn : x ∉ wf) (h3 : ∀ n ∈ ev, n ≠ x → n ∈ wf) : ∃ μ, run T (k + 3) f_history_of [.d (bkD f cs ev rd), .d (wD s d q wc wd wf)] [] = .ex (.fld c_Missing (PySem.Str.ofString "name") (.str x)) μ := by
  have hl1 : (sortT cs).length ≤ 3 := by rw [sortT_len]; exact l1
  have hl2 : (sortT ev).length ≤ 3 := by rw [sortT_len]; exact l2
  refine w_runxE (fn := fn_history_of) rfl rfl ?_
  simp only [fn_history_of, ir_history_of]
  walk_at "mp"
  rw [collect_D (fun n => Val.d (.str n)) nog]
  · rw [mapd_comp D.str]
    have e1 := fun X => sort_ifL (ns := cs) (by omega) X
    walk_at "mp"
    simp only [e1]
    walk_at "mp"
    rw [collect_D (fun n => Val.d (prG s n)) nog]
    · rw [mapd_comp (prG s)]
      walk_at "mp"
      rw [sort_ifT (by omega)]
      walk_at "mp"
      refine w_forD (f := D.str) (fun j δ μ => Sx (x ∉ (sortT ev).take j) δ [some (.d (bkD f cs ev rd)), some (.d (wD s d q wc wd wf)), some (.d (.tup ((sortT cs).map (prG s)))), some (.ref 0), none, none, none, none] μ [.lst (((((sortT ev).take j).filter q).map (prG (gI d))).map .d)]) (fun _ _ _ _ => trivial) ⟨by simp, rfl, rfl⟩ ?_ ?_
      · rintro j y _ _ hj ⟨hnt, rfl, rfl⟩
        have hy : y ∈ ev := mem_sortT.mp (List.mem_of_getElem? hj)
        have htk : y ≠ x → x ∉ (sortT ev).take (j + 1) := fun hyx => by
          rw [List.take_add_one, hj, List.mem_append, not_or, Option.toList_some, List.mem_singleton]
          exact ⟨hnt, fun z => hyx z.symm⟩
        have hst := flt_step q d hj
        have hsl : (((sortT ev).take j).filter q).length ≤ 3 := Nat.le_trans (List.length_filter_le _ _) (by rw [List.length_take]; omega)
        by_cases hyx : y = x
        · have e2 := day_of k (g := gI d) (.tup (wc.map (prG s))) (.tup (wf.map (prG fun e => .bl (q e)))) (h2 y hy)
          have e3 := flag_no k (g := fun e => .bl (q e)) (.tup (wc.map (prG s))) (.tup (wd.map (prG (gI d)))) hx hn
          rw [hyx] at e2 ⊢
          simp only [stepF]
          walk_at "mp"
          simp only [e2]
          walk_at "mp"
          simp only [e3]
          walk_at "mp"
          exact ⟨_, _, rfl⟩
        have e2 := day_of k (g := gI d) (.tup (wc.map (prG s))) (.tup (wf.map (prG fun e => .bl (q e)))) (h2 y hy)
        have e3 := flag_of k (g := fun e => .bl (q e)) (.tup (wc.map (prG s))) (.tup (wd.map (prG (gI d)))) (h3 y hy hyx)
        simp only [stepF]
        walk_at "mp"
        simp only [e2]
        walk_at "mp"
        simp only [e3]
        walk_at "mp"
        refine w_ifb (fun h => ?_) (fun h => ?_)
        · rw [if_pos h] at hst
          walk_at "mp"
          rw [hst]
          exact ⟨htk hyx, rfl, rfl⟩
        · rw [if_neg (by rw [h]; decide), List.append_nil] at hst
          walk_at "mp"
          rw [hst]
          exact ⟨htk hyx, rfl, rfl⟩
      · rintro _ _ ⟨hnt, rfl, rfl⟩
        rw [List.take_length] at hnt
        exact absurd (mem_sortT.mpr hm) hnt
    · intro n hn
      have e := cal_of k (g := s) (.tup (wd.map (prG (gI d)))) (.tup (wf.map (prG fun e => .bl (q e)))) (h1 n (mem_sortT.mp hn))
      simp only [lcF]
      walk_at "mp"
      simp only [e]
      walk_at "mp"
      rfl
  · intro n hn
    simp only [lcF, ru]
    walk_at "mp"
theorem ok_missing (k : Nat) {b w : D} {x : PySem.Str} (h : ∃ μ, run T (k + 3) f_history_of [.d b, .d w] [] = .ex (.fld c_Missing (PySem.Str.ofString "name") (.str x)) μ) : Wv (run T (k + 4) f__law_missing [.d b, .d w, .d (.str x)] []) fun v _ => v = .d (.bl true) := by
  obtain ⟨μ, e⟩ := h
  have q : ∀ μ, cmpop .eq (.d (.str x)) (.d (.str x)) μ = some true := fun μ => by
    show some (x == x) = _
    rw [beq_self_eq_true]
  refine w_run (fn := fn__law_missing) rfl rfl ?_
  simp only [fn__law_missing, ir__law_missing]
  walk_at "mp"
  simp only [e]
  walk_at "mp"
  simp only [q]
  walk_at "mp"
theorem ok_without (k : Nat) (g : PySem.Str → D) {ns : List PySem.Str} (hl : ns.length ≤ 60) (x : PySem.Str) : run T (k + 1) f__law_without [.d (.tup (ns.map (prG g))), .d (.str x)] [] = .ok (.d (.tup ((ns.filter fun n => !(n == x)).map (prG g)))) [] := by
  have hfl : (ns.filter fun n => !(n == x)).length ≤ 60 := Nat.le_trans (List.length_filter_le _ _) hl
  rw [run_of (fn := fn__law_without) rfl _ _ _ rfl]
  simp only [fn__law_without, ir__law_without]
  walk_at "mp"
  rw [← mapd_comp (prG g) ns, collect_filter (fun n => Val.d (prG g n)) (fun n => !(n == x)) (fun n => Val.d (prG g n)) nog]
  · rw [mapd_comp]
    walk_at "mp"
  · intro n hn
    simp only [lcF, prG]
    walk_at "mp"
    simp only [cmp_neS]
    walk_at "mp"
mutual
theorem eqv_refl : ∀ d : D, plain d = true → eqv d d = true
  | .non, _ => rfl
  | .bl b, _ => by show (b == b) = true; exact beq_self_eq_true b
  | .int i, _ => by show (i == i) = true; exact beq_self_eq_true i
  | .str s, _ => by show (s == s) = true; exact beq_self_eq_true s
  | .lst ds, h => by show eqvs ds ds = true; exact eqvs_refl ds h
  | .tup ds, h => by show eqvs ds ds = true; exact eqvs_refl ds h
theorem eqvs_refl : ∀ ds : List D, plains ds = true → eqvs ds ds = true
  | [], _ => rfl
  | d :: ds, h => by
    have h : (plain d && plains ds) = true := h
    rw [Bool.and_eq_true] at h
    show (eqv d d && eqvs ds ds) = true
    rw [eqv_refl d h.1, eqvs_refl ds h.2]; rfl
end
theorem cmp_ne_same {d : D} (h1 : plain d = true) (h2 : depth d ≤ 62) (μ : Heap) : cmpop .ne (.d d) (.d d) μ = some false := cmp_ne_of (snap_d _ _ _) (snap_d _ _ _) (by unfold shp; rw [h1, decide_eq_true h2]; rfl) (eqv_refl d h1)
theorem plain_pr {g : PySem.Str → D} {n : PySem.Str} (h : plain (g n) = true) : plain (prG g n) = true := by
  show (true && (plain (g n) && true)) = true
  rw [h]; rfl
theorem depth_pr {g : PySem.Str → D} {n : PySem.Str} {k : Nat} (h : depth (g n) ≤ k) : depth (prG g n) ≤ k + 1 := by
  show max 0 (max (depth (g n)) 0) + 1 ≤ k + 1
  omega
theorem plain_tb {g : PySem.Str → D} {ns : List PySem.Str} (h : ∀ n ∈ ns, plain (g n) = true) : plain (.tup (ns.map (prG g))) = true := by
  show plains (ns.map (prG g)) = true
  exact plains_map fun n hn => plain_pr (h n hn)
theorem depth_tb {g : PySem.Str → D} {ns : List PySem.Str} {k : Nat} (h : ∀ n ∈ ns, depth (g n) ≤ k) : depth (.tup (ns.map (prG g))) ≤ k + 2 := by
  have := depths_le (f := prG g) (k := k + 1) (l := ns) fun n hn => depth_pr (h n hn)
  show depths (ns.map (prG g)) + 1 ≤ k + 2
  omega
theorem plain_st (l : List I2) : plain (stD l) = true := by
  show plains (l.map prI) = true
  exact plains_map fun _ _ => rfl
theorem depth_st (l : List I2) : depth (stD l) ≤ 2 := by
  have := depths_le (f := prI) (k := 1) (l := l) fun _ _ => Nat.le_refl 1
  show depths (l.map prI) + 1 ≤ 2
  omega
theorem alk_st : ∀ l m : List I2, alk (stD l) (stD m) = true
  | [], m => by
    show alks [] (m.map prI) = true
    rfl
  | p :: l, [] => rfl
  | p :: l, r :: m => by
    show (true && alks (l.map prI) (m.map prI)) = true
    have := alk_st l m
    exact this
abbrev gS (ps : PySem.Str → List I2) : PySem.Str → D := fun n => stD (ps n)
abbrev gB (q : PySem.Str → Bool) : PySem.Str → D := fun e => .bl (q e)
theorem gd_st (ps : PySem.Str → List I2) (ns : List PySem.Str) : Gd1 (gS ps) ns := ⟨fun n _ => eqv_refl _ (plain_st _), fun _ _ => plain_st _, fun _ _ => Nat.le_trans (depth_st _) (by omega), fun _ _ _ _ => alk_st _ _⟩
theorem gd_bl (q : PySem.Str → Bool) (ns : List PySem.Str) : Gd1 (gB q) ns := ⟨fun n _ => beq_self_eq_true (q n), fun _ _ => rfl, fun _ _ => Nat.zero_le _, fun _ _ _ _ => rfl⟩
theorem plain_wD (ps : PySem.Str → List I2) (d : PySem.Str → Int) (q : PySem.Str → Bool) (wc wd wf : List PySem.Str) : plain (wD (gS ps) d q wc wd wf) = true ∧ depth (wD (gS ps) d q wc wd wf) ≤ 62 := by
  constructor
  · show (plain (.tup (wc.map (prG (gS ps)))) && (plain (.tup (wd.map (prG (gI d)))) && (plain (.tup (wf.map (prG (gB q)))) && true))) = true
    rw [plain_tb fun _ _ => plain_st _, plain_tb fun _ _ => rfl, plain_tb fun _ _ => rfl]; rfl
  · have h1 := depth_tb (g := gS ps) (ns := wc) fun _ _ => depth_st _
    have h2 := depth_tb (g := gI d) (ns := wd) (k := 0) fun _ _ => Nat.le_refl _
    have h3 := depth_tb (g := gB q) (ns := wf) (k := 0) fun _ _ => Nat.le_refl _
    show max (depth (.tup (wc.map (prG (gS ps))))) (max (depth (.tup (wd.map (prG (gI d))))) (max (depth (.tup (wf.map (prG (gB q))))) 0)) + 1 ≤ 62
    omega
abbrev hD (ps : PySem.Str → List I2) (d : PySem.Str → Int) (cs fs : List PySem.Str) : D := .tup [.tup (cs.map (prG (gS ps))), .tup (fs.map (prG (gI d)))]
theorem plain_hD (ps : PySem.Str → List I2) (d : PySem.Str → Int) (cs fs : List PySem.Str) : plain (hD ps d cs fs) = true ∧ depth (hD ps d cs fs) ≤ 62 := by
  constructor
  · show (plain (.tup (cs.map (prG (gS ps)))) && (plain (.tup (fs.map (prG (gI d)))) && true)) = true
    rw [plain_tb fun _ _ => plain_st _, plain_tb fun _ _ => rfl]; rfl
  · have h1 := depth_tb (g := gS ps) (ns := cs) fun _ _ => depth_st _
    have h2 := depth_tb (g := gI d) (ns := fs) (k := 0) fun _ _ => Nat.le_refl _
    show max (depth (.tup (cs.map (prG (gS ps))))) (max (depth (.tup (fs.map (prG (gI d))))) 0) + 1 ≤ 62
    omega
/-- stretches of every name -/
theorem stretches (k : Nat) {cs : List PySem.Str} {g : PySem.Str → List Int} (hg : ∀ n ∈ cs, (g n).length ≤ 40) : ∃ ps : PySem.Str → List I2, ∀ n ∈ cs, ∃ μ, run T (k + 1) f__law_stretches [.d (iD (g n))] [] = .ok (.d (gS ps n)) μ := by
  have h : ∀ n ∈ cs, ∃ ps : List I2, ∃ μ, run T (k + 1) f__law_stretches [.d (iD (g n))] [] = .ok (.d (stD ps)) μ := fun n hn => by
    obtain ⟨_, μ, e, ps, -, rfl⟩ := ok__law_stretches k (ds := g n) (by have := hg n hn; omega)
    exact ⟨ps, μ, e⟩
  refine ⟨fun n => if hn : n ∈ cs then (h n hn).choose else [], fun n hn => ?_⟩
  dsimp only [gS]
  rw [dif_pos hn]
  exact (h n hn).choose_spec
theorem set_newG {μ : Heap} {i : Nat} (g : PySem.Str → D) {ns : List PySem.Str} (h : μ[i]? = some (.dct (ns.map fun n => (D.str n, Val.d (g n))))) (hl : ns.length ≤ 100) {x : PySem.Str} (hx : x ∉ ns) : setSub (.ref i) (.d (.str x)) (.d (g x)) μ = .ok () (μ.set i (.dct ((ns ++ [x]).map fun n => (D.str n, Val.d (g n))))) := by
  rw [setSub_ref, h]
  have hz : small ((ns.map fun n => (D.str n, Val.d (g n))).length + 1) = true := by rw [List.length_map]; exact decide_eq_true (by omega)
  show need (isKey0 (.str x) && small ((ns.map fun n => (D.str n, Val.d (g n))).length + 1) && simple (.d (g x))) _ = _
  rw [hz]
  show Res.ok () (μ.set i (.dct (putD (.str x) (.d (g x)) (ns.map fun n => (D.str n, Val.d (g n)))))) = _
  congr 3
  rw [putD_new (fun n => Val.d (g n)) x _ hx, List.map_append, List.map_cons, List.map_nil]
theorem nin_takeG {l : List PySem.Str} (nd : l.Nodup) {i : Nat} {y : PySem.Str} (h : l[i]? = some y) : y ∉ l.take i := fun z => by
  obtain ⟨j, hj, e⟩ := List.mem_iff_getElem.mp z
  rw [List.length_take] at hj
  rw [List.getElem_take] at e
  obtain ⟨hi, e2⟩ := List.getElem?_eq_some_iff.mp h
  exact List.pairwise_iff_getElem.mp nd j i (by omega) hi (by omega) (e.trans e2.symm)
theorem take_stp {l : List PySem.Str} {i : Nat} {y : PySem.Str} (h : l[i]? = some y) : l.take (i + 1) = l.take i ++ [y] := by
  rw [List.take_add_one, h, Option.toList_some]
theorem inop_own {μ : Heap} {i : Nat} (g : PySem.Str → D) {ns : List PySem.Str} (h : μ[i]? = some (.dct (ns.map fun n => (D.str n, Val.d (g n))))) (x : PySem.Str) : cmpop .in_ (.d (.str x)) (.ref i) μ = some (decide (x ∈ ns)) := by
  have e : Mp.items μ (.ref i) = none := by unfold items; simp only [h]
  have e2 : pairs μ (.ref i) = some (ns.map fun n => (D.str n, Val.d (g n))) := by unfold pairs; simp only [h]
  show (match Mp.items μ (.ref i) with
    | some vs => match mapO (Mp.snap μ 0) vs with
      | some ds => if shp (.str x) && plains ds then some (ds.any fun d => eqv d (.str x)) else none
      | none => none
    | none => match pairs μ (.ref i) with
      | some kvs => if isKey0 (.str x) then some (lookD (.str x) kvs).isSome else none
      | none => none) = _
  rw [e, e2]
  show some (lookD (.str x) (ns.map fun n => (D.str n, Val.d (g n)))).isSome = _
  rw [lookD_tb]
  by_cases hx : x ∈ ns
  · rw [if_pos hx, decide_eq_true hx]; rfl
  · rw [if_neg hx, decide_eq_false hx]; rfl
theorem get_own (g : PySem.Str → D) (ns : List PySem.Str) (x : PySem.Str) (w : D) : (lookD (.str x) (ns.map fun n => (D.str n, Val.d (g n)))).getD (.d w) = .d (if x ∈ ns then g x else w) := by
  rw [lookD_tb]
  by_cases hx : x ∈ ns
  · rw [if_pos hx, if_pos hx]; rfl
  · rw [if_neg hx, if_neg hx]; rfl
theorem ite_gI (d : PySem.Str → Int) (z : Int) (fs : List PySem.Str) (e : PySem.Str) : (if e ∈ fs then gI d e else D.int z) = gI (fun e => if e ∈ fs then d e else z) e := by
  by_cases h : e ∈ fs
  · simp only [gI, if_pos h]
  · simp only [gI, if_neg h]
theorem hist_eq {d d' : PySem.Str → Int} {q P : PySem.Str → Bool} {ev fs : List PySem.Str} (hfs : fs = sortT (ev.filter P)) (hfm : ∀ n, n ∈ fs ↔ n ∈ ev ∧ P n = true) (hq : ∀ e ∈ ev, q e = decide (e ∈ fs)) (hd : ∀ e ∈ fs, d' e = d e) : ((sortT ev).filter q).map (prG (gI d')) = fs.map (prG (gI d)) := by
  have e : (sortT ev).filter q = fs := by
    rw [← sortT_filter, hfs]
    congr 1
    refine List.filter_congr fun e he => ?_
    rw [hq e he, Bool.eq_iff_iff, decide_eq_true_eq, hfm]
    exact ⟨fun z => z.2, fun z => ⟨he, z⟩⟩
  rw [e]
  refine List.map_congr_left fun n hn => ?_
  unfold prG gI
  rw [hd n hn]
theorem app_ext {g g' : PySem.Str → D} {l : List PySem.Str} {x : PySem.Str} {v : D} (h1 : g' x = v) (h2 : ∀ n ∈ l, g' n = g n) : l.map (prG g) ++ [D.tup [.str x, v]] = (l ++ [x]).map (prG g') := by
  rw [List.map_append, List.map_cons, List.map_nil]
  congr 1
  · exact List.map_congr_left fun n hn => by unfold prG; rw [h2 n hn]
  · unfold prG; rw [h1]
def nmax : Nat := 63
def lev : Nat := 8
theorem law_ok (ns : List Int) (h : ns.length ≤ nmax) : Wv (run T (lev + 1) f_law [.d (.lst (ns.map D.int))] []) fun v μ => v = .d (.bl true) := by
  have h : ns.length ≤ 63 := h
  refine w_run (fn := fn_law) rfl rfl ?_
  simp only [fn_law, ir_law, lev]
  walk_at "mp"
  refine w_forR (fun j δ μ => Sx True δ [some (.d (.lst (ns.map D.int))), none, none, none, none, none, none, none, none, none, none, none, none, none, none, none, none, none] μ []) ⟨trivial, rfl, rfl⟩ ?_ ?_
  · rintro j _ _ hj ⟨-, rfl, rfl⟩
    have hj8 : j ≤ 100 := by omega
    obtain ⟨c, ec⟩ := ok__law_cell 7 ns j
    obtain ⟨_, μ2, e2, rs, hrs, rfl⟩ := ok__law_numbers 7 c j hj8 40 (by omega)
    obtain ⟨_, μ3, e3, cs, ev, f, g, rd, ⟨hcs, hev, hg⟩, rfl⟩ := ok__law_book 5 hrs
    have hcl := hcs.len
    have hel := hev.len
    obtain ⟨ps, hps⟩ := stretches 7 hg
    simp only [show ((40 : Nat) : Int) = 40 from rfl] at e2
    simp only [stepF]
    walk_at "mp"
    simp only [ec]
    walk_at "mp"
    simp only [e2]
    walk_at "mp"
    simp only [e3]
    walk_at "mp"
    have hl1 : (sortT cs).length ≤ 3 := by rw [sortT_len]; omega
    have hl2 : (sortT ev).length ≤ 3 := by rw [sortT_len]; omega
    obtain ⟨_, μ4, e4, P, d, rfl⟩ := ok__law_filings 7 hrs hev.nd (by omega)
    simp only [show (7 + 1 : Nat) = 8 from rfl] at e4 hps
    clear ec e2 e3
    rw [collect_D (fun n => Val.d (.str n)) nog]
    rotate_left
    · intro n hn
      simp only [lcF, ru]
      walk_at "mp"
    rw [mapd_comp D.str]
    have s1 := fun X => sort_ifL (ns := cs) (by omega) X
    walk_at "mp"
    simp only [s1]
    walk_at "mp"
    rw [collect_D (fun n => Val.d (prG (gS ps) n)) nog]
    rotate_left
    · intro n hn
      obtain ⟨μ, e⟩ := hps n (mem_sortT.mp hn)
      have hk : lookD (.str n) (cs.map fun n => (D.str n, iD (g n))) = some (iD (g n)) := by
        rw [lookD_tb, if_pos (mem_sortT.mp hn)]
      simp only [lcF]
      walk_at "mp"
      simp only [hk, isk_s]
      walk_at "mp"
      simp only [e]
      walk_at "mp"
      rfl
    rw [mapd_comp]
    walk_at "mp"
    simp only [e4]
    walk_at "mp"
    obtain ⟨fs, hfs⟩ : ∃ fs, fs = sortT (ev.filter P) := ⟨_, rfl⟩
    have hfn : fs.Nodup := hfs ▸ sortT_nodup (hev.nd.sublist List.filter_sublist)
    have hfl : fs.length ≤ 3 := by rw [hfs, sortT_len]; exact Nat.le_trans (List.length_filter_le _ _) (by omega)
    have hfm : ∀ n, n ∈ fs ↔ n ∈ ev ∧ P n = true := fun n => by rw [hfs, mem_sortT, List.mem_filter]
    rw [← hfs]
    clear e4 hps s1
    refine w_forD (fun i δ μ => Sx True δ [some (.d (.lst (ns.map D.int))), some (.d (.int j)), some (.d (.lst (rs.map D.int))), some (.d (bkD f cs ev rd)), some (.d (.dct (cs.map fun n => (.str n, iD (g n))))), some (.d (.lst ((sortT cs).map D.str))), some (.d (.tup ((sortT cs).map (prG (gS ps))))), some (.d (hD ps d (sortT cs) fs)), some (.ref 0), none, none, none, none, none, none, none, none, none] μ [.dct ((fs.take i).map fun n => (D.str n, Val.d (gI d n)))]) (fun _ _ _ _ => trivial) ⟨trivial, rfl, rfl⟩ ?_ ?_
    · rintro i y _ _ hi ⟨-, rfl, rfl⟩
      have hs : setSub (.ref 0) (.d (.str y)) (.d (.int (d y))) [.dct ((fs.take i).map fun n => (D.str n, Val.d (gI d n)))] = .ok () [.dct ((fs.take i ++ [y]).map fun n => (D.str n, Val.d (gI d n)))] := set_newG (gI d) rfl (by rw [List.length_take]; omega) (nin_takeG hfn hi)
      rw [← take_stp hi] at hs
      simp only [stepF, prG]
      walk_at "mp"
      simp only [hs]
      walk_at "mp"
      exact ⟨trivial, rfl, rfl⟩
    rintro _ _ ⟨-, rfl, rfl⟩
    rw [List.take_length]
    have s2 := fun X => sort_ifT (ns := ev) (by omega) X
    walk_at "mp"
    simp only [s2]
    walk_at "mp"
    rw [collect_D (fun n => Val.d (prG (gI fun e => if e ∈ fs then d e else 0) n)) nog]
    rotate_left
    · intro n hn
      simp only [lcF]
      walk_at "mp"
      simp only [isk_s, get_own, ite_gI]
      walk_at "mp"
      rfl
    rw [mapd_comp]
    walk_at "mp"
    rw [collect_D (fun n => Val.d (prG (gB fun e => decide (e ∈ fs)) n)) nog]
    rotate_left
    · intro n hn
      have e : cmpop .in_ (.d (.str n)) (.ref 0) [.dct (fs.map fun n => (D.str n, Val.d (gI d n)))] = some (decide (n ∈ fs)) := inop_own (gI d) rfl n
      simp only [lcF]
      walk_at "mp"
      simp only [e]
      walk_at "mp"
      rfl
    rw [mapd_comp]
    walk_at "mp"
    obtain ⟨dd, hdd⟩ : ∃ dd : PySem.Str → Int, dd = fun e => if e ∈ fs then d e else 0 := ⟨_, rfl⟩
    obtain ⟨q, hq⟩ : ∃ q : PySem.Str → Bool, q = fun e => decide (e ∈ fs) := ⟨_, rfl⟩
    have hdd1 : ∀ e ∈ fs, dd e = d e := fun e he => by rw [hdd]; exact if_pos he
    obtain ⟨_, μ5, e5, rfl⟩ := ok_world_of 6 (f := f) (s := gS ps) (d := d) (cs := cs) (cc := sortT cs) (ev := ev) (fs := fs) (rd := rd) (sortT_nodup hcs.nd) hev.nd hfn (by omega) (by omega) (by omega) fun n hn => ((hfm n).mp hn).1
    rw [sortT_idem] at e5
    rw [← hdd, show (gB fun e => decide (e ∈ fs)) = gB q from by rw [hq]]
    have e5 : run T 8 f_world_of [.d (bkD f cs ev rd), .d (hD ps d (sortT cs) fs)] [] = .ok (.d (wD (gS ps) dd q (sortT cs) (sortT ev) (sortT ev))) μ5 := by rw [hdd, hq]; exact e5
    have pw := plain_wD ps dd q (sortT cs) (sortT ev) (sortT ev)
    have ph := plain_hD ps d (sortT cs) fs
    have n1 := fun μ => cmp_ne_same pw.1 pw.2 μ
    have n2 := fun μ => cmp_ne_same ph.1 ph.2 μ
    obtain ⟨_, μ6, e6, rfl⟩ := ok_history_of 5 (f := f) (s := gS ps) (d := dd) (q := q) (cs := cs) (ev := ev) (wc := sortT cs) (wd := sortT ev) (wf := sortT ev) (rd := rd) (by omega) (by omega) (fun n hn => mem_sortT.mpr hn) (fun n hn => mem_sortT.mpr hn) fun n hn => mem_sortT.mpr hn
    rw [hist_eq hfs hfm (fun e _ => by rw [hq]) hdd1] at e6
    have e6 : run T 8 f_history_of [.d (bkD f cs ev rd), .d (wD (gS ps) dd q (sortT cs) (sortT ev) (sortT ev))] [] = .ok (.d (hD ps d (sortT cs) fs)) μ6 := e6
    simp only [e5]
    walk_at "mp"
    simp only [n1]
    walk_at "mp"
    simp only [e6]
    walk_at "mp"
    simp only [n2]
    walk_at "mp"
    clear e5 e6 n1
    obtain ⟨z35, -, e35⟩ := hrs.at 35 (by omega) (by omega)
    obtain ⟨z34, -, e34⟩ := hrs.at 34 (by omega) (by omega)
    rw [collect_D (fun n => Val.d (prG (gI fun e => if e ∈ fs then d e else z35 - 500) n)) nog]
    rotate_left
    · intro n hn
      simp only [lcF]
      walk_at "mp"
      simp only [e35]
      walk_at "mp"
      simp only [isk_s, get_own, ite_gI]
      walk_at "mp"
      rfl
    rw [mapd_comp]
    walk_at "mp"
    rw [collect_D (fun n => Val.d (prG (gB q) n)) nog]
    rotate_left
    · intro n hn
      have e : cmpop .in_ (.d (.str n)) (.ref 0) [.dct (fs.map fun n => (D.str n, Val.d (gI d n)))] = some (q n) := by rw [hq]; exact inop_own (gI d) rfl n
      simp only [lcF]
      walk_at "mp"
      simp only [e]
      walk_at "mp"
      rfl
    rw [mapd_comp]
    walk_at "mp"
    obtain ⟨ps2, hps2, hps3⟩ : ∃ p : PySem.Str → List I2, p nZZ = [(1, 1)] ∧ ∀ n ∈ cs, p n = ps n := ⟨fun n => if n = nZZ then [(1, 1)] else ps n, if_pos rfl, fun n hn => if_neg fun z : n = nZZ => hcs.zz (z ▸ hn)⟩
    obtain ⟨d2, hd2, hd3⟩ : ∃ p : PySem.Str → Int, p nL1 = 7 ∧ ∀ n ∈ ev, p n = (fun e => if e ∈ fs then d e else z35 - 500) n := ⟨fun n => if n = nL1 then 7 else (if n ∈ fs then d n else z35 - 500), if_pos rfl, fun n hn => if_neg fun z : n = nL1 => hev.l1 (z ▸ hn)⟩
    obtain ⟨q2, hq2, hq3⟩ : ∃ p : PySem.Str → Bool, p nZ9 = true ∧ ∀ n ∈ ev, p n = q n := ⟨fun n => if n = nZ9 then true else q n, if_pos rfl, fun n hn => if_neg fun z : n = nZ9 => hev.z9 (z ▸ hn)⟩
    have a1 : (sortT cs).map (prG (gS ps)) ++ [D.tup [.str (PySem.Str.ofString "zz"), .tup [.tup [.int 1, .int 1]]]] = (sortT cs ++ [nZZ]).map (prG (gS ps2)) := app_ext (show gS ps2 nZZ = stD [(1, 1)] from by simp only [gS, hps2]) fun n hn => by simp only [gS, hps3 n (mem_sortT.mp hn)]
    have a2 : ev.map (prG (gI fun e => if e ∈ fs then d e else z35 - 500)) ++ [D.tup [.str (PySem.Str.ofString "later1"), .int 7]] = (ev ++ [nL1]).map (prG (gI d2)) := app_ext (show gI d2 nL1 = .int 7 from by simp only [gI, hd2]) fun n hn => by simp only [gI, hd3 n hn]
    have a3 : ev.map (prG (gB q)) ++ [D.tup [.str (PySem.Str.ofString "zz9"), .bl true]] = (ev ++ [nZ9]).map (prG (gB q2)) := app_ext (show gB q2 nZ9 = .bl true from by simp only [gB, hq2]) fun n hn => by simp only [gB, hq3 n hn]
    rw [a1, a2, a3]
    have b1 := fun X => sort_ifP (gd_st ps2 (sortT cs ++ [nZZ])) X
    have b2 := fun X => sort_ifP (gd_int d2 (ev ++ [nL1])) X
    have b3 := fun X => sort_ifP (gd_bl q2 (ev ++ [nZ9])) X
    have c1 : (sortT (sortT cs ++ [nZZ])).length ≤ 4 := by rw [sortT_len, List.length_append, List.length_singleton]; omega
    have c2 : (sortT (ev ++ [nL1])).length ≤ 4 := by rw [sortT_len, List.length_append, List.length_singleton]; omega
    have c3 : (sortT (ev ++ [nZ9])).length ≤ 4 := by rw [sortT_len, List.length_append, List.length_singleton]; omega
    simp only [b1]
    walk_at "mp"
    simp only [b2]
    walk_at "mp"
    simp only [b3]
    walk_at "mp"
    obtain ⟨_, μ7, e7, rfl⟩ := ok_history_of 5 (f := f) (s := gS ps2) (d := d2) (q := q2) (cs := cs) (ev := ev) (wc := sortT (sortT cs ++ [nZZ])) (wd := sortT (ev ++ [nL1])) (wf := sortT (ev ++ [nZ9])) (rd := rd) (by omega) (by omega) (fun n hn => mem_sortT.mpr (List.mem_append_left _ (mem_sortT.mpr hn))) (fun n hn => mem_sortT.mpr (List.mem_append_left _ hn)) fun n hn => mem_sortT.mpr (List.mem_append_left _ hn)
    have hev2 : ∀ n ∈ fs, n ∈ ev := fun n hn => ((hfm n).mp hn).1
    rw [hist_eq hfs hfm (fun e he => by rw [hq3 e he, hq]) (fun e he => (hd3 e (hev2 e he)).trans (if_pos he)), List.map_congr_left (g := prG (gS ps)) fun n hn => by simp only [prG, gS, hps3 n (mem_sortT.mp hn)]] at e7
    have e7 : run T 8 f_history_of [.d (bkD f cs ev rd), .d (wD (gS ps2) d2 q2 (sortT (sortT cs ++ [nZZ])) (sortT (ev ++ [nL1])) (sortT (ev ++ [nZ9])))] [] = .ok (.d (hD ps d (sortT cs) fs)) μ7 := e7
    simp only [e7]
    walk_at "mp"
    simp only [n2]
    walk_at "mp"
    clear e7 b1 b2 b3 a1 a2 a3 n2
    obtain ⟨x, hx, ex⟩ := at_str (ns := ev) (by omega) z34
    obtain ⟨l0, x3, hx3⟩ : ∃ l0 x3, sortT cs = l0 ++ [x3] := by
      rcases List.eq_nil_or_concat (sortT cs) with e | ⟨l0, x3, e⟩
      · have := sortT_len cs
        rw [e] at this
        rw [List.length_nil] at this
        omega
      · exact ⟨l0, x3, by rw [e, List.concat_eq_append]⟩
    have hx3m : x3 ∈ cs := mem_sortT.mp (hx3 ▸ List.mem_append_right _ (List.mem_singleton.mpr rfl))
    have hfx : ∀ (l : List PySem.Str) (y : PySem.Str), y ∉ l.filter fun n => !(n == y) := fun l y z => by
      have := (List.mem_filter.mp z).2
      rw [beq_self_eq_true] at this; cases this
    have hfy : ∀ {l : List PySem.Str} {y n : PySem.Str}, n ∈ l → n ≠ y → n ∈ sortT l ∧ n ∈ (sortT l).filter fun n => !(n == y) := fun {l y n} h1 h2 => ⟨mem_sortT.mpr h1, List.mem_filter.mpr ⟨mem_sortT.mpr h1, by
      cases e : n == y
      · rfl
      · exact absurd (eq_of_beq e) h2⟩⟩
    have w1 := ok_without 7 (gI dd) (ns := sortT ev) (by omega) x
    have w2 := ok_without 7 (gB q) (ns := sortT ev) (by omega) x
    have w3 := ok_without 7 (gS ps) (ns := sortT cs) (by omega) x3
    obtain ⟨_, _, m1, rfl⟩ := ok_missing 4 (hist_no2 4 (f := f) (s := gS ps) (d := dd) (q := q) (cs := cs) (ev := ev) (wc := sortT cs) (wd := (sortT ev).filter fun n => !(n == x)) (wf := sortT ev) (rd := rd) (by omega) (by omega) (hev.sm x hx) (fun n hn => mem_sortT.mpr hn) hx (hfx _ _) (fun n hn hne => (hfy hn hne).2) fun n hn hne => (hfy hn hne).1)
    obtain ⟨_, _, m2, rfl⟩ := ok_missing 4 (hist_no3 4 (f := f) (s := gS ps) (d := dd) (q := q) (cs := cs) (ev := ev) (wc := sortT cs) (wd := sortT ev) (wf := (sortT ev).filter fun n => !(n == x)) (rd := rd) (by omega) (by omega) (hev.sm x hx) (fun n hn => mem_sortT.mpr hn) hx (fun n hn => mem_sortT.mpr hn) (hfx _ _) fun n hn hne => (hfy hn hne).2)
    obtain ⟨_, _, m3, rfl⟩ := ok_missing 4 (hist_no1 4 (f := f) (s := gS ps) (d := dd) (q := q) (cs := cs) (ev := ev) (wc := (sortT cs).filter fun n => !(n == x3)) (wd := sortT ev) (wf := sortT ev) (rd := rd) (by omega) (by omega) (hcs.sm x3 hx3m) hx3m (hfx _ _) fun n hn hne => (hfy hn hne).2)
    simp only [show (7 + 1 : Nat) = 8 from rfl, show (4 + 4 : Nat) = 8 from rfl] at w1 w2 w3 m1 m2 m3
    simp only [e34]
    walk_at "mp"
    simp only [ex]
    walk_at "mp"
    simp only [w1]
    walk_at "mp"
    simp only [m1]
    walk_at "mp"
    simp only [w2]
    walk_at "mp"
    simp only [m2]
    walk_at "mp"
    have e9 : atI ((sortT cs).map D.str) (-1) = some (.str x3) := by
      rw [hx3, List.map_append, List.map_cons, List.map_nil, atI_neg1]
    simp only [e9]
    walk_at "mp"
    simp only [w3]
    walk_at "mp"
    simp only [m3]
    walk_at "mp"
    exact ⟨[], rfl, trivial, rfl, rfl⟩
  · rintro _ _ ⟨-, rfl, rfl⟩
    walk_at "mp"
theorem law_true (ns : List Int) (h : ns.length ≤ nmax) : ∃ μ, run T (lev + 1) f_law [.d (.lst (ns.map D.int))] [] = .ok (.d (.bl true)) μ := by
  obtain ⟨v, μ, e, rfl⟩ := law_ok ns h
  exact ⟨μ, e⟩
end Mp.L
end
section
set_option Elab.async false
set_option linter.all false
set_option maxRecDepth 100000
set_option maxHeartbeats 4000000
namespace Mp.L
open PySem L2
def topS (i : Nat) : Stmt := PySem.Challenge.pw_diesnon_k64_worlds_and_histories.main.body.getD i (.Pass ⟨0, 0, 0, 0⟩)
abbrev s_pairs_of : Stmt := topS 5
def i_pairs_of : DefI := ⟨⟨("pairs_of", none), "pairs_of", "pairs_of", defArgs s_pairs_of, defBody s_pairs_of, defScope s_pairs_of, [], []⟩, [("table" : Str)], [("table" : Str), ("name" : Str)], fn_pairs_of⟩
abbrev s_found_in : Stmt := topS 6
def i_found_in : DefI := ⟨⟨("found_in", none), "found_in", "found_in", defArgs s_found_in, defBody s_found_in, defScope s_found_in, [], []⟩, [("pairs" : Str), ("name" : Str)], [("pairs" : Str), ("name" : Str), ("other" : Str), ("told" : Str)], fn_found_in⟩
abbrev s_calendar_of : Stmt := topS 7
def i_calendar_of : DefI := ⟨⟨("calendar_of", none), "calendar_of", "calendar_of", defArgs s_calendar_of, defBody s_calendar_of, defScope s_calendar_of, [], []⟩, [("world" : Str), ("name" : Str)], [("world" : Str), ("name" : Str)], fn_calendar_of⟩
abbrev s_day_of : Stmt := topS 8
def i_day_of : DefI := ⟨⟨("day_of", none), "day_of", "day_of", defArgs s_day_of, defBody s_day_of, defScope s_day_of, [], []⟩, [("world" : Str), ("name" : Str)], [("world" : Str), ("name" : Str)], fn_day_of⟩
abbrev s_flag_of : Stmt := topS 9
def i_flag_of : DefI := ⟨⟨("flag_of", none), "flag_of", "flag_of", defArgs s_flag_of, defBody s_flag_of, defScope s_flag_of, [], []⟩, [("world" : Str), ("name" : Str)], [("world" : Str), ("name" : Str)], fn_flag_of⟩
abbrev s_world_of : Stmt := topS 11
def i_world_of : DefI := ⟨⟨("world_of", none), "world_of", "world_of", defArgs s_world_of, defBody s_world_of, defScope s_world_of, [], []⟩, [("book" : Str), ("history" : Str)], [("book" : Str), ("history" : Str), ("calendars" : Str), ("filings" : Str), ("days" : Str), ("flags" : Str), ("event" : Str), ("day" : Str), ("_" : Str), ("name" : Str), ("closed" : Str)], fn_world_of⟩
abbrev s_history_of : Stmt := topS 12
def i_history_of : DefI := ⟨⟨("history_of", none), "history_of", "history_of", defArgs s_history_of, defBody s_history_of, defScope s_history_of, [], []⟩, [("book" : Str), ("world" : Str)], [("book" : Str), ("world" : Str), ("calendars" : Str), ("filings" : Str), ("event" : Str), ("day" : Str), ("rule" : Str), ("name" : Str)], fn_history_of⟩
abbrev s__law_cell : Stmt := topS 14
def i__law_cell : DefI := ⟨⟨("_law_cell", none), "_law_cell", "_law_cell", defArgs s__law_cell, defBody s__law_cell, defScope s__law_cell, [], []⟩, [("script" : Str), ("k" : Str)], [("script" : Str), ("k" : Str)], fn__law_cell⟩
abbrev s__law_numbers : Stmt := topS 15
def i__law_numbers : DefI := ⟨⟨("_law_numbers", none), "_law_numbers", "_law_numbers", defArgs s__law_numbers, defBody s__law_numbers, defScope s__law_numbers, [], []⟩, [("cell" : Str), ("k" : Str), ("many" : Str)], [("cell" : Str), ("k" : Str), ("many" : Str), ("numbers" : Str), ("rest" : Str), ("j" : Str), ("mixed" : Str), ("twice" : Str)], fn__law_numbers⟩
abbrev s__law_names : Stmt := topS 16
def i__law_names : DefI := ⟨⟨("_law_names", none), "_law_names", "_law_names", defArgs s__law_names, defBody s__law_names, defScope s__law_names, [], []⟩, [("number" : Str)], [("number" : Str)], fn__law_names⟩
abbrev s__law_above : Stmt := topS 17
def i__law_above : DefI := ⟨⟨("_law_above", none), "_law_above", "_law_above", defArgs s__law_above, defBody s__law_above, defScope s__law_above, [], []⟩, [("rules" : Str), ("name" : Str)], [("rules" : Str), ("name" : Str), ("found" : Str), ("held" : Str), ("step" : Str), ("wider" : Str), ("rule" : Str)], fn__law_above⟩
abbrev s__law_rules : Stmt := topS 18
def i__law_rules : DefI := ⟨⟨("_law_rules", none), "_law_rules", "_law_rules", defArgs s__law_rules, defBody s__law_rules, defScope s__law_rules, [], []⟩, [("numbers" : Str), ("at" : Str), ("names" : Str), ("many" : Str)], [("numbers" : Str), ("at" : Str), ("names" : Str), ("many" : Str), ("rules" : Str), ("j" : Str), ("pick" : Str), ("within" : Str), ("run" : Str)], fn__law_rules⟩
abbrev s__law_closed : Stmt := topS 19
def i__law_closed : DefI := ⟨⟨("_law_closed", none), "_law_closed", "_law_closed", defArgs s__law_closed, defBody s__law_closed, defScope s__law_closed, [], []⟩, [("numbers" : Str), ("at" : Str), ("rules" : Str)], [("numbers" : Str), ("at" : Str), ("rules" : Str), ("closed" : Str), ("j" : Str), ("name" : Str), ("bits" : Str), ("days" : Str), ("day" : Str), ("wider" : Str), ("rule" : Str), ("length" : Str), ("one" : Str)], fn__law_closed⟩
abbrev s__law_stretches : Stmt := topS 20
def i__law_stretches : DefI := ⟨⟨("_law_stretches", none), "_law_stretches", "_law_stretches", defArgs s__law_stretches, defBody s__law_stretches, defScope s__law_stretches, [], []⟩, [("days" : Str)], [("days" : Str), ("found" : Str), ("day" : Str)], fn__law_stretches⟩
abbrev s__law_known : Stmt := topS 21
def i__law_known : DefI := ⟨⟨("_law_known", none), "_law_known", "_law_known", defArgs s__law_known, defBody s__law_known, defScope s__law_known, [], []⟩, [("numbers" : Str), ("at" : Str), ("rules" : Str), ("closed" : Str)], [("numbers" : Str), ("at" : Str), ("rules" : Str), ("closed" : Str), ("found" : Str), ("j" : Str), ("name" : Str), ("run" : Str), ("within" : Str), ("pick" : Str), ("known" : Str), ("first" : Str), ("last" : Str), ("day" : Str)], fn__law_known⟩
abbrev s__law_case_term : Stmt := topS 22
def i__law_case_term : DefI := ⟨⟨("_law_case_term", none), "_law_case_term", "_law_case_term", defArgs s__law_case_term, defBody s__law_case_term, defScope s__law_case_term, [], []⟩, [("pick" : Str), ("other" : Str), ("on" : Str), ("calendars" : Str), ("events" : Str), ("rules" : Str)], [("pick" : Str), ("other" : Str), ("on" : Str), ("calendars" : Str), ("events" : Str), ("rules" : Str), ("name" : Str), ("n" : Str), ("day" : Str), ("event" : Str), ("way" : Str)], fn__law_case_term⟩
abbrev s__law_case_condition : Stmt := topS 23
def i__law_case_condition : DefI := ⟨⟨("_law_case_condition", none), "_law_case_condition", "_law_case_condition", defArgs s__law_case_condition, defBody s__law_case_condition, defScope s__law_case_condition, [], []⟩, [("pick" : Str), ("other" : Str), ("calendars" : Str), ("events" : Str), ("rules" : Str)], [("pick" : Str), ("other" : Str), ("calendars" : Str), ("events" : Str), ("rules" : Str), ("name" : Str), ("event" : Str), ("second" : Str), ("way" : Str)], fn__law_case_condition⟩
abbrev s__law_book : Stmt := topS 24
def i__law_book : DefI := ⟨⟨("_law_book", none), "_law_book", "_law_book", defArgs s__law_book, defBody s__law_book, defScope s__law_book, [], []⟩, [("numbers" : Str), ("many" : Str)], [("numbers" : Str), ("many" : Str), ("calendars" : Str), ("plain" : Str), ("name" : Str), ("run" : Str), ("within" : Str), ("closed" : Str), ("events" : Str), ("names" : Str), ("rules" : Str), ("j" : Str), ("earlier" : Str), ("on" : Str), ("when" : Str), ("due" : Str), ("met" : Str)], fn__law_book⟩
abbrev s__law_filings : Stmt := topS 25
def i__law_filings : DefI := ⟨⟨("_law_filings", none), "_law_filings", "_law_filings", defArgs s__law_filings, defBody s__law_filings, defScope s__law_filings, [], []⟩, [("numbers" : Str), ("at" : Str), ("events" : Str)], [("numbers" : Str), ("at" : Str), ("events" : Str), ("found" : Str), ("j" : Str), ("pick" : Str)], fn__law_filings⟩
abbrev s__law_missing : Stmt := topS 26
def i__law_missing : DefI := ⟨⟨("_law_missing", none), "_law_missing", "_law_missing", defArgs s__law_missing, defBody s__law_missing, defScope s__law_missing, [], []⟩, [("book" : Str), ("world" : Str), ("name" : Str)], [("book" : Str), ("world" : Str), ("name" : Str), ("e" : Str)], fn__law_missing⟩
abbrev s__law_without : Stmt := topS 27
def i__law_without : DefI := ⟨⟨("_law_without", none), "_law_without", "_law_without", defArgs s__law_without, defBody s__law_without, defScope s__law_without, [], []⟩, [("pairs" : Str), ("name" : Str)], [("pairs" : Str), ("name" : Str), ("pair" : Str)], fn__law_without⟩
abbrev s_law : Stmt := topS 28
def i_law : DefI := ⟨⟨("law", none), "law", "law", defArgs s_law, defBody s_law, defScope s_law, [], []⟩, [("script" : Str)], [("script" : Str), ("k" : Str), ("numbers" : Str), ("book" : Str), ("closed" : Str), ("names" : Str), ("calendars" : Str), ("history" : Str), ("filed" : Str), ("event" : Str), ("day" : Str), ("due" : Str), ("world" : Str), ("days" : Str), ("flags" : Str), ("wide" : Str), ("rule" : Str), ("name" : Str)], fn_law⟩
def tab : Tab := ⟨[i_pairs_of, i_found_in, i_calendar_of, i_day_of, i_flag_of, i_world_of, i_history_of, i__law_cell, i__law_numbers, i__law_names, i__law_above, i__law_rules, i__law_closed, i__law_stretches, i__law_known, i__law_case_term, i__law_case_condition, i__law_book, i__law_filings, i__law_missing, i__law_without, i_law], [("DiesError" : Str), ("NotAllowed" : Str), ("Missing" : Str)], [], [0, 1, 2], [], [], [(1, [0]), (2, [0])], [(2, (PySem.Str.ofString "name"))], [], [(("DiesError" : Str), Gk.ex c_DiesError), (("Missing" : Str), Gk.ef c_Missing), (("NotAllowed" : Str), Gk.ex c_NotAllowed), (("_law_above" : Str), Gk.fn f__law_above), (("_law_book" : Str), Gk.fn f__law_book), (("_law_case_condition" : Str), Gk.fn f__law_case_condition), (("_law_case_term" : Str), Gk.fn f__law_case_term), (("_law_cell" : Str), Gk.fn f__law_cell), (("_law_closed" : Str), Gk.fn f__law_closed), (("_law_filings" : Str), Gk.fn f__law_filings), (("_law_known" : Str), Gk.fn f__law_known), (("_law_missing" : Str), Gk.fn f__law_missing), (("_law_names" : Str), Gk.fn f__law_names), (("_law_numbers" : Str), Gk.fn f__law_numbers), (("_law_rules" : Str), Gk.fn f__law_rules), (("_law_stretches" : Str), Gk.fn f__law_stretches), (("_law_without" : Str), Gk.fn f__law_without), (("calendar_of" : Str), Gk.fn f_calendar_of), (("day_of" : Str), Gk.fn f_day_of), (("flag_of" : Str), Gk.fn f_flag_of), (("found_in" : Str), Gk.fn f_found_in), (("history_of" : Str), Gk.fn f_history_of), (("int" : Str), Gk.free), (("isinstance" : Str), Gk.free), (("law" : Str), Gk.fn f_law), (("len" : Str), Gk.free), (("list" : Str), Gk.free), (("max" : Str), Gk.free), (("min" : Str), Gk.free), (("pairs_of" : Str), Gk.fn f_pairs_of), (("range" : Str), Gk.free), (("sorted" : Str), Gk.free), (("tuple" : Str), Gk.free), (("world_of" : Str), Gk.fn f_world_of)], [("name" : Str)], [], "/claim/cut.py"⟩
theorem b_pairs_of : BindI i_pairs_of := fun _ _ _ _ _ _ us hl => match us, hl with | [_], _ => rfl
theorem b_found_in : BindI i_found_in := fun _ _ _ _ _ _ us hl => match us, hl with | [_, _], _ => rfl
theorem b_calendar_of : BindI i_calendar_of := fun _ _ _ _ _ _ us hl => match us, hl with | [_, _], _ => rfl
theorem b_day_of : BindI i_day_of := fun _ _ _ _ _ _ us hl => match us, hl with | [_, _], _ => rfl
theorem b_flag_of : BindI i_flag_of := fun _ _ _ _ _ _ us hl => match us, hl with | [_, _], _ => rfl
theorem b_world_of : BindI i_world_of := fun _ _ _ _ _ _ us hl => match us, hl with | [_, _], _ => rfl
theorem b_history_of : BindI i_history_of := fun _ _ _ _ _ _ us hl => match us, hl with | [_, _], _ => rfl
theorem b__law_cell : BindI i__law_cell := fun _ _ _ _ _ _ us hl => match us, hl with | [_, _], _ => rfl
theorem b__law_numbers : BindI i__law_numbers := fun _ _ _ _ _ _ us hl => match us, hl with | [_, _, _], _ => rfl
theorem b__law_names : BindI i__law_names := fun _ _ _ _ _ _ us hl => match us, hl with | [_], _ => rfl
theorem b__law_above : BindI i__law_above := fun _ _ _ _ _ _ us hl => match us, hl with | [_, _], _ => rfl
theorem b__law_rules : BindI i__law_rules := fun _ _ _ _ _ _ us hl => match us, hl with | [_, _, _, _], _ => rfl
theorem b__law_closed : BindI i__law_closed := fun _ _ _ _ _ _ us hl => match us, hl with | [_, _, _], _ => rfl
theorem b__law_stretches : BindI i__law_stretches := fun _ _ _ _ _ _ us hl => match us, hl with | [_], _ => rfl
theorem b__law_known : BindI i__law_known := fun _ _ _ _ _ _ us hl => match us, hl with | [_, _, _, _], _ => rfl
theorem b__law_case_term : BindI i__law_case_term := fun _ _ _ _ _ _ us hl => match us, hl with | [_, _, _, _, _, _], _ => rfl
theorem b__law_case_condition : BindI i__law_case_condition := fun _ _ _ _ _ _ us hl => match us, hl with | [_, _, _, _, _], _ => rfl
theorem b__law_book : BindI i__law_book := fun _ _ _ _ _ _ us hl => match us, hl with | [_, _], _ => rfl
theorem b__law_filings : BindI i__law_filings := fun _ _ _ _ _ _ us hl => match us, hl with | [_, _, _], _ => rfl
theorem b__law_missing : BindI i__law_missing := fun _ _ _ _ _ _ us hl => match us, hl with | [_, _, _], _ => rfl
theorem b__law_without : BindI i__law_without := fun _ _ _ _ _ _ us hl => match us, hl with | [_, _], _ => rfl
theorem b_law : BindI i_law := fun _ _ _ _ _ _ us hl => match us, hl with | [_], _ => rfl
theorem tab_T : tab.T = T := rfl
theorem tab_B : tab.okB = true := by decide +kernel
theorem c_pairs_of_ok : ckSs (tab.cs i_pairs_of) i_pairs_of.fn.body i_pairs_of.d.body = true := by decide +kernel
theorem c_found_in_ok : ckSs (tab.cs i_found_in) i_found_in.fn.body i_found_in.d.body = true := by decide +kernel
theorem c_calendar_of_ok : ckSs (tab.cs i_calendar_of) i_calendar_of.fn.body i_calendar_of.d.body = true := by decide +kernel
theorem c_day_of_ok : ckSs (tab.cs i_day_of) i_day_of.fn.body i_day_of.d.body = true := by decide +kernel
theorem c_flag_of_ok : ckSs (tab.cs i_flag_of) i_flag_of.fn.body i_flag_of.d.body = true := by decide +kernel
theorem c_world_of_ok : ckSs (tab.cs i_world_of) i_world_of.fn.body i_world_of.d.body = true := by decide +kernel
theorem c_history_of_ok : ckSs (tab.cs i_history_of) i_history_of.fn.body i_history_of.d.body = true := by decide +kernel
theorem c__law_cell_ok : ckSs (tab.cs i__law_cell) i__law_cell.fn.body i__law_cell.d.body = true := by decide +kernel
theorem c__law_numbers_ok : ckSs (tab.cs i__law_numbers) i__law_numbers.fn.body i__law_numbers.d.body = true := by decide +kernel
theorem c__law_names_ok : ckSs (tab.cs i__law_names) i__law_names.fn.body i__law_names.d.body = true := by decide +kernel
theorem c__law_above_ok : ckSs (tab.cs i__law_above) i__law_above.fn.body i__law_above.d.body = true := by decide +kernel
theorem c__law_rules_ok : ckSs (tab.cs i__law_rules) i__law_rules.fn.body i__law_rules.d.body = true := by decide +kernel
theorem c__law_closed_ok : ckSs (tab.cs i__law_closed) i__law_closed.fn.body i__law_closed.d.body = true := by decide +kernel
theorem c__law_stretches_ok : ckSs (tab.cs i__law_stretches) i__law_stretches.fn.body i__law_stretches.d.body = true := by decide +kernel
theorem c__law_known_ok : ckSs (tab.cs i__law_known) i__law_known.fn.body i__law_known.d.body = true := by decide +kernel
theorem c__law_case_term_ok : ckSs (tab.cs i__law_case_term) i__law_case_term.fn.body i__law_case_term.d.body = true := by decide +kernel
theorem c__law_case_condition_ok : ckSs (tab.cs i__law_case_condition) i__law_case_condition.fn.body i__law_case_condition.d.body = true := by decide +kernel
theorem c__law_book_ok : ckSs (tab.cs i__law_book) i__law_book.fn.body i__law_book.d.body = true := by decide +kernel
theorem c__law_filings_ok : ckSs (tab.cs i__law_filings) i__law_filings.fn.body i__law_filings.d.body = true := by decide +kernel
theorem c__law_missing_ok : ckSs (tab.cs i__law_missing) i__law_missing.fn.body i__law_missing.d.body = true := by decide +kernel
theorem c__law_without_ok : ckSs (tab.cs i__law_without) i__law_without.fn.body i__law_without.d.body = true := by decide +kernel
theorem c_law_ok : ckSs (tab.cs i_law) i_law.fn.body i_law.d.body = true := by decide +kernel
theorem tab_C : tab.okC = true := by
  show (ckSs (tab.cs i_pairs_of) i_pairs_of.fn.body i_pairs_of.d.body && (ckSs (tab.cs i_found_in) i_found_in.fn.body i_found_in.d.body && (ckSs (tab.cs i_calendar_of) i_calendar_of.fn.body i_calendar_of.d.body && (ckSs (tab.cs i_day_of) i_day_of.fn.body i_day_of.d.body && (ckSs (tab.cs i_flag_of) i_flag_of.fn.body i_flag_of.d.body && (ckSs (tab.cs i_world_of) i_world_of.fn.body i_world_of.d.body && (ckSs (tab.cs i_history_of) i_history_of.fn.body i_history_of.d.body && (ckSs (tab.cs i__law_cell) i__law_cell.fn.body i__law_cell.d.body && (ckSs (tab.cs i__law_numbers) i__law_numbers.fn.body i__law_numbers.d.body && (ckSs (tab.cs i__law_names) i__law_names.fn.body i__law_names.d.body && (ckSs (tab.cs i__law_above) i__law_above.fn.body i__law_above.d.body && (ckSs (tab.cs i__law_rules) i__law_rules.fn.body i__law_rules.d.body && (ckSs (tab.cs i__law_closed) i__law_closed.fn.body i__law_closed.d.body && (ckSs (tab.cs i__law_stretches) i__law_stretches.fn.body i__law_stretches.d.body && (ckSs (tab.cs i__law_known) i__law_known.fn.body i__law_known.d.body && (ckSs (tab.cs i__law_case_term) i__law_case_term.fn.body i__law_case_term.d.body && (ckSs (tab.cs i__law_case_condition) i__law_case_condition.fn.body i__law_case_condition.d.body && (ckSs (tab.cs i__law_book) i__law_book.fn.body i__law_book.d.body && (ckSs (tab.cs i__law_filings) i__law_filings.fn.body i__law_filings.d.body && (ckSs (tab.cs i__law_missing) i__law_missing.fn.body i__law_missing.d.body && (ckSs (tab.cs i__law_without) i__law_without.fn.body i__law_without.d.body && (ckSs (tab.cs i_law) i_law.fn.body i_law.d.body && (true))))))))))))))))))))))) = true
  rw [c_pairs_of_ok, Bool.true_and, c_found_in_ok, Bool.true_and, c_calendar_of_ok, Bool.true_and, c_day_of_ok, Bool.true_and, c_flag_of_ok, Bool.true_and, c_world_of_ok, Bool.true_and, c_history_of_ok, Bool.true_and, c__law_cell_ok, Bool.true_and, c__law_numbers_ok, Bool.true_and, c__law_names_ok, Bool.true_and, c__law_above_ok, Bool.true_and, c__law_rules_ok, Bool.true_and, c__law_closed_ok, Bool.true_and, c__law_stretches_ok, Bool.true_and, c__law_known_ok, Bool.true_and, c__law_case_term_ok, Bool.true_and, c__law_case_condition_ok, Bool.true_and, c__law_book_ok, Bool.true_and, c__law_filings_ok, Bool.true_and, c__law_missing_ok, Bool.true_and, c__law_without_ok, Bool.true_and, c_law_ok, Bool.true_and]
theorem tab_I : ∀ i ∈ tab.defs, BindI i := fun i h => by
  have h : i ∈ [i_pairs_of, i_found_in, i_calendar_of, i_day_of, i_flag_of, i_world_of, i_history_of, i__law_cell, i__law_numbers, i__law_names, i__law_above, i__law_rules, i__law_closed, i__law_stretches, i__law_known, i__law_case_term, i__law_case_condition, i__law_book, i__law_filings, i__law_missing, i__law_without, i_law] := h
  simp only [List.mem_cons, List.not_mem_nil, or_false] at h
  rcases h with rfl | rfl | rfl | rfl | rfl | rfl | rfl | rfl | rfl | rfl | rfl | rfl | rfl | rfl | rfl | rfl | rfl | rfl | rfl | rfl | rfl | rfl
  · exact b_pairs_of
  · exact b_found_in
  · exact b_calendar_of
  · exact b_day_of
  · exact b_flag_of
  · exact b_world_of
  · exact b_history_of
  · exact b__law_cell
  · exact b__law_numbers
  · exact b__law_names
  · exact b__law_above
  · exact b__law_rules
  · exact b__law_closed
  · exact b__law_stretches
  · exact b__law_known
  · exact b__law_case_term
  · exact b__law_case_condition
  · exact b__law_book
  · exact b__law_filings
  · exact b__law_missing
  · exact b__law_without
  · exact b_law
end Mp.L
end
set_option Elab.async false
set_option linter.all false
set_option maxRecDepth 100000
set_option maxHeartbeats 4000000
namespace Mp.L
open PySem L2
abbrev RR : PySem.W.OpenRow := PySem.W.OpenLaw.row PySem.Challenge.rw_diesnon_k64_worlds_and_histories
abbrev hk : PySem.W.Hook := hookX 4 tab.fa tab.fx tab.dfs
def ob (s : PySem.W.SharedT) : AlX := obsX 4 tab.fa tab.fx tab.dfs (HandSHeadRun.getT s)
theorem ob_eq (s : PySem.W.SharedT) : ob s = hk.obs s.abs := obsX_eq (HandSHeadRun.getT_eq s)
abbrev looseL : List PySem.Str := [("DiesError" : Str), ("NotAllowed" : Str), ("Missing" : Str), ("pairs_of" : Str), ("found_in" : Str), ("calendar_of" : Str), ("day_of" : Str), ("flag_of" : Str), ("world_of" : Str), ("history_of" : Str), ("_law_cell" : Str), ("_law_numbers" : Str), ("_law_names" : Str), ("_law_above" : Str), ("_law_rules" : Str), ("_law_closed" : Str), ("_law_stretches" : Str), ("_law_known" : Str), ("_law_case_term" : Str), ("_law_case_condition" : Str), ("_law_book" : Str), ("_law_filings" : Str), ("_law_missing" : Str), ("_law_without" : Str)]
theorem runH (w : World) : HandSHeadRun.RunEq RR (PySem.W.view RR.prog [28]) hk ob 40000 looseL w := by
  intro os
  kernel_rfl
end Mp.L
open PySem PySem.W PySem.Calls PyProof.Rows
set_option maxRecDepth 100000 in
set_option maxHeartbeats 8000000 in
theorem PySem.Challenge.cw_diesnon_k64_worlds_and_histories_holds : PySem.Challenge.rw_diesnon_k64_worlds_and_histories.Holds := by
  w_on; o_law
  refine HandSHeadRun.head_any (r := OpenLaw.row PySem.Challenge.rw_diesnon_k64_worlds_and_histories) (q := view (OpenLaw.row PySem.Challenge.rw_diesnon_k64_worlds_and_histories).prog [28]) (H := Mp.L.hk) (ob := Mp.L.ob) (M := 40000) (loose := Mp.L.looseL) (d := HandSHeadRun.topDef (OpenLaw.row PySem.Challenge.rw_diesnon_k64_worlds_and_histories).prog 28) (kwd := []) Mp.L.ob_eq
    (by kernel_rfl) (fun s => by kernel_rfl) Mp.L.runH (by kernel_rfl) (by kernel_rfl) (by kernel_rfl) (by rfl) (by first | assumption | decide +kernel) (by decide +kernel) ⟨rfl, rfl, rfl, rfl, rfl, by decide +kernel⟩ ?hw ?hc
  case hw => w_witness2
  case hc =>
    refine L2.walk_ofE (l := PySem.Challenge.rw_diesnon_k64_worlds_and_histories) (n := Mp.L.nmax) (k := Mp.L.lev + 1 + 2) (x := "script") (CX := L2.CX0) rfl (by decide) (by kernel_rfl) ⟨rfl, by decide, by decide⟩ ?F (fun _ _ _ _ z => z)
    intro w mg fa h Y G hmg0
    obtain ⟨K, KX, c⟩ := Y
    have hmg : mg ("law" : PySem.Str) = some (.ref fa) := by
      have e : (HandSHeadRun.topDef (OpenLaw.row PySem.Challenge.rw_diesnon_k64_worlds_and_histories).prog 28).name = ("law" : PySem.Str) := by kernel_rfl
      rw [← e]
      exact hmg0
    obtain ⟨fd, hb, hF⟩ := Mp.tab_law (P := (PySem.Challenge.rw_diesnon_k64_worlds_and_histories).prog) (w := w) (t := Mp.L.tab) (k := Mp.L.lev) (f := Mp.L.f_law) (i := Mp.L.i_law) (x := "script") ⟨by kernel_rfl, by decide +kernel⟩ KX G c Mp.L.tab_B Mp.L.tab_C Mp.L.tab_I rfl rfl rfl rfl hmg
    exact ⟨K, fd, (fun vs H Q _ => Mp.spZ (Mp.L.tab.L K) Mp.L.tab.T Mp.L.f_law (Mp.L.lev+1) vs H Q fun _ _ _ => False), KX, hb, fun H a ns hl _ hS => Mp.law_sp hS (Mp.L.law_true ns hl), hF⟩
