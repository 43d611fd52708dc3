import PyProof.Rows.All
import Wide.All
import OpenK.AllK
import Wide.FinOn
import HandS.ForMost
import HandS.IsInst
import HandS.RaiseMore
import HandS.StrMore
import HandS.TupAny
import HandS.Style
import KE.KStateDown
import Lean
import HandS.Head0
import HandS.Head1
import HandS.Head2
import HandS.HeadEnd
import HandS.HeadHook1
import HandS.HeadHook2
import HandS.Words
import HandS.WordsExc
import HandS.Defaults
import HandS.More
import HandS.Ends
import PyProof.StrLawsOcc
import KE.KIntText
import PySem.Challenge.RW_wokenlives_k02_first_bad_token
set_option Elab.async false
set_option linter.all false
set_option maxRecDepth 100000
set_option autoImplicit false
set_option maxHeartbeats 0
section
/-! Ev1: a small pure language (IR) over data, and what its terms are worth. -/
namespace Ev
open PySem PySem.Spec L2
noncomputable section

abbrev D := PyData
/-- what stands in a slot: nothing known, or data; true: a list that this frame alone holds -/
abbrev SV := Option (Bool × D)
abbrev Env' := List SV
/-- what a def is worth: of the arguments' data; true: the answer is a new list -/
abbrev Cf := Nat → List D → Option (Bool × D)

inductive O2 where | add | sub | mul | fdiv | mod | pow
  deriving DecidableEq
inductive CO where | lt | le | gt | ge | eq | ne | isn | notn | inn | nin
  deriving DecidableEq
inductive Ty where | int | bool | str | tuple | list
  deriving DecidableEq
inductive Bi where | abs | int | len | max2 | min2 | str | tuple | list | all | any
  deriving DecidableEq
inductive Me where | find1 | find2 | isdigit | join | split
  deriving DecidableEq

mutual
inductive E where
  | var (i : Nat) | bor (i : Nat) | int (i : Int) | str (x : Str) | bl (b : Bool) | non | glo (k : Nat)
  | bin (o : O2) (a b : E) | neg (a : E) | not (a : E) | cmp (o : CO) (a b : E) | chain (o p : CO) (a b c : E)
  | and (es : Es) | or (es : Es) | ife (c a b : E)
  | tup (es : Es) | lst (es : Es) | ix (a b : E) | sl (a : E) (lo hi : E) | slo (a lo : E) | sll (a hi : E)
  | call (f : Nat) (es : Es) | cab (f : Nat) (es : Es) | cal0 (f : Nat) | blt (b : Bi) (es : Es) | isi (a : E) (t : Ty) | met (m : Me) (a : E) (es : Es)
  | comp (elt : E) (i : Nat) (it : It) (cnd : Oe)
inductive Es where | nil | cons (e : E) (r : Es)
inductive It where | over (e : E) | ovs (e : E) | rng1 (a : E) | rng2 (a b : E)
inductive Oe where | none | some (e : E)
end

/-! ### operations on data -/
def scalD : D → Bool
  | .none | .bool _ | .int _ | .str _ => true
  | _ => false
def eqD (a b : D) : Option Bool :=
  if SeqAt.shaped a = true ∧ SeqAt.shaped b = true then some (PyData.eqv a b) else none
instance (i j : Int) : Decidable (CMul i j) := by unfold CMul; infer_instance
instance (i j : Int) : Decidable (CDivN i j) := by unfold CDivN; infer_instance
instance (i j : Int) : Decidable (CPow i j) := by unfold CPow; infer_instance
def addD : D → D → Option D
  | .int i, .int j => some (.int (i + j))
  | .str x, .str y => if x.length + y.length ≤ sizeLine then some (.str (x ++ y)) else none
  | .list xs, .list ys => if xs.length + ys.length ≤ sizeLine then some (.list (xs ++ ys)) else none
  | .tuple xs, .tuple ys => if xs.length + ys.length ≤ sizeLine then some (.tuple (xs ++ ys)) else none
  | _, _ => none
def intD (f : Int → Int → Option Int) : D → D → Option D
  | .int i, .int j => (f i j).map .int
  | _, _ => none
def mulI (i j : Int) : Option Int := @ite _ (CMul i j) (Classical.propDecidable _) (some (i * j)) none
def divI (i j : Int) : Option Int := @ite _ (CDivN i j) (Classical.propDecidable _) (some (i.fdiv j)) none
def modI (i j : Int) : Option Int := if j ≠ 0 then some (i.fmod j) else none
def powI (i j : Int) : Option Int := @ite _ (CPow i j) (Classical.propDecidable _) (some (i ^ j.toNat)) none
def binD : O2 → D → D → Option D
  | .add => addD
  | .sub => intD fun i j => some (i - j)
  | .mul => intD mulI
  | .fdiv => intD divI
  | .mod => intD modI
  | .pow => intD powI
/-- += and -= -/
def augD : O2 → D → D → Option D
  | .add, .int i, .int j => some (.int (i + j))
  | .add, .str x, .str y => if x.length + y.length ≤ sizeLine then some (.str (x ++ y)) else none
  | .sub, .int i, .int j => some (.int (i - j))
  | _, _, _ => none
def ordD (o : CO) : D → D → Option D
  | .int i, .int j => match o with
    | .lt => some (.bool (decide (i < j)))
    | .le => some (.bool (decide (i ≤ j)))
    | .gt => some (.bool (decide (j < i)))
    | .ge => some (.bool (decide (j ≤ i)))
    | _ => none
  | .str x, .str y => match o with
    | .lt => some (.bool (decide (x.cps.toList < y.cps.toList)))
    | .le => some (.bool (!decide (y.cps.toList < x.cps.toList)))
    | _ => none
  | _, _ => none
def isnD : D → Bool
  | .none => true
  | _ => false
def inL (neg : Bool) (a : D) (xs : List D) : D := .bool (if neg then !xs.any (PyData.eqv · a) else xs.any (PyData.eqv · a))
def inD (neg : Bool) (a : D) : D → Option D
  | .list xs => if scalD a = true ∧ xs.all scalD = true then some (inL neg a xs) else none
  | .tuple xs => if scalD a = true ∧ xs.all scalD = true then some (inL neg a xs) else none
  | _ => none
/-- in: also a string in a string -/
def inD2 : D → D → Option D
  | .str x, .str y => some (.bool (!(Builtin.Str.occurrences y x 0 y.length 1).isEmpty))
  | a, b => inD false a b
def isD : D → D → Option D
  | .bool x, .bool y => some (.bool (decide (x = y)))
  | a, b => if isnD b = true then some (.bool (isnD a)) else none
def isnotD (a b : D) : Option D := if isnD b = true then some (.bool (!isnD a)) else none
def cmpD : CO → D → D → Option D
  | .eq, a, b => (eqD a b).map .bool
  | .ne, a, b => (eqD a b).map fun c => .bool (!c)
  | .isn, a, b => isD a b
  | .notn, a, b => isnotD a b
  | .inn, a, b => inD2 a b
  | .nin, a, b => inD true a b
  | o, a, b => ordD o a b
def isiD : D → Ty → Option Bool
  | .none, _ => some false
  | .bool _, .bool => some true
  | .bool _, .int => some true
  | .bool _, _ => some false
  | .int _, t => some (decide (t = .int))
  | .str _, t => some (decide (t = .str))
  | .tuple _, t => some (decide (t = .tuple))
  | .list _, t => some (decide (t = .list))
  | _, _ => none
/-- a list that is only read here (the script): klD xs -/
abbrev klD (xs : List D) : D := .dict [(.none, .list xs)]
def ixD : D → D → Option D
  | .dict [(.none, .list xs)], .int i => atI xs i
  | .list xs, .int i => atI xs i
  | .tuple xs, .int i => atI xs i
  | .str z, .int i => if z.length ≤ sizeLine then (atI z.cps.toList i).map fun c => .str ⟨#[c]⟩ else none
  | _, _ => none
def cutD (xs : List D) (lo hi : Option Int) : List D := (xs.drop (HT.sIx xs.length 0 lo)).take (HT.sIx xs.length xs.length hi - HT.sIx xs.length 0 lo)
def slD (lo hi : Option Int) : D → Option D
  | .list xs => some (.list (cutD xs lo hi))
  | .tuple xs => some (.tuple (cutD xs lo hi))
  | .str z => if z.length ≤ sizeLine then some (.str (cutS z lo hi)) else none
  | _ => none
def boolsOf : List D → Option (List Bool)
  | [] => some []
  | .bool b :: r => (boolsOf r).map (b :: ·)
  | _ :: _ => none
def strsOf : List D → Option (List Str)
  | [] => some []
  | .str b :: r => (strsOf r).map (b :: ·)
  | _ :: _ => none
def lenD : D → Option D
  | .dict [(.none, .list xs)] => some (.int xs.length)
  | .list xs => some (.int xs.length)
  | .tuple xs => some (.int xs.length)
  | .str z => if z.length ≤ sizeLine then some (.int z.length) else none
  | _ => none
def biD : Bi → List D → Option D
  | .abs, [.int i] => some (.int (if i < 0 then -i else i))
  | .int, [.int i] => some (.int i)
  | .int, [.bool b] => some (.int (if b = true then 1 else 0))
  | .len, [a] => lenD a
  | .max2, [.int i, .int j] => some (.int (if j > i then j else i))
  | .min2, [.int i, .int j] => some (.int (if j < i then j else i))
  | .str, [.int i] => if i.natAbs.log2 < 1920 then some (.str (toString i)) else none
  | .str, [.str x] => some (.str x)
  | .tuple, [.list xs] => some (.tuple xs)
  | .tuple, [.tuple xs] => some (.tuple xs)
  | .list, [.list xs] => some (.list xs)
  | .list, [.tuple xs] => some (.list xs)
  | .all, [.list xs] => (boolsOf xs).map fun bs => .bool (bs.all id)
  | .any, [.list xs] => (boolsOf xs).map fun bs => .bool (bs.any id)
  | _, _ => none
def meD : Me → D → List D → Option D
  | .find1, .str a, [.str b] => some (.int (Txt.find a b))
  | .find2, .str a, [.str b, .int i] => some (.int (Txt.find3 a b i))
  | .isdigit, .str a, [] => some (.bool (Txt.isdigit a))
  | .join, .str a, [.list xs] => match strsOf xs with
    | some ys => if (ys.map (·.length)).sum + ys.length * a.length ≤ 16777216 then some (.str (Txt.join a ys)) else none
    | none => none
  | .split, .str a, [.str b] => if (b.length == 0) = false ∧ a.length + 2 ≤ sizeLine then some (.list ((Txt.split a b).map .str)) else none
  | _, _, _ => none

/-! ### what a term is worth -/
def getS (ρ : Env') (i : Nat) : Option D := match ρ[i]? with
  | some (some (false, d)) => some d
  | _ => none
def getB (ρ : Env') (i : Nat) : Option D := match ρ[i]? with
  | some (some (_, d)) => some d
  | _ => none
def asB : D → Option Bool
  | .bool b => some b
  | _ => none
def asI : D → Option Int
  | .int b => some b
  | _ => none
def asL : D → Option (List D)
  | .dict [(.none, .list xs)] => some xs
  | .list b => some b
  | .tuple b => some b
  | _ => none
/-- a string's signs -/
def asC : D → Option (List D)
  | .str z => some (z.cps.toList.map fun c => .str ⟨#[c]⟩)
  | _ => none
def rngD (lo hi : Int) : Option (List D) :=
  @ite _ (-(2 ^ 62) ≤ lo ∧ lo < 2 ^ 62 ∧ -(2 ^ 62) ≤ hi ∧ hi < 2 ^ 62) (Classical.propDecidable _) (some ((List.range (hi - lo).toNat).map fun (k : Nat) => .int (lo + (k : Int)))) none
/-- the turns of a comprehension -/
def compD (f : D → Option (Option D)) : List D → Option (List D)
  | [] => some []
  | d :: r => match f d with
    | some (some x) => (compD f r).map (x :: ·)
    | some none => compD f r
    | none => none

section
variable (gs : Nat → Option D) (cf : Cf)
mutual
def evE : E → Env' → Option D
  | .var i, ρ => getS ρ i
  | .bor i, ρ => getB ρ i
  | .int i, _ => some (.int i)
  | .str x, _ => some (.str x)
  | .bl b, _ => some (.bool b)
  | .non, _ => some .none
  | .glo k, _ => gs k
  | .bin o a b, ρ => (evE a ρ).bind fun x => (evE b ρ).bind fun y => binD o x y
  | .neg a, ρ => (evE a ρ).bind fun x => (asI x).map fun i => .int (-i)
  | .not a, ρ => (evE a ρ).bind fun x => (asB x).map fun b => .bool (!b)
  | .cmp o a b, ρ => (evE a ρ).bind fun x => (evE b ρ).bind fun y => cmpD o x y
  | .chain o p a b c, ρ => (evE a ρ).bind fun x => (evE b ρ).bind fun y => (cmpD o x y).bind fun k => (asB k).bind fun t =>
      if t = true then (evE c ρ).bind fun z => cmpD p y z else some (.bool false)
  | .and es, ρ => evAnd es ρ
  | .or es, ρ => evOr es ρ
  | .ife c a b, ρ => (evE c ρ).bind fun x => (asB x).bind fun t => if t = true then evE a ρ else evE b ρ
  | .tup es, ρ => (evEs es ρ).bind fun xs => if xs.length ≤ sizeLine then some (.tuple xs) else none
  | .lst es, ρ => (evEs es ρ).bind fun xs => if xs.length ≤ sizeLine then some (.list xs) else none
  | .ix a b, ρ => (evE a ρ).bind fun x => (evE b ρ).bind fun y => ixD x y
  | .sl a lo hi, ρ => (evE a ρ).bind fun x => (evE lo ρ).bind fun l => (evE hi ρ).bind fun h => (asI l).bind fun l => (asI h).bind fun h => slD (some l) (some h) x
  | .slo a lo, ρ => (evE a ρ).bind fun x => (evE lo ρ).bind fun l => (asI l).bind fun l => slD (some l) none x
  | .sll a hi, ρ => (evE a ρ).bind fun x => (evE hi ρ).bind fun h => (asI h).bind fun h => slD none (some h) x
  | .call f es, ρ => (evEs es ρ).bind fun xs => (cf f xs).map (·.2)
  | .cab f es, ρ => (evEs es ρ).bind fun xs => (cf f xs).bind fun r => if scalD r.2 = true then some r.2 else none
  | .cal0 f, _ => (cf f []).map (·.2)
  | .blt b es, ρ => (evEs es ρ).bind fun xs => biD b xs
  | .isi a t, ρ => (evE a ρ).bind fun x => (isiD x t).map .bool
  | .met m a es, ρ => (evE a ρ).bind fun x => (evEs es ρ).bind fun xs => meD m x xs
  | .comp elt i it cnd, ρ => ((evI it ρ).bind fun ds => (compD (fun d =>
      (evO cnd ((ρ.set i none).set i (some (false, d)))).bind fun t =>
        if t = true then (evE elt ((ρ.set i none).set i (some (false, d)))).map some else some none) ds).bind fun xs =>
      if xs.length < sizeLine then some xs else none).map .list
def evEs : Es → Env' → Option (List D)
  | .nil, _ => some []
  | .cons e r, ρ => (evE e ρ).bind fun x => (evEs r ρ).map (x :: ·)
def evAnd : Es → Env' → Option D
  | .nil, _ => none
  | .cons e .nil, ρ => evE e ρ
  | .cons e (.cons f r), ρ => (evE e ρ).bind fun x => (asB x).bind fun t => if t = true then evAnd (.cons f r) ρ else some (.bool false)
def evOr : Es → Env' → Option D
  | .nil, _ => none
  | .cons e .nil, ρ => evE e ρ
  | .cons e (.cons f r), ρ => (evE e ρ).bind fun x => (asB x).bind fun t => if t = true then some (.bool true) else evOr (.cons f r) ρ
def evI : It → Env' → Option (List D)
  | .over e, ρ => (evE e ρ).bind asL
  | .ovs e, ρ => (evE e ρ).bind asC
  | .rng1 a, ρ => (evE a ρ).bind fun x => (asI x).bind fun j => rngD 0 j
  | .rng2 a b, ρ => (evE a ρ).bind fun x => (evE b ρ).bind fun y => (asI x).bind fun i => (asI y).bind fun j => rngD i j
def evO : Oe → Env' → Option Bool
  | .none, _ => some true
  | .some e, ρ => (evE e ρ).bind asB
end
end

/-! ### statements -/
inductive Tg where | one (i : Nat) | tup (is : List Nat)
mutual
inductive S where
  | asg (t : Tg) (e : E)            -- target = e
  | asgN (i : Nat) (e : E)          -- x = a new list
  | aug (i : Nat) (o : O2) (e : E)
  | app (i : Nat) (e : E)           -- x.append(e)
  | set (i : Nat) (k e : E)         -- x[k] = e
  | clr (i : Nat)
  | frz (i : Nat)                   -- no row of the text: x is read by others from here on
  | ife (c : E) (a b : Ss)
  | for_ (t : Tg) (it : It) (b : Ss)
  | whl (c : E) (b : Ss)
  | ret (e : E) | retO (i : Nat) | retN
  | brk | cnt | pass
inductive Ss where | nil | cons (s : S) (r : Ss)
end

inductive Out where
  | nx (ρ : Env') | rt (fr : Bool) (d : D) | bk (ρ : Env') | ct (ρ : Env')

/-- one after the other -/
def seqO (o : Option Out) (f : Env' → Option Out) : Option Out := match o with
  | some (.nx ρ') => f ρ'
  | o => o
def asgD : Tg → D → Env' → Option Env'
  | .one i, d, ρ => some (ρ.set i (some (false, d)))
  | .tup is, .tuple ds, ρ => if is.length = ds.length then some ((is.zip ds).foldl (fun ρ p => ρ.set p.1 (some (false, p.2))) ρ) else none
  | _, _, _ => none
def forD (f : D → Env' → Option Out) : List D → Env' → Option Out
  | [], ρ => some (.nx ρ)
  | d :: ds, ρ => match f d ρ with
    | some (.nx ρ') => forD f ds ρ'
    | some (.ct ρ') => forD f ds ρ'
    | some (.bk ρ') => some (.nx ρ')
    | some (.rt fr x) => some (.rt fr x)
    | none => none
def whlD (c : Env' → Option Bool) (f : Env' → Option Out) : Nat → Env' → Option Out
  | 0, _ => none
  | n + 1, ρ => match c ρ with
    | some true => (match f ρ with
      | some (.nx ρ') => whlD c f n ρ'
      | some (.ct ρ') => whlD c f n ρ'
      | some (.bk ρ') => some (.nx ρ')
      | some (.rt fr x) => some (.rt fr x)
      | none => none)
    | some false => some (.nx ρ)
    | none => none
def ownL (ρ : Env') (i : Nat) : Option (List D) := match ρ[i]? with
  | some (some (true, .list xs)) => some xs
  | _ => none
section
variable (gs : Nat → Option D) (cf : Cf) (fu : Nat)
/-- the new list that a term makes -/
def evN (e : E) (ρ : Env') : Option (List D) := match e with
  | .call f es => (evEs gs cf es ρ).bind fun xs => (cf f xs).bind fun r => match r with
    | (true, .list ys) => some ys
    | _ => none
  | .lst es => (evEs gs cf es ρ).bind fun xs => if xs.length ≤ sizeLine then some xs else none
  | .comp a i it c => (evI gs cf it ρ).bind fun ds => (compD (fun d =>
      (evO gs cf c ((ρ.set i none).set i (some (false, d)))).bind fun t =>
        if t = true then (evE gs cf a ((ρ.set i none).set i (some (false, d)))).map some else some none) ds).bind fun xs =>
      if xs.length < sizeLine then some xs else none
  | .bin .add a b => (evE gs cf a ρ).bind fun x => (evE gs cf b ρ).bind fun y => match x, y with
    | .list xs, .list ys => if xs.length + ys.length ≤ sizeLine then some (xs ++ ys) else none
    | _, _ => none
  | .blt .list es => (evEs gs cf es ρ).bind fun xs => match xs with
    | [.list ys] => some ys
    | [.tuple ys] => some ys
    | _ => none
  | _ => none
mutual
def exS : S → Env' → Option Out
  | .asg t e, ρ => (evE gs cf e ρ).bind fun d => (asgD t d ρ).map .nx
  | .asgN i e, ρ => (evN gs cf e ρ).map fun xs => .nx (ρ.set i (some (true, .list xs)))
  | .aug i o e, ρ => (getS ρ i).bind fun x => (evE gs cf e ρ).bind fun y => (augD o x y).map fun z => .nx (ρ.set i (some (false, z)))
  | .app i e, ρ => (ownL ρ i).bind fun xs => (evE gs cf e ρ).bind fun y => if xs.length < sizeLine then some (.nx (ρ.set i (some (true, .list (xs ++ [y]))))) else none
  | .set i k e, ρ => (ownL ρ i).bind fun xs => (evE gs cf e ρ).bind fun y => (evE gs cf k ρ).bind fun k => (asI k).bind fun k => (ixN xs.length k).map fun j => .nx (ρ.set i (some (true, .list (xs.set j y))))
  | .clr i, ρ => (ownL ρ i).map fun _ => .nx (ρ.set i (some (true, .list [])))
  | .frz i, ρ => (ownL ρ i).map fun xs => .nx (ρ.set i (some (false, .list xs)))
  | .ife c a b, ρ => (evE gs cf c ρ).bind fun x => (asB x).bind fun t => if t = true then exSs a ρ else exSs b ρ
  | .for_ t it b, ρ => (evI gs cf it ρ).bind fun ds => forD (fun d ρ => (asgD t d ρ).bind fun ρ' => exSs b ρ') ds ρ
  | .whl c b, ρ => whlD (fun ρ => (evE gs cf c ρ).bind asB) (fun ρ => exSs b ρ) fu ρ
  | .ret e, ρ => (evE gs cf e ρ).map fun d => .rt false d
  | .retO i, ρ => (ownL ρ i).map fun xs => .rt true (.list xs)
  | .retN, _ => some (.rt false .none)
  | .brk, ρ => some (.bk ρ)
  | .cnt, ρ => some (.ct ρ)
  | .pass, ρ => some (.nx ρ)
def exSs : Ss → Env' → Option Out
  | .nil, ρ => some (.nx ρ)
  | .cons s r, ρ => seqO (exS s ρ) fun ρ' => exSs r ρ'
end
end

/-- a def: how many parameters, how many slots, its body -/
structure Fn where
  np : Nat
  ns : Nat
  body : Ss
def startD (ns : Nat) (ds : List D) : Env' := ds.map (fun d => some (false, d)) ++ List.replicate (ns - ds.length) none
def outD : Option Out → Option (Bool × D)
  | some (.rt fr d) => some (fr, d)
  | some (.nx _) => some (false, .none)
  | _ => none
def callF (gs : Nat → Option D) (fns : Nat → Option Fn) (fu : Nat) : Nat → Cf
  | 0, _, _ => none
  | k + 1, f, ds => match fns f with
    | some fn => if ds.length = fn.np ∧ fn.np ≤ fn.ns then outD (exSs gs (callF gs fns fu k) fu fn.body (startD fn.ns ds)) else none
    | none => none
end
end Ev
end
section
/-! Ev2: how data lies in the heap; states; what an evaluation leaves. -/
namespace Ev
open PySem PySem.Spec L2

/-- G: what is read by others, part of H; behind an evaluation -/
structure Ext (G H G' H' : Hp) : Prop where
  gg : Same G G'
  gh : Same G' H'
  hh : Same H H'
  fr : ∀ a o, H a = some o → G a = none → G' a = none
theorem Ext.refl {G H : Hp} (h : Same G H) : Ext G H G H := ⟨Same.refl _, h, Same.refl _, fun _ _ _ e => e⟩
theorem Ext.trans {G H G1 H1 G2 H2 : Hp} (a : Ext G H G1 H1) (b : Ext G1 H1 G2 H2) : Ext G H G2 H2 :=
  ⟨a.gg.trans b.gg, b.gh, a.hh.trans b.hh, fun x o e n => b.fr x o (a.hh x o e) (a.fr x o e n)⟩
theorem same_upd {H : Hp} {p : Addr} {o : HO} (h : H p = none) : Same H (upd H p o) := fun b x e => by
  rw [upd_ne (ne_of_none e h)]
  exact e
/-- a new object, for all to read -/
theorem Ext.add {G H : Hp} {p : Addr} {o : HO} (s : Same G H) (h : H p = none) : Ext G H (upd G p o) (upd H p o) := by
  have hG : G p = none := s.free h
  refine ⟨same_upd hG, fun b x e => ?_, same_upd h, fun a x e n => ?_⟩
  · by_cases hb : b = p
    · subst hb
      rw [upd_same] at e ⊢
      exact e
    · rw [upd_ne hb] at e ⊢
      exact s _ _ e
  · rw [upd_ne (ne_of_none e h)]
    exact n
/-- a new object, for this frame alone -/
theorem Ext.own {G H : Hp} {p : Addr} {o : HO} (s : Same G H) (h : H p = none) : Ext G H G (upd H p o) :=
  ⟨Same.refl _, s.trans (same_upd h), same_upd h, fun _ _ _ e => e⟩

section
variable {K : PySem.W.Frag}
theorem seqT_mono {H H' : Hp} {a : Addr} {xs : List V} (e : Same H H') (h : SqT K H a xs) : SqT K H' a xs := by
  rcases h with (h | ⟨o, h⟩) | h
  · exact .inl (.inl (e _ _ h))
  · exact .inl (.inr ⟨o, e _ _ h⟩)
  · exact .inr h
/-! data as it lies: lists are this run's own (or the script), tuples may be the module's -/
mutual
inductive Rp (K : PySem.W.Frag) (H : Hp) : V → D → Prop
  | non : Rp K H .non .none
  | bl (b : Bool) : Rp K H (.bl b) (.bool b)
  | int (i : Int) : Rp K H (.int i) (.int i)
  | str (x : Str) : Rp K H (.str x) (.str x)
  | lst {a : Addr} {xs : List V} {ds : List D} : Rd H a (.lst xs) → RpAll K H xs ds → Rp K H (.ref a) (.list ds)
  | tup {a : Addr} {xs : List V} {ds : List D} : SqT K H a xs → RpAll K H xs ds → Rp K H (.ref a) (.tuple ds)
  | kls {a : Addr} {xs : List V} {ds : List D} : SqL K H a xs → RpAll K H xs ds → Rp K H (.ref a) (klD ds)
inductive RpAll (K : PySem.W.Frag) (H : Hp) : List V → List D → Prop
  | nil : RpAll K H [] []
  | cons {v : V} {vs : List V} {d : D} {ds : List D} : Rp K H v d → RpAll K H vs ds → RpAll K H (v :: vs) (d :: ds)
end
theorem rd_mono {H H' : Hp} (e : Same H H') {a : Addr} {u : HO} (h : Rd H a u) : Rd H' a u := h.elim (fun q => .inl (e _ _ q)) fun ⟨o, q⟩ => .inr ⟨o, e _ _ q⟩
mutual
theorem rp_dp {H : Hp} : ∀ {v : V} {d : D}, Rp K H v d → d.canLay0 = true → Dp K H v d
  | _, _, .non, _ => .non
  | _, _, .bl b, _ => .bl b
  | _, _, .int i, _ => .int i
  | _, _, .str x, _ => .str x
  | _, _, .lst s a, h => .lst (.inl s) (rp_dpAll a (by simpa [PyData.canLay0] using h))
  | _, _, .tup s a, h => .tup s (rp_dpAll a (by simpa [PyData.canLay0] using h))
  | _, _, .kls s a, h => by simp [PyData.canLay0] at h
theorem rp_dpAll {H : Hp} : ∀ {vs : List V} {ds : List D}, RpAll K H vs ds → PyData.canLayAll0 ds = true → DpAll K H vs ds
  | _, _, .nil, _ => .nil
  | _, _, .cons h t, z => by
    simp only [PyData.canLayAll0, Bool.and_eq_true] at z
    exact .cons (rp_dp h z.1) (rp_dpAll t z.2)
end
mutual
theorem dp_mono {H H' : Hp} (e : Same H H') : ∀ {v : V} {d : D}, Rp K H v d → Rp K H' v d
  | _, _, .non => .non
  | _, _, .bl b => .bl b
  | _, _, .int i => .int i
  | _, _, .str x => .str x
  | _, _, .lst s a => .lst (rd_mono e s) (dpAll_mono e a)
  | _, _, .tup s a => .tup (seqT_mono e s) (dpAll_mono e a)
  | _, _, .kls s a => .kls (e.seq s) (dpAll_mono e a)
theorem dpAll_mono {H H' : Hp} (e : Same H H') : ∀ {vs : List V} {ds : List D}, RpAll K H vs ds → RpAll K H' vs ds
  | _, _, .nil => .nil
  | _, _, .cons h t => .cons (dp_mono e h) (dpAll_mono e t)
end
theorem dpAll_len {H : Hp} : ∀ {vs : List V} {ds : List D}, RpAll K H vs ds → vs.length = ds.length
  | _, _, .nil => rfl
  | _, _, .cons _ t => congrArg (· + 1) (dpAll_len t)
theorem dpAll_append {H : Hp} : ∀ {vs ws : List V} {ds es : List D}, RpAll K H vs ds → RpAll K H ws es → RpAll K H (vs ++ ws) (ds ++ es)
  | _, _, _, _, .nil, h => h
  | _, _, _, _, .cons h t, g => .cons h (dpAll_append t g)
theorem dpAll_take {H : Hp} : ∀ (n : Nat) {vs : List V} {ds : List D}, RpAll K H vs ds → RpAll K H (vs.take n) (ds.take n)
  | 0, _, _, _ => .nil
  | _ + 1, _, _, .nil => .nil
  | n + 1, _, _, .cons h t => .cons h (dpAll_take n t)
theorem dpAll_drop {H : Hp} : ∀ (n : Nat) {vs : List V} {ds : List D}, RpAll K H vs ds → RpAll K H (vs.drop n) (ds.drop n)
  | 0, _, _, h => h
  | _ + 1, _, _, .nil => .nil
  | n + 1, _, _, .cons _ t => dpAll_drop n t
theorem dpAll_set {H : Hp} {x : V} {y : D} (h : Rp K H x y) : ∀ (n : Nat) {vs : List V} {ds : List D}, RpAll K H vs ds → RpAll K H (vs.set n x) (ds.set n y)
  | _, _, _, .nil => .nil
  | 0, _, _, .cons _ t => .cons h t
  | n + 1, _, _, .cons g t => .cons g (dpAll_set h n t)
theorem dpAll_get {H : Hp} : ∀ {vs : List V} {ds : List D} {n : Nat} {d : D}, RpAll K H vs ds → ds[n]? = some d → ∃ v, vs[n]? = some v ∧ Rp K H v d
  | _, _, _, _, .nil, e => by simp at e
  | _, _, 0, _, .cons h _, e => by
    simp at e
    subst e
    exact ⟨_, rfl, h⟩
  | _, _, n + 1, _, .cons _ t, e => by
    obtain ⟨v, h1, h2⟩ := dpAll_get t (n := n) (by simpa using e)
    exact ⟨v, by simpa using h1, h2⟩

/-- what may be read as d now: it is for all to read, or a list of this frame -/
inductive RB (K : PySem.W.Frag) (G H : Hp) : V → D → Prop
  | sh {v : V} {d : D} : Rp K G v d → RB K G H v d
  | ow {a : Addr} {vs : List V} {ds : List D} : H a = some (.lst vs) → RpAll K G vs ds → RB K G H (.ref a) (.list ds)
theorem RB.mono {G H G' H' : Hp} (e : Ext G H G' H') {v : V} {d : D} : RB K G H v d → RB K G' H' v d
  | .sh h => .sh (dp_mono e.gg h)
  | .ow h a => .ow (e.hh _ _ h) (dpAll_mono e.gg a)
theorem RB.now {G H : Hp} (s : Same G H) {v : V} {d : D} : RB K G H v d → Rp K H v d
  | .sh h => dp_mono s h
  | .ow h a => .lst (.inl h) (dpAll_mono s a)
theorem RB.list {G H : Hp} (s : Same G H) {v : V} {ds : List D} : RB K G H v (.list ds) → ∃ a vs, v = .ref a ∧ Rd H a (.lst vs) ∧ RpAll K G vs ds
  | .sh (.lst h a) => ⟨_, _, rfl, rd_mono s h, a⟩
  | .ow h a => ⟨_, _, rfl, .inl h, a⟩
theorem RB.tuple {G H : Hp} (s : Same G H) {v : V} {ds : List D} : RB K G H v (.tuple ds) → ∃ a vs, v = .ref a ∧ SqT K H a vs ∧ RpAll K G vs ds
  | .sh (.tup h a) => ⟨_, _, rfl, seqT_mono s h, a⟩
theorem RB.kls {G H : Hp} (s : Same G H) {v : V} {ds : List D} : RB K G H v (klD ds) → ∃ a vs, v = .ref a ∧ SqL K H a vs ∧ RpAll K G vs ds
  | .sh (.kls h a) => ⟨_, _, rfl, s.seq h, a⟩
theorem RB.int {G H : Hp} {v : V} {i : Int} : RB K G H v (.int i) → v = .int i
  | .sh (.int _) => rfl
theorem RB.str {G H : Hp} {v : V} {i : Str} : RB K G H v (.str i) → v = .str i
  | .sh (.str _) => rfl
theorem RB.bool {G H : Hp} {v : V} {i : Bool} : RB K G H v (.bool i) → v = .bl i
  | .sh (.bl _) => rfl
theorem RB.non {G H : Hp} {v : V} : RB K G H v .none → v = .non
  | .sh .non => rfl
inductive RBs (K : PySem.W.Frag) (G H : Hp) : List V → List D → Prop
  | nil : RBs K G H [] []
  | cons {v : V} {vs : List V} {d : D} {ds : List D} : RB K G H v d → RBs K G H vs ds → RBs K G H (v :: vs) (d :: ds)

/-- a frame's state: G0, H0 at its entry -/
structure StOk (K : PySem.W.Frag) (G0 H0 : Hp) (ρ : Env') (σ : St) (G H : Hp) : Prop where
  ext : Ext G0 H0 G H
  len : σ.length = ρ.length
  sh : ∀ (i : Nat) (d : D), ρ[i]? = some (some (false, d)) → ∃ v, σ[i]? = some (some v) ∧ Rp K G v d
  ow : ∀ (i : Nat) (d : D), ρ[i]? = some (some (true, d)) → ∃ a vs ds, d = .list ds ∧ σ[i]? = some (some (.ref a)) ∧ H a = some (.lst vs) ∧ RpAll K G vs ds ∧ G a = none ∧ H0 a = none
  sep : ∀ (i j : Nat) (d e : D) (a : Addr), i ≠ j → ρ[i]? = some (some (true, d)) → ρ[j]? = some (some (true, e)) → σ[i]? = some (some (.ref a)) → σ[j]? = some (some (.ref a)) → False
theorem StOk.same {G0 H0 G H : Hp} {ρ : Env'} {σ : St} (s : StOk K G0 H0 ρ σ G H) : Same G H := s.ext.gh
theorem StOk.mono {G0 H0 G H G' H' : Hp} {ρ : Env'} {σ : St} (s : StOk K G0 H0 ρ σ G H) (e : Ext G H G' H') : StOk K G0 H0 ρ σ G' H' :=
  ⟨s.ext.trans e, s.len, fun i d h => let ⟨v, h1, h2⟩ := s.sh i d h; ⟨v, h1, dp_mono e.gg h2⟩,
   fun i d h => let ⟨a, vs, ds, h1, h2, h3, h4, h5, h6⟩ := s.ow i d h; ⟨a, vs, ds, h1, h2, e.hh _ _ h3, dpAll_mono e.gg h4, e.fr _ _ h3 h5, h6⟩, s.sep⟩
theorem StOk.getS {G0 H0 G H : Hp} {ρ : Env'} {σ : St} (s : StOk K G0 H0 ρ σ G H) {i : Nat} {d : D} (h : Ev.getS ρ i = some d) : ∃ v, σ[i]? = some (some v) ∧ Rp K G v d := by
  unfold Ev.getS at h
  split at h
  · cases h
    exact s.sh _ _ (by assumption)
  · cases h
theorem StOk.getB {G0 H0 G H : Hp} {ρ : Env'} {σ : St} (s : StOk K G0 H0 ρ σ G H) {i : Nat} {d : D} (h : Ev.getB ρ i = some d) : ∃ v, σ[i]? = some (some v) ∧ RB K G H v d := by
  unfold Ev.getB at h
  split at h
  · rename_i b d' e
    cases h
    cases b with
    | false =>
      obtain ⟨v, h1, h2⟩ := s.sh _ _ e
      exact ⟨v, h1, .sh h2⟩
    | true =>
      obtain ⟨a, vs, ds, h1, h2, h3, h4, _, _⟩ := s.ow _ _ e
      subst h1
      exact ⟨_, h2, .ow h3 h4⟩
  · cases h
theorem StOk.own {G0 H0 G H : Hp} {ρ : Env'} {σ : St} (s : StOk K G0 H0 ρ σ G H) {i : Nat} {ds : List D} (h : ownL ρ i = some ds) : ρ[i]? = some (some (true, .list ds)) ∧ ∃ a vs, σ[i]? = some (some (.ref a)) ∧ H a = some (.lst vs) ∧ RpAll K G vs ds ∧ G a = none ∧ H0 a = none := by
  unfold ownL at h
  split at h
  · rename_i xs e
    cases h
    obtain ⟨a, vs, ds', h1, h2, h3, h4, h5, h6⟩ := s.ow _ _ e
    cases h1
    exact ⟨e, a, vs, h2, h3, h4, h5, h6⟩
  · cases h

theorem get_set {α : Type} {l : List α} {i j : Nat} {x y : α} (h : (l.set i x)[j]? = some y) : (i = j ∧ y = x) ∨ (i ≠ j ∧ l[j]? = some y) := by
  by_cases e : i = j
  · subst e
    left
    by_cases hl : i < l.length
    · rw [List.getElem?_set_self hl] at h
      exact ⟨rfl, (Option.some.inj h).symm⟩
    · rw [List.getElem?_eq_none (by rw [List.length_set]; omega)] at h
      cases h
  · rw [List.getElem?_set_ne e] at h
    exact .inr ⟨e, h⟩
theorem get_set_in {α : Type} {l : List α} {i : Nat} {x y : α} (h : (l.set i x)[i]? = some y) : i < l.length := by
  by_cases hl : i < l.length
  · exact hl
  · rw [List.getElem?_eq_none (by rw [List.length_set]; omega)] at h
    cases h

/-- a slot is stored: what all may read -/
theorem StOk.setS {G0 H0 G H : Hp} {ρ : Env'} {σ : St} (s : StOk K G0 H0 ρ σ G H) (i : Nat) {v : V} {d : D} (h : Rp K G v d) : StOk K G0 H0 (ρ.set i (some (false, d))) (σ.set i (some v)) G H := by
  refine ⟨s.ext, by rw [List.length_set, List.length_set, s.len], fun j e q => ?_, fun j e q => ?_, fun j k e f a hne q1 q2 r1 r2 => ?_⟩
  · rcases get_set q with ⟨rfl, q2⟩ | ⟨hne, q2⟩
    · cases q2
      have hl := get_set_in q
      exact ⟨v, List.getElem?_set_self (by rw [s.len]; exact hl), h⟩
    · obtain ⟨w, h1, h2⟩ := s.sh j e q2
      exact ⟨w, by rw [List.getElem?_set_ne hne]; exact h1, h2⟩
  · rcases get_set q with ⟨rfl, q2⟩ | ⟨hne, q2⟩
    · cases q2
    · obtain ⟨a, vs, ds, h1, h2, h3⟩ := s.ow j e q2
      exact ⟨a, vs, ds, h1, by rw [List.getElem?_set_ne hne]; exact h2, h3⟩
  · rcases get_set q1 with ⟨rfl, z⟩ | ⟨n1, q1⟩
    · cases z
    · rcases get_set q2 with ⟨rfl, z⟩ | ⟨n2, q2⟩
      · cases z
      · rw [List.getElem?_set_ne n1] at r1
        rw [List.getElem?_set_ne n2] at r2
        exact s.sep j k e f a hne q1 q2 r1 r2
/-- a slot is forgotten -/
theorem StOk.wipe {G0 H0 G H : Hp} {ρ : Env'} {σ : St} (s : StOk K G0 H0 ρ σ G H) (i : Nat) (u : Option V) : StOk K G0 H0 (ρ.set i none) (σ.set i u) G H := by
  refine ⟨s.ext, by rw [List.length_set, List.length_set, s.len], fun j e q => ?_, fun j e q => ?_, fun j k e f a hne q1 q2 r1 r2 => ?_⟩
  · rcases get_set q with ⟨rfl, q2⟩ | ⟨hne, q2⟩
    · cases q2
    · obtain ⟨w, h1, h2⟩ := s.sh j e q2
      exact ⟨w, by rw [List.getElem?_set_ne hne]; exact h1, h2⟩
  · rcases get_set q with ⟨rfl, q2⟩ | ⟨hne, q2⟩
    · cases q2
    · obtain ⟨a, vs, ds, h1, h2, h3⟩ := s.ow j e q2
      exact ⟨a, vs, ds, h1, by rw [List.getElem?_set_ne hne]; exact h2, h3⟩
  · rcases get_set q1 with ⟨rfl, z⟩ | ⟨n1, q1⟩
    · cases z
    · rcases get_set q2 with ⟨rfl, z⟩ | ⟨n2, q2⟩
      · cases z
      · rw [List.getElem?_set_ne n1] at r1
        rw [List.getElem?_set_ne n2] at r2
        exact s.sep j k e f a hne q1 q2 r1 r2
/-- a slot is stored: a list of this frame, new against what stood at H1 (where all other lists of this frame stood) -/
theorem StOk.setO {G0 H0 G H H1 G1 : Hp} {ρ : Env'} {σ : St} (s : StOk K G0 H0 ρ σ G1 H1) (e : Ext G1 H1 G H) (i : Nat) {a : Addr} {vs : List V} {ds : List D} (hH : H a = some (.lst vs)) (hd : RpAll K G vs ds) (hG : G a = none) (hn : H1 a = none) :
    StOk K G0 H0 (ρ.set i (some (true, .list ds))) (σ.set i (some (.ref a))) G H := by
  have s2 := s.mono e
  have n0 : H0 a = none := s.ext.hh.free hn
  have apart : ∀ (j : Nat) (f : D) (b : Addr), ρ[j]? = some (some (true, f)) → σ[j]? = some (some (.ref b)) → b ≠ a := fun j f b q r z => by
    obtain ⟨c, _, _, _, h2, h3, _⟩ := s.ow j f q
    rw [r] at h2
    cases h2
    rw [z, hn] at h3
    cases h3
  refine ⟨s2.ext, by rw [List.length_set, List.length_set, s.len], fun j f q => ?_, fun j f q => ?_, fun j k f g b hne q1 q2 r1 r2 => ?_⟩
  · rcases get_set q with ⟨rfl, q2⟩ | ⟨hne, q2⟩
    · cases q2
    · obtain ⟨w, h1, h2⟩ := s2.sh j f q2
      exact ⟨w, by rw [List.getElem?_set_ne hne]; exact h1, h2⟩
  · rcases get_set q with ⟨rfl, q2⟩ | ⟨hne, q2⟩
    · cases q2
      have hl := get_set_in q
      exact ⟨a, vs, ds, rfl, List.getElem?_set_self (by rw [s.len]; exact hl), hH, hd, hG, n0⟩
    · obtain ⟨b, ws, es, h1, h2, h3⟩ := s2.ow j f q2
      exact ⟨b, ws, es, h1, by rw [List.getElem?_set_ne hne]; exact h2, h3⟩
  · rcases get_set q1 with ⟨rfl, z⟩ | ⟨n1, q1⟩
    · rcases get_set q2 with ⟨rfl, _⟩ | ⟨n2, q2⟩
      · exact hne rfl
      · rw [List.getElem?_set_ne n2] at r2
        rw [List.getElem?_set_self (get_set_in r1)] at r1
        cases r1
        exact apart k g a q2 r2 rfl
    · rcases get_set q2 with ⟨rfl, _⟩ | ⟨n2, q2⟩
      · rw [List.getElem?_set_ne n1] at r1
        rw [List.getElem?_set_self (get_set_in r2)] at r2
        cases r2
        exact apart j f a q1 r1 rfl
      · rw [List.getElem?_set_ne n1] at r1
        rw [List.getElem?_set_ne n2] at r2
        exact s.sep j k f g b hne q1 q2 r1 r2
/-- a list of this frame is changed -/
theorem StOk.chg {G0 H0 G H : Hp} {ρ : Env'} {σ : St} (s : StOk K G0 H0 ρ σ G H) {i : Nat} {a : Addr} {ds es : List D} {ws : List V} (hρ : ρ[i]? = some (some (true, .list ds))) (hσ : σ[i]? = some (some (.ref a))) (hG : G a = none) (h0 : H0 a = none) (hd : RpAll K G ws es) :
    StOk K G0 H0 (ρ.set i (some (true, .list es))) σ G (upd H a (.lst ws)) := by
  have sg : Same G (upd H a (.lst ws)) := fun b o e => by
    rw [upd_ne (ne_of_none e hG)]
    exact s.ext.gh _ _ e
  have sh : Same H0 (upd H a (.lst ws)) := fun b o e => by
    rw [upd_ne (ne_of_none e h0)]
    exact s.ext.hh _ _ e
  refine ⟨⟨s.ext.gg, sg, sh, s.ext.fr⟩, by rw [List.length_set, s.len], fun j f q => ?_, fun j f q => ?_, fun j k f g b hne q1 q2 r1 r2 => ?_⟩
  · rcases get_set q with ⟨rfl, q2⟩ | ⟨hne, q2⟩
    · cases q2
    · exact s.sh j f q2
  · rcases get_set q with ⟨rfl, q2⟩ | ⟨hne, q2⟩
    · cases q2
      exact ⟨a, ws, es, rfl, hσ, upd_same, hd, hG, h0⟩
    · obtain ⟨b, us, fs, h1, h2, h3, h4⟩ := s.ow j f q2
      refine ⟨b, us, fs, h1, h2, ?_, h4⟩
      rw [upd_ne (fun z => ?_)]
      · exact h3
      · subst z
        exact s.sep i j _ _ _ hne hρ q2 hσ h2
  · rcases get_set q1 with ⟨rfl, z⟩ | ⟨n1, q1⟩
    · rcases get_set q2 with ⟨rfl, _⟩ | ⟨n2, q2⟩
      · exact hne rfl
      · exact s.sep _ _ _ _ _ hne hρ q2 r1 r2
    · rcases get_set q2 with ⟨rfl, _⟩ | ⟨n2, q2⟩
      · exact s.sep _ _ _ _ _ hne q1 hρ r1 r2
      · exact s.sep _ _ _ _ _ hne q1 q2 r1 r2
/-- a list of this frame is for all to read from here on -/
theorem StOk.frz {G0 H0 G H : Hp} {ρ : Env'} {σ : St} (s : StOk K G0 H0 ρ σ G H) {i : Nat} {ds : List D} (h : ownL ρ i = some ds) : ∃ G', Ext G0 H0 G' H ∧ Same G G' ∧ StOk K G0 H0 (ρ.set i (some (false, .list ds))) σ G' H := by
  obtain ⟨hρ, a, vs, hσ, hH, hd, hG, h0⟩ := s.own h
  have sg : Same G (upd G a (.lst vs)) := same_upd hG
  have sh : Same (upd G a (.lst vs)) H := fun b o e => by
    by_cases hb : b = a
    · subst hb
      rw [upd_same] at e
      rw [hH]
      exact e
    · rw [upd_ne hb] at e
      exact s.ext.gh _ _ e
  have ex : Ext G0 H0 (upd G a (.lst vs)) H := ⟨s.ext.gg.trans sg, sh, s.ext.hh, fun b o e n => by
    rw [upd_ne (ne_of_none e h0)]
    exact s.ext.fr b o e n⟩
  refine ⟨upd G a (.lst vs), ex, sg, ex, by rw [List.length_set, s.len], fun j f q => ?_, fun j f q => ?_, fun j k f g b hne q1 q2 r1 r2 => ?_⟩
  · rcases get_set q with ⟨rfl, q2⟩ | ⟨hne, q2⟩
    · cases q2
      exact ⟨_, hσ, .lst (.inl upd_same) (dpAll_mono sg hd)⟩
    · obtain ⟨v, h1, h2⟩ := s.sh j f q2
      exact ⟨v, h1, dp_mono sg h2⟩
  · rcases get_set q with ⟨rfl, q2⟩ | ⟨hne, q2⟩
    · cases q2
    · obtain ⟨b, us, fs, h1, h2, h3, h4, h5, h6⟩ := s.ow j f q2
      refine ⟨b, us, fs, h1, h2, h3, dpAll_mono sg h4, ?_, h6⟩
      rw [upd_ne (fun z => ?_)]
      · exact h5
      · subst z
        exact s.sep i j _ _ _ hne hρ q2 hσ h2
  · rcases get_set q1 with ⟨rfl, z⟩ | ⟨n1, q1⟩
    · cases z
    · rcases get_set q2 with ⟨rfl, z⟩ | ⟨n2, q2⟩
      · cases z
      · exact s.sep _ _ _ _ _ hne q1 q2 r1 r2
end
end Ev
end
section
/-! Ev3: each operation of the machine does on what lies what the language says on data. -/
namespace Ev
open PySem PySem.Spec L2

section
variable {X : Cx}
theorem OpR.or {f : Value → Value → Sem Value} {r r' : R2} (h : OpR X f r) (h' : OpR X f r') : OpR X f (fun x y H Q => r x y H Q ∨ r' x y H Q) := by
  intro pins s σ H x y v u Q I rx ry q
  rcases q with q | q
  · exact h pins s σ H x y v u Q I rx ry q
  · exact h' pins s σ H x y v u Q I rx ry q
theorem OpR.imp {f : Value → Value → Sem Value} {r r' : R2} (h : OpR X f r) (w : ∀ x y H Q, r' x y H Q → r x y H Q) : OpR X f r' :=
  fun pins s σ H x y v u Q I rx ry q => h pins s σ H x y v u Q I rx ry (w _ _ _ _ q)
theorem CallR.imp {f : Value} {r r' : List V → Hp → VK → Prop} (h : CallR X f r) (w : ∀ x H Q, r' x H Q → r x H Q) : CallR X f r' :=
  fun pins s σ H x u Q I rx q => h pins s σ H x u Q I rx (w _ _ _ q)
theorem MtR.imp {f : String} {r r' : V → List V → Hp → VK → Prop} (h : MtR X f r) (w : ∀ x y H Q, r' x y H Q → r x y H Q) : MtR X f r' :=
  fun pins s σ H x xs v us Q I rx ry q => h pins s σ H x xs v us Q I rx ry (w _ _ _ _ q)
end

/-- an operation's value by data: what follows is wanted of every place and every later heap -/
def After (K : PySem.W.Frag) (G H : Hp) (d : D) (Q : VK) : Prop := ∀ G' H' v, Ext G H G' H' → Rp K G' v d → Q v H'
theorem After.now {K : PySem.W.Frag} {G H : Hp} {d : D} {Q : VK} (a : After K G H d Q) (s : Same G H) {v : V} (h : Rp K G v d) : Q v H := a G H v (.refl s) h
theorem After.lst {K : PySem.W.Frag} {G H : Hp} {ds : List D} {Q : VK} (a : After K G H (.list ds) Q) (s : Same G H) {vs : List V} (h : RpAll K G vs ds) {p : Addr} (hp : H p = none) : Q (.ref p) (upd H p (.lst vs)) :=
  a _ _ _ (.add s hp) (.lst (.inl upd_same) (dpAll_mono (same_upd (s.free hp)) h))
theorem After.tup {K : PySem.W.Frag} {G H : Hp} {ds : List D} {Q : VK} (a : After K G H (.tuple ds) Q) (s : Same G H) {vs : List V} (h : RpAll K G vs ds) {p : Addr} (hp : H p = none) : Q (.ref p) (upd H p (.tup vs)) :=
  a _ _ _ (.add s hp) (.tup (.inl (.inl upd_same)) (dpAll_mono (same_upd (s.free hp)) h))
def Sp2 (K : PySem.W.Frag) (r : R2) (f : D → D → Option D) : Prop :=
  ∀ (G H : Hp) (x y : V) (a b d : D) (Q : VK), Same G H → RB K G H x a → RB K G H y b → f a b = some d → After K G H d Q → r x y H Q
/-- the machine's operation f does g on data -/
structure Op (X : Cx) (f : Value → Value → Sem Value) (g : D → D → Option D) : Prop where
  ex : ∃ r : R2, OpR X f r ∧ Sp2 X.K r g
theorem Op.mk' {X : Cx} {f : Value → Value → Sem Value} {g : D → D → Option D} {r : R2} (h : OpR X f r) (s : Sp2 X.K r g) : Op X f g := ⟨r, h, s⟩

section
variable {X : Cx} {K : PySem.W.Frag}
theorem same_dat {K : PySem.W.Frag} {G H : Hp} {v : V} {d : D} (s : Same G H) (h : RB K G H v d) (z : SeqAt.shaped d = true) : Dp K H v d := rp_dp (h.now s) (SeqAt.canLay_of_shaped z)

/-! ### ints -/
theorem intD_some {f : Int → Int → Option Int} {a b d : D} (h : intD f a b = some d) : ∃ i j k, a = .int i ∧ b = .int j ∧ f i j = some k ∧ d = .int k := by
  cases a <;> cases b <;> first
    | (simp [intD] at h; done)
    | (simp [intD] at h
       obtain ⟨k, h1, h2⟩ := h
       exact ⟨_, _, k, rfl, rfl, h1, h2.symm⟩)
theorem sp_int {C : Int → Int → Prop} {g : Int → Int → Int} {f : Int → Int → Option Int} (hf : ∀ i j k, f i j = some k → C i j ∧ k = g i j) : Sp2 K (rI C fun i j => .int (g i j)) (intD f) := by
  intro G H x y a b d Q s ha hb e q
  obtain ⟨i, j, k, rfl, rfl, h1, rfl⟩ := intD_some e
  obtain ⟨c, rfl⟩ := hf i j k h1
  exact ⟨i, j, ha.int, hb.int, c, q.now s (.int _)⟩
theorem o_sub : Op X (binaryOp .Sub) (binD .sub) := .mk' op_sub <| by
  intro G H x y a b d Q s ha hb e q
  obtain ⟨i, j, k, rfl, rfl, h1, rfl⟩ := intD_some (show intD _ a b = some d from e)
  cases h1
  exact ⟨i, j, ha.int, hb.int, q.now s (.int _)⟩
theorem mulI_c {i j k : Int} (h : mulI i j = some k) : CMul i j ∧ k = i * j := by
  unfold mulI at h
  split at h
  · exact ⟨by assumption, (Option.some.inj h).symm⟩
  · cases h
theorem divI_c {i j k : Int} (h : divI i j = some k) : CDivN i j ∧ k = i.fdiv j := by
  unfold divI at h
  split at h
  · exact ⟨by assumption, (Option.some.inj h).symm⟩
  · cases h
theorem modI_c {i j k : Int} (h : modI i j = some k) : j ≠ 0 ∧ k = i.fmod j := by
  unfold modI at h
  split at h
  · exact ⟨by assumption, (Option.some.inj h).symm⟩
  · cases h
theorem powI_c {i j k : Int} (h : powI i j = some k) : CPow i j ∧ k = i ^ j.toNat := by
  unfold powI at h
  split at h
  · exact ⟨by assumption, (Option.some.inj h).symm⟩
  · cases h
theorem o_mul : Op X (binaryOp .Mult) (binD .mul) := .mk' op_mul (sp_int (f := mulI) fun _ _ _ => mulI_c)
theorem o_div : Op X (binaryOp .FloorDiv) (binD .fdiv) := .mk' op_fdivN (sp_int (f := divI) fun _ _ _ => divI_c)
theorem o_mod : Op X (binaryOp .Mod) (binD .mod) := .mk' op_modN (sp_int (f := modI) fun _ _ _ => modI_c)
theorem o_pow : Op X (binaryOp .Pow) (binD .pow) := .mk' op_pow (sp_int (f := powI) fun _ _ _ => powI_c)

/-! ### + -/
/-- two lists, read -/
def rCatR : R2 := fun x y H Q => ∃ l b xs zs, x = .ref l ∧ y = .ref b ∧ Rd H l (.lst xs) ∧ Rd H b (.lst zs) ∧ xs.length + zs.length ≤ sizeLine ∧ ∀ p, H p = none → Q (.ref p) (upd H p (.lst (xs ++ zs)))
theorem o_catR : OpR X (binaryOp .Add) rCatR := by
  intro pins s σ H x y v u Q I rx ry h
  obtain ⟨l, b, xs, zs, rfl, rfl, hx, hy, hz, q⟩ := h
  cases rx
  cases ry
  obtain ⟨_, us, n, ru, eu⟩ := hx.ok I.hok
  obtain ⟨_, ws, m, rw_, ew⟩ := hy.ok I.hok
  have l1 := ru.length
  have l2 := rw_.length
  refine PySem.P.add_list eu ew ?_ (by rw [List.size_toArray, List.size_toArray]; omega)
  rw [show us.toArray ++ ws.toArray = (us ++ ws).toArray by simp]
  exact ⟨.ref _, _, I.lnew (t' := s.toks) (ru.append rw_) (by rw [List.length_append]; exact hz), rfl, q _ I.fresh⟩
theorem addD_some {a b d : D} (h : addD a b = some d) :
    (∃ i j, a = .int i ∧ b = .int j ∧ d = .int (i + j)) ∨ (∃ x y, a = .str x ∧ b = .str y ∧ x.length + y.length ≤ sizeLine ∧ d = .str (x ++ y)) ∨
    (∃ xs ys, a = .list xs ∧ b = .list ys ∧ xs.length + ys.length ≤ sizeLine ∧ d = .list (xs ++ ys)) ∨ (∃ xs ys, a = .tuple xs ∧ b = .tuple ys ∧ xs.length + ys.length ≤ sizeLine ∧ d = .tuple (xs ++ ys)) := by
  cases a <;> cases b <;> simp only [addD] at h <;> first
    | (cases h; done)
    | (cases h; exact .inl ⟨_, _, rfl, rfl, rfl⟩)
    | (split at h
       · rename_i hl
         cases h
         first
           | exact .inr (.inl ⟨_, _, rfl, rfl, hl, rfl⟩)
           | exact .inr (.inr (.inl ⟨_, _, rfl, rfl, hl, rfl⟩))
           | exact .inr (.inr (.inr ⟨_, _, rfl, rfl, hl, rfl⟩))
       · cases h)
abbrev rAddR (K : PySem.W.Frag) : R2 := fun x y H Q => rI0 (fun i j => .int (i + j)) x y H Q ∨ ((fun x y (H : Hp) (Q : VK) => ∃ i j, x = V.str i ∧ y = V.str j ∧ i.length + j.length ≤ sizeLine ∧ Q (.str (i ++ j)) H) x y H Q ∨ (rCatR x y H Q ∨ rCatA K x y H Q))
theorem sp_add : Sp2 K (rAddR K) addD := by
  intro G H x y a b d Q s ha hb e q
  rcases addD_some e with ⟨i, j, rfl, rfl, rfl⟩ | ⟨i, j, rfl, rfl, hl, rfl⟩ | ⟨xs, ys, rfl, rfl, hl, rfl⟩ | ⟨xs, ys, rfl, rfl, hl, rfl⟩
  · exact .inl ⟨i, j, ha.int, hb.int, q.now s (.int _)⟩
  · exact .inr (.inl ⟨i, j, ha.str, hb.str, hl, q.now s (.str _)⟩)
  · obtain ⟨p, vs, rfl, h1, h2⟩ := ha.list s
    obtain ⟨p', ws, rfl, g1, g2⟩ := hb.list s
    exact .inr (.inr (.inl ⟨p, p', vs, ws, rfl, rfl, h1, g1, by rw [dpAll_len h2, dpAll_len g2]; exact hl, fun c hc => q.lst s (dpAll_append h2 g2) hc⟩))
  · obtain ⟨p, vs, rfl, h1, h2⟩ := ha.tuple s
    obtain ⟨p', ws, rfl, g1, g2⟩ := hb.tuple s
    refine .inr (.inr (.inr ⟨p, p', vs, ws, rfl, rfl, h1, g1, by rw [dpAll_len h2, dpAll_len g2]; exact hl, fun z => ?_, fun z1 z2 => ?_, fun _ _ c hc => q.tup s (dpAll_append h2 g2) hc⟩))
    · subst z
      cases h2
      exact q.now s (by cases hb with | sh h => exact h)
    · subst z2
      cases g2
      rw [List.append_nil] at q
      exact q.now s (by cases ha with | sh h => exact h)
theorem o_add : Op X (binaryOp .Add) (binD .add) := .mk' (OpR.or op_add (OpR.or op_add_str (OpR.or o_catR op_catA))) sp_add

/-! ### comparisons -/
theorem eqD_some {a b : D} {c : Bool} (h : eqD a b = some c) : SeqAt.shaped a = true ∧ SeqAt.shaped b = true ∧ c = PyData.eqv a b := by
  unfold eqD at h
  split at h
  · rename_i z
    exact ⟨z.1, z.2, (Option.some.inj h).symm⟩
  · cases h
theorem o_eq (hu : X.A.units + 64 < cLine) : Op X (compareOp .Eq) (cmpD .eq) := .mk' (op_eqD hu) <| by
  intro G H x y a b d Q s ha hb e q
  obtain ⟨c, e1, rfl⟩ := Option.map_eq_some_iff.mp (show (eqD a b).map _ = some d from e)
  obtain ⟨h1, h2, rfl⟩ := eqD_some e1
  exact ⟨a, b, same_dat s ha h1, same_dat s hb h2, h1, h2, q.now s (.bl _)⟩
theorem o_ne (hu : X.A.units + 64 < cLine) : Op X (compareOp .NotEq) (cmpD .ne) := .mk' (op_neD hu) <| by
  intro G H x y a b d Q s ha hb e q
  obtain ⟨c, e1, rfl⟩ := Option.map_eq_some_iff.mp (show (eqD a b).map (fun c => PyData.bool (!c)) = some d from e)
  obtain ⟨h1, h2, rfl⟩ := eqD_some e1
  exact ⟨a, b, same_dat s ha h1, same_dat s hb h2, h1, h2, q.now s (.bl _)⟩
theorem isn_v {G H : Hp} {v : V} {d : D} (h : RB K G H v d) : decide (v = .non) = isnD d := by
  cases h with
  | sh h => cases h <;> simp [isnD]
  | ow _ _ => simp [isnD]
theorem isnD_eq {d : D} (h : isnD d = true) : d = .none := by
  cases d <;> first | rfl | (simp [isnD] at h)
theorem o_is : Op X (compareOp .Is) (cmpD .isn) := .mk' (OpR.or op_isN op_isBl) <| by
  intro G H x y a b d Q s ha hb e q
  have e : isD a b = some d := e
  unfold isD at e
  split at e
  · cases e
    exact .inr ⟨_, _, ha.bool, hb.bool, q.now s (.bl _)⟩
  · split at e
    · rename_i z
      cases e
      have := isnD_eq z
      subst this
      exact .inl ⟨hb.non, by rw [isn_v ha]; exact q.now s (.bl _)⟩
    · cases e
theorem o_isnot : Op X (compareOp .IsNot) (cmpD .notn) := .mk' op_notN <| by
  intro G H x y a b d Q s ha hb e q
  have e : isnotD a b = some d := e
  unfold isnotD at e
  split at e
  · rename_i z
    cases e
    have := isnD_eq z
    subst this
    exact ⟨hb.non, by rw [isn_v ha]; exact q.now s (.bl _)⟩
  · cases e
theorem ord_some {o : CO} {a b d : D} (h : ordD o a b = some d) : (∃ i j, a = .int i ∧ b = .int j) ∨ (∃ x y, a = .str x ∧ b = .str y) := by
  cases a <;> cases b <;> first
    | (simp [ordD] at h; done)
    | exact .inl ⟨_, _, rfl, rfl⟩
    | exact .inr ⟨_, _, rfl, rfl⟩
theorem o_lt : Op X (compareOp .Lt) (cmpD .lt) := .mk' (OpR.or op_lt op_lt_str) <| by
  intro G H x y a b d Q s ha hb e q
  rcases ord_some (show ordD .lt a b = some d by cases a <;> exact e) with ⟨i, j, rfl, rfl⟩ | ⟨i, j, rfl, rfl⟩
  · cases e
    exact .inl ⟨i, j, ha.int, hb.int, q.now s (.bl _)⟩
  · cases e
    exact .inr ⟨i, j, ha.str, hb.str, q.now s (.bl _)⟩
theorem o_le : Op X (compareOp .LtE) (cmpD .le) := .mk' (OpR.or op_le op_le_str) <| by
  intro G H x y a b d Q s ha hb e q
  rcases ord_some (show ordD .le a b = some d by cases a <;> exact e) with ⟨i, j, rfl, rfl⟩ | ⟨i, j, rfl, rfl⟩
  · cases e
    exact .inl ⟨i, j, ha.int, hb.int, q.now s (.bl _)⟩
  · cases e
    exact .inr ⟨i, j, ha.str, hb.str, q.now s (.bl _)⟩
theorem o_gt : Op X (compareOp .Gt) (cmpD .gt) := .mk' op_gt <| by
  intro G H x y a b d Q s ha hb e q
  rcases ord_some (show ordD .gt a b = some d by cases a <;> exact e) with ⟨i, j, rfl, rfl⟩ | ⟨i, j, rfl, rfl⟩
  · cases e
    exact ⟨i, j, ha.int, hb.int, q.now s (.bl _)⟩
  · cases e
theorem o_ge : Op X (compareOp .GtE) (cmpD .ge) := .mk' op_ge <| by
  intro G H x y a b d Q s ha hb e q
  rcases ord_some (show ordD .ge a b = some d by cases a <;> exact e) with ⟨i, j, rfl, rfl⟩ | ⟨i, j, rfl, rfl⟩
  · cases e
    exact ⟨i, j, ha.int, hb.int, q.now s (.bl _)⟩
  · cases e
end
end Ev
end
section
/-! Ev4: in, subscripts, slices, built-in functions, methods of texts. -/
namespace Ev
open PySem PySem.Spec L2
section
variable {X : Cx} {K : PySem.W.Frag}
theorem scal_flat {G H : Hp} {v : V} {d : D} (h : Rp K H v d) (s : scalD d = true) : flatV v = true := by
  cases h <;> first | rfl | (simp [scalD] at s)
theorem scal_eqv {H : Hp} {v w : V} {d e : D} (h : Rp K H v d) (g : Rp K H w e) (s : scalD d = true) (t : scalD e = true) : eqV v w = PyData.eqv d e := by
  cases h <;> first
    | (simp [scalD] at s; done)
    | (cases g <;> first | rfl | (simp [scalD] at t; done) | (simp [eqV, PyData.eqv]))
theorem scals_flat {H : Hp} : ∀ {vs : List V} {ds : List D}, RpAll K H vs ds → ds.all scalD = true → vs.all flatV = true
  | _, _, .nil, _ => rfl
  | _, _, .cons h t, s => by
    simp only [List.all_cons, Bool.and_eq_true] at s ⊢
    exact ⟨scal_flat (G := H) h s.1, scals_flat t s.2⟩
theorem scals_in {H : Hp} {x : V} {a : D} (hx : Rp K H x a) (sx : scalD a = true) : ∀ {vs : List V} {ds : List D}, RpAll K H vs ds → ds.all scalD = true → inV x vs = ds.any (PyData.eqv · a)
  | _, _, .nil, _ => rfl
  | _, _, .cons h t, s => by
    simp only [List.all_cons, Bool.and_eq_true] at s
    unfold inV
    rw [List.any_cons, List.any_cons, scal_eqv h hx s.1 sx]
    exact congrArg _ (scals_in hx sx t s.2)
theorem inD_some {neg : Bool} {a c d : D} (h : inD neg a c = some d) : ∃ xs, (c = .list xs ∨ c = .tuple xs) ∧ scalD a = true ∧ xs.all scalD = true ∧ d = inL neg a xs := by
  cases c <;> simp only [inD] at h <;> first
    | (cases h; done)
    | (split at h
       · rename_i z
         cases h
         first
           | exact ⟨_, .inl rfl, z.1, z.2, rfl⟩
           | exact ⟨_, .inr rfl, z.1, z.2, rfl⟩
       · cases h)
theorem sp_in {neg : Bool} : Sp2 K (rIn K neg) (inD neg) := by
  intro G H x y a b d Q s ha hb e q
  obtain ⟨xs, hc, h1, h2, rfl⟩ := inD_some e
  have z : ∃ p vs, y = .ref p ∧ (SqL K H p vs ∨ SqT K H p vs) ∧ RpAll K H vs xs := by
    rcases hc with rfl | rfl
    · obtain ⟨p, vs, rfl, g1, g2⟩ := hb.list s
      exact ⟨p, vs, rfl, .inl (.inl g1), dpAll_mono s g2⟩
    · obtain ⟨p, vs, rfl, g1, g2⟩ := hb.tuple s
      exact ⟨p, vs, rfl, .inr g1, dpAll_mono s g2⟩
  obtain ⟨p, vs, rfl, hq, hr⟩ := z
  refine ⟨p, vs, rfl, hq, scal_flat (G := H) (ha.now s) h1, scals_flat hr h2, ?_⟩
  rw [scals_in (ha.now s) h1 hr h2]
  exact q.now s (.bl _)
theorem o_in : Op X (compareOp .In) (cmpD .inn) := .mk' (OpR.or op_in_seq op_in_str) <| by
  intro G H x y a b d Q s ha hb e q
  show (rIn X.K false x y H Q) ∨ _
  have e' : inD2 a b = some d := e
  unfold inD2 at e'
  split at e'
  · cases e'
    exact .inr ⟨_, _, ha.str, hb.str, q.now s (.bl _)⟩
  · exact .inl (sp_in G H x y a b d Q s ha hb e' q)
theorem o_nin : Op X (compareOp .NotIn) (cmpD .nin) := .mk' op_notIn_seq sp_in

/-! ### subscripts -/
theorem atI_dp {G : Hp} {vs : List V} {ds : List D} {i : Int} {d : D} (h : RpAll K G vs ds) (e : atI ds i = some d) : ∃ v, atI vs i = some v ∧ Rp K G v d := by
  unfold atI at e ⊢
  rw [dpAll_len h]
  obtain ⟨j, e1, e2⟩ := Option.bind_eq_some_iff.mp e
  obtain ⟨v, g1, g2⟩ := dpAll_get h e2
  exact ⟨v, by rw [e1]; exact g1, g2⟩
theorem sp_ix : Sp2 K (rIx K) ixD := by
  intro G H x y a b d Q s ha hb e q
  unfold ixD at e
  split at e <;> first
    | (cases e; done)
    | skip
  · obtain ⟨p, vs, rfl, g1, g2⟩ := ha.kls s
    obtain ⟨v, e1, e2⟩ := atI_dp g2 e
    exact .inl ⟨p, vs, _, v, rfl, hb.int, g1, e1, q.now s e2⟩
  · obtain ⟨p, vs, rfl, g1, g2⟩ := ha.list s
    obtain ⟨v, e1, e2⟩ := atI_dp g2 e
    exact .inl ⟨p, vs, _, v, rfl, hb.int, .inl g1, e1, q.now s e2⟩
  · obtain ⟨p, vs, rfl, g1, g2⟩ := ha.tuple s
    obtain ⟨v, e1, e2⟩ := atI_dp g2 e
    exact .inr (.inl ⟨p, vs, _, v, rfl, hb.int, g1, e1, q.now s e2⟩)
  · rename_i z i
    split at e
    · rename_i hz
      obtain ⟨c, e1, e2⟩ := Option.map_eq_some_iff.mp e
      cases e2
      exact .inr (.inr ⟨z, i, c, ha.str, hb.int, hz, e1, q.now s (.str _)⟩)
    · cases e

/-! ### slices -/
abbrev rSlR (K : PySem.W.Frag) : V → Option Int → Option Int → Hp → VK → Prop := fun x lo hi H Q => rSlL K x lo hi H Q ∨ (rSlA K x lo hi H Q ∨ rSlS x lo hi H Q)
theorem sl_all : SlR X (rSlR X.K) := SlR.or sl_list (SlR.or sl_tupA sl_str)
theorem cut_dp {G : Hp} {vs : List V} {ds : List D} {lo hi : Option Int} (h : RpAll K G vs ds) : RpAll K G (cutV vs lo hi) (cutD ds lo hi) := by
  unfold cutV cutD
  rw [dpAll_len h]
  exact dpAll_take _ (dpAll_drop _ h)
theorem sp_sl {G H : Hp} {x : V} {a d : D} {lo hi : Option Int} {Q : VK} (s : Same G H) (ha : RB K G H x a) (e : slD lo hi a = some d) (q : After K G H d Q) : rSlR K x lo hi H Q := by
  cases a <;> simp only [slD] at e <;> first
    | (cases e; done)
    | skip
  · rename_i z
    split at e
    · rename_i hz
      cases e
      exact .inr (.inr ⟨z, ha.str, hz, q.now s (.str _)⟩)
    · cases e
  · cases e
    obtain ⟨p, vs, rfl, g1, g2⟩ := ha.list s
    exact .inl ⟨p, vs, rfl, .inl g1, fun c hc => q.lst s (cut_dp g2) hc⟩
  · cases e
    obtain ⟨p, vs, rfl, g1, g2⟩ := ha.tuple s
    refine .inr (.inl ⟨p, vs, rfl, g1, fun w => ?_, fun _ c hc => q.tup s (cut_dp g2) hc⟩)
    rename_i xs
    have e : cutD xs lo hi = xs := by
      unfold cutD
      rw [← dpAll_len g2, w.1, w.2, List.drop_zero, Nat.sub_zero, dpAll_len g2, List.take_length]
    rw [e] at q
    exact q.now s (by cases ha with | sh h => exact h)

/-! ### built-in functions -/
def SpC (K : PySem.W.Frag) (r : List V → Hp → VK → Prop) (f : List D → Option D) : Prop :=
  ∀ (G H : Hp) (xs : List V) (ds : List D) (d : D) (Q : VK), Same G H → RBs K G H xs ds → f ds = some d → After K G H d Q → r xs H Q
/-- what a built-in name is -/
def biName : Bi → Str
  | .abs => "abs" | .int => "int" | .len => "len" | .max2 => "max" | .min2 => "min" | .str => "str" | .tuple => "tuple" | .list => "list" | .all => "all" | .any => "any"
/-- is it a class? -/
def biTy : Bi → Bool
  | .int | .str | .tuple | .list => true
  | _ => false
def biVal : Bi → Value
  | .abs => .builtin "abs" | .int => .type "int" | .len => .builtin "len" | .max2 => .builtin "max" | .min2 => .builtin "min" | .str => .type "str" | .tuple => .type "tuple" | .list => .type "list" | .all => .builtin "all" | .any => .builtin "any"
theorem rbs1 {G H : Hp} {xs : List V} {d : D} (h : RBs K G H xs [d]) : ∃ x, xs = [x] ∧ RB K G H x d := by
  cases h with
  | cons h t =>
    cases t
    exact ⟨_, rfl, h⟩
theorem rbs2 {G H : Hp} {xs : List V} {d e : D} (h : RBs K G H xs [d, e]) : ∃ x y, xs = [x, y] ∧ RB K G H x d ∧ RB K G H y e := by
  cases h with
  | cons h t =>
    cases t with
    | cons g t =>
      cases t
      exact ⟨_, _, rfl, h, g⟩
theorem bools_dp {H : Hp} : ∀ {vs : List V} {ds : List D} {bs : List Bool}, RpAll K H vs ds → boolsOf ds = some bs → vs = bs.map V.bl
  | _, _, _, .nil, e => by
    cases e
    rfl
  | _, d :: ds, bs, .cons h t, e => by
    cases d <;> simp only [boolsOf] at e <;> first
      | (cases e; done)
      | skip
    obtain ⟨c, e1, rfl⟩ := Option.map_eq_some_iff.mp e
    cases h
    rw [bools_dp t e1]
    rfl
theorem strs_dp {H : Hp} : ∀ {vs : List V} {ds : List D} {bs : List Str}, RpAll K H vs ds → strsOf ds = some bs → vs = bs.map V.str
  | _, _, _, .nil, e => by
    cases e
    rfl
  | _, d :: ds, bs, .cons h t, e => by
    cases d <;> simp only [strsOf] at e <;> first
      | (cases e; done)
      | skip
    obtain ⟨c, e1, rfl⟩ := Option.map_eq_some_iff.mp e
    cases h
    rw [strs_dp t e1]
    rfl
theorem call_bi (hc : X.calm = true) (b : Bi) : ∃ r, CallR X (biVal b) r ∧ SpC X.K r (biD b) := by
  cases b with
  | abs =>
    refine ⟨_, call_abs, fun G H xs ds d Q s h e q => ?_⟩
    unfold biD at e
    split at e <;> first | (cases e; done) | skip
    all_goals (try contradiction)
    cases e
    obtain ⟨x, rfl, g⟩ := rbs1 h
    exact ⟨_, by rw [g.int], q.now s (.int _)⟩
  | int =>
    refine ⟨_, call_int1, fun G H xs ds d Q s h e q => ?_⟩
    unfold biD at e
    split at e <;> first | (cases e; done) | skip
    all_goals (try contradiction)
    · cases e
      obtain ⟨x, rfl, g⟩ := rbs1 h
      exact .inl ⟨_, by rw [g.int], q.now s (.int _)⟩
    · cases e
      obtain ⟨x, rfl, g⟩ := rbs1 h
      exact .inr ⟨_, by rw [g.bool], q.now s (.int _)⟩
  | len =>
    refine ⟨_, CallR.or call_len_seq call_len_str, fun G H xs ds d Q s h e q => ?_⟩
    unfold biD at e
    split at e <;> first | (cases e; done) | skip
    all_goals (try contradiction)
    obtain ⟨x, rfl, g⟩ := rbs1 h
    unfold lenD at e
    split at e
    · cases e
      obtain ⟨p, vs, rfl, g1, g2⟩ := g.kls s
      exact .inl ⟨p, vs, rfl, .inl g1, by rw [dpAll_len g2]; exact q.now s (.int _)⟩
    · cases e
      obtain ⟨p, vs, rfl, g1, g2⟩ := g.list s
      exact .inl ⟨p, vs, rfl, .inl (.inl g1), by rw [dpAll_len g2]; exact q.now s (.int _)⟩
    · cases e
      obtain ⟨p, vs, rfl, g1, g2⟩ := g.tuple s
      exact .inl ⟨p, vs, rfl, .inr g1, by rw [dpAll_len g2]; exact q.now s (.int _)⟩
    · split at e
      · rename_i hz
        cases e
        exact .inr ⟨_, by rw [g.str], hz, q.now s (.int _)⟩
      · cases e
    · cases e
  | max2 =>
    refine ⟨_, call_max2 hc, fun G H xs ds d Q s h e q => ?_⟩
    unfold biD at e
    split at e <;> first | (cases e; done) | skip
    all_goals (try contradiction)
    cases e
    obtain ⟨x, y, rfl, g1, g2⟩ := rbs2 h
    exact ⟨_, _, by rw [g1.int, g2.int], q.now s (.int _)⟩
  | min2 =>
    refine ⟨_, call_min2 hc, fun G H xs ds d Q s h e q => ?_⟩
    unfold biD at e
    split at e <;> first | (cases e; done) | skip
    all_goals (try contradiction)
    cases e
    obtain ⟨x, y, rfl, g1, g2⟩ := rbs2 h
    exact ⟨_, _, by rw [g1.int, g2.int], q.now s (.int _)⟩
  | str =>
    refine ⟨_, CallR.or call_str_int SkE.call_str_str, fun G H xs ds d Q s h e q => ?_⟩
    unfold biD at e
    split at e <;> first | (cases e; done) | skip
    all_goals (try contradiction)
    · split at e
      · rename_i hz
        cases e
        obtain ⟨x, rfl, g⟩ := rbs1 h
        exact .inl ⟨_, by rw [g.int], hz, q.now s (.str _)⟩
      · cases e
    · cases e
      obtain ⟨x, rfl, g⟩ := rbs1 h
      exact .inr ⟨_, by rw [g.str], q.now s (.str _)⟩
  | tuple =>
    refine ⟨_, call_tuple_of, fun G H xs ds d Q s h e q => ?_⟩
    unfold biD at e
    split at e <;> first | (cases e; done) | skip
    all_goals (try contradiction)
    · cases e
      obtain ⟨x, rfl, g⟩ := rbs1 h
      obtain ⟨p, vs, rfl, g1, g2⟩ := g.list s
      exact ⟨p, vs, rfl, .inl ⟨.inl g1, fun c hc => q.tup s g2 hc⟩⟩
    · cases e
      obtain ⟨x, rfl, g⟩ := rbs1 h
      obtain ⟨p, vs, rfl, g1, g2⟩ := g.tuple s
      exact ⟨p, vs, rfl, .inr ⟨g1, q.now s (by cases g with | sh h => exact h)⟩⟩
  | list =>
    refine ⟨_, call_list_of, fun G H xs ds d Q s h e q => ?_⟩
    unfold biD at e
    split at e <;> first | (cases e; done) | skip
    all_goals (try contradiction)
    · cases e
      obtain ⟨x, rfl, g⟩ := rbs1 h
      obtain ⟨p, vs, rfl, g1, g2⟩ := g.list s
      exact ⟨p, vs, rfl, .inl (.inl g1), fun c hc => q.lst s g2 hc⟩
    · cases e
      obtain ⟨x, rfl, g⟩ := rbs1 h
      obtain ⟨p, vs, rfl, g1, g2⟩ := g.tuple s
      exact ⟨p, vs, rfl, .inr g1, fun c hc => q.lst s g2 hc⟩
  | all =>
    refine ⟨_, cr_all hc, fun G H xs ds d Q s h e q => ?_⟩
    unfold biD at e
    split at e <;> first | (cases e; done) | skip
    all_goals (try contradiction)
    obtain ⟨bs, e1, rfl⟩ := Option.map_eq_some_iff.mp e
    obtain ⟨x, rfl, g⟩ := rbs1 h
    obtain ⟨p, vs, rfl, g1, g2⟩ := g.list s
    exact ⟨p, bs, rfl, by rw [← bools_dp g2 e1]; exact .inl g1, q.now s (.bl _)⟩
  | any =>
    refine ⟨_, cr_any hc, fun G H xs ds d Q s h e q => ?_⟩
    unfold biD at e
    split at e <;> first | (cases e; done) | skip
    all_goals (try contradiction)
    obtain ⟨bs, e1, rfl⟩ := Option.map_eq_some_iff.mp e
    obtain ⟨x, rfl, g⟩ := rbs1 h
    obtain ⟨p, vs, rfl, g1, g2⟩ := g.list s
    exact ⟨p, bs, rfl, by rw [← bools_dp g2 e1]; exact .inl g1, q.now s (.bl _)⟩
theorem bi_boot (b : Bi) : bootBuiltins (biName b) = some (biVal b) := by
  cases b <;> decide +kernel

/-! ### isinstance -/
def tyName : Ty → String
  | .int => "int" | .bool => "bool" | .str => "str" | .tuple => "tuple" | .list => "list"
def tyOf : D → Option String
  | .none => some "NoneType"
  | .bool _ => some "bool"
  | .int _ => some "int"
  | .str _ => some "str"
  | .list _ => some "list"
  | .tuple _ => some "tuple"
  | .dict _ => none
theorem isi_kit {d : D} {t : Ty} {b : Bool} (h : isiD d t = some b) : ∃ n, tyOf d = some n ∧ kitB n (tyName t) = some b := by
  cases d <;> cases t <;> simp only [isiD] at h <;> first
    | (cases h; done)
    | (refine ⟨_, rfl, ?_⟩
       rw [← h]
       decide +kernel)
theorem ty_x {G H : Hp} {v : V} {d : D} {n : String} (s : Same G H) (h : RB K G H v d) (e : tyOf d = some n) : TyX K H v (.type n) := by
  have h := h.now s
  cases h with
  | non =>
    cases e
    exact .base .non
  | bl b =>
    cases e
    exact .base (.bl b)
  | int i =>
    cases e
    exact .base (.int i)
  | str x =>
    cases e
    exact .base (.str x)
  | lst g _ =>
    cases e
    rcases g with g | ⟨o, g⟩
    · exact .base (.lst g)
    · exact .base (.frz g)
  | tup g _ =>
    cases e
    rcases g with (g | ⟨o, g⟩) | ⟨o, its, n, g1, g2, _⟩
    · exact .base (.tup g)
    · exact .fTuple g
    · exact .kTuple g1 g2
  | kls _ _ => cases e
end
end Ev
end
section
/-! Ev5: the text and the language's terms side by side (chkE), and: what a term is worth, the text does. -/
namespace Ev
open PySem PySem.Spec L2

/-! ### side by side -/
def kindB (sc : Scope) (x : Str) (k : NameKind) : Bool := decide (sc.names.lookup x = some k)
def visB (sc : Scope) (x : Str) : Bool := kindB sc x .local || (kindB sc x .cell || kindB sc x .free)
def locB (sc : Scope) (x : Str) : Bool := kindB sc x .local || kindB sc x .cell
def glB (sc : Scope) (x : Str) : Bool := kindB sc x .globalImplicit && !(x == ("__debug__" : Str))
def o2B : O2 → Operator → Bool
  | .add, .Add => true | .sub, .Sub => true | .mul, .Mult => true | .fdiv, .FloorDiv => true | .mod, .Mod => true | .pow, .Pow => true
  | _, _ => false
def coB : CO → CmpOp → Bool
  | .lt, .Lt => true | .le, .LtE => true | .gt, .Gt => true | .ge, .GtE => true | .eq, .Eq => true | .ne, .NotEq => true | .isn, .Is => true | .notn, .IsNot => true | .inn, .In => true | .nin, .NotIn => true
  | _, _ => false
def nb : E → Bool
  | .bor _ => false
  | _ => true
/-- may stand as a test -/
def tb : E → Bool
  | .bor _ => false
  | .ife _ _ _ => false
  | _ => true
def tbs : Es → Bool
  | .nil => true
  | .cons e r => tb e && tbs r
def nbs : Es → Bool
  | .nil => true
  | .cons e r => nb e && nbs r
def notC0 : E → Bool
  | .cal0 _ => false
  | _ => true
def tyB : Ty → Str
  | .int => "int" | .bool => "bool" | .str => "str" | .tuple => "tuple" | .list => "list"
def meName : Me → Str
  | .find1 => "find" | .find2 => "find" | .isdigit => "isdigit" | .join => "join" | .split => "split"
def me0 : Me → Bool
  | .isdigit => true
  | _ => false
def nameIs (sc : Scope) (x : Str) : Expr → Bool
  | .Name y _ => (x == y) && glB sc y
  | _ => false

section
variable (N : List Str) (fns gls : List Str)
def varB (sc : Scope) (i : Nat) : Expr → Bool
  | .Name x _ => decide (N[i]? = some x) && (visB sc x && (!(x == ("__debug__" : Str)) && !(x == ("__classdict__" : Str))))
  | _ => false
mutual
def chkE : E → Expr → Scope → Bool
  | .var i, a, sc => varB N sc i a
  | .bor i, a, sc => varB N sc i a
  | .int i, a, _ => match a with | .Constant (.int j) _ _ => decide (i = j) | _ => false
  | .str x, a, _ => match a with | .Constant (.str y) _ _ => decide (x = y) | _ => false
  | .bl b, a, _ => match a with | .Constant (.bool c) _ _ => b == c | _ => false
  | .non, a, _ => match a with | .Constant .none _ _ => true | _ => false
  | .glo k, a, sc => match a with | .Name x _ => decide (gls[k]? = some x) && glB sc x | _ => false
  | .bin o a b, e, sc => match e with | .BinOp l op r _ => o2B o op && (chkE a l sc && chkE b r sc) | _ => false
  | .neg a, e, sc => match e with | .UnaryOp .USub l _ => chkE a l sc | _ => false
  | .not a, e, sc => match e with | .UnaryOp .Not l _ => tb a && chkE a l sc | _ => false
  | .cmp o a b, e, sc => match e with | .Compare l [op] [r] _ => coB o op && (chkE a l sc && chkE b r sc) | _ => false
  | .chain o p a b c, e, sc => match e with | .Compare l [op, op'] [r, t] _ => coB o op && (coB p op' && (chkE a l sc && (chkE b r sc && chkE c t sc))) | _ => false
  | .and es, e, sc => match e with | .BoolOp .And l _ => !l.isEmpty && (tbs es && chkEs es l sc) | _ => false
  | .or es, e, sc => match e with | .BoolOp .Or l _ => !l.isEmpty && (tbs es && chkEs es l sc) | _ => false
  | .ife c a b, e, sc => match e with | .IfExp l m r _ => (tb c && (nb a && nb b)) && (chkE c l sc && (chkE a m sc && chkE b r sc)) | _ => false
  | .tup es, e, sc => match e with | .Tuple l _ _ => nbs es && chkEs es l sc | _ => false
  | .lst es, e, sc => match e with | .List l _ => nbs es && chkEs es l sc | _ => false
  | .ix a b, e, sc => match e with | .Subscript l r _ => chkE a l sc && chkE b r sc | _ => false
  | .sl a lo hi, e, sc => match e with | .Subscript l (.Slice (some r) (some t) none _) _ => chkE a l sc && (chkE lo r sc && chkE hi t sc) | _ => false
  | .slo a lo, e, sc => match e with | .Subscript l (.Slice (some r) none none _) _ => chkE a l sc && chkE lo r sc | _ => false
  | .sll a hi, e, sc => match e with | .Subscript l (.Slice none (some t) none _) _ => chkE a l sc && chkE hi t sc | _ => false
  | .call f es, e, sc => match e with | .Call (.Name x _) (y :: l) [] _ => decide (fns[f]? = some x) && (glB sc x && (nbs es && chkEs es (y :: l) sc)) | _ => false
  | .cab f es, e, sc => match e with | .Call (.Name x _) (y :: l) [] _ => decide (fns[f]? = some x) && (glB sc x && chkEs es (y :: l) sc) | _ => false
  | .cal0 f, e, sc => match e with | .Call (.Name x _) [] [] _ => decide (fns[f]? = some x) && glB sc x | _ => false
  | .blt b es, e, sc => match e with | .Call f (x :: l) [] _ => nameIs sc (biName b) f && chkEs es (x :: l) sc | _ => false
  | .isi a t, e, sc => match e with | .Call f [l, r] [] _ => nameIs sc "isinstance" f && (nameIs sc (tyB t) r && chkE a l sc) | _ => false
  | .met m a es, e, sc => match e with
    | .Call (.Attribute l x p) as [] q => (meName m == x) && ((p.endLine == q.line) && ((me0 m == as.isEmpty) && (decide (as.length < 20) && (notC0 a && (chkE a l sc && chkEs es as sc)))))
    | _ => false
  | .comp elt i it cnd, e, sc => match e with
    | .ListComp el [⟨.Name x _, iter, ifs, 0⟩] scope _ => nb elt && (decide (N[i]? = some x) && (kindB (relS scope sc) x .local && (blkC N sc scope [(x, i)] && (chkI it iter sc && (chkO cnd ifs (relS scope sc) && chkE elt el (relS scope sc))))))
    | _ => false
def chkEs : Es → List Expr → Scope → Bool
  | .nil, l, _ => l.isEmpty
  | .cons e r, l, sc => match l with | a :: l => chkE e a sc && chkEs r l sc | [] => false
def chkI : Ev.It → Expr → Scope → Bool
  | .over e, a, sc => nb e && chkE e a sc
  | .ovs e, a, sc => nb e && chkE e a sc
  | .rng1 a, e, sc => match e with | .Call f [l] [] _ => nameIs sc "range" f && chkE a l sc | _ => false
  | .rng2 a b, e, sc => match e with | .Call f [l, r] [] _ => nameIs sc "range" f && (chkE a l sc && chkE b r sc) | _ => false
def chkO : Oe → List Expr → Scope → Bool
  | .none, l, _ => l.isEmpty
  | .some e, l, sc => match l with | [a] => tb e && chkE e a sc | _ => false
end
end

/-! ### forms that the text's terms do not have -/
def okForm : Expr → Bool
  | .Starred .. => false
  | .Slice .. => false
  | .Set .. => false
  | _ => true
section
variable {N fns gls : List Str}
theorem chk_form {e : E} {a : Expr} {sc : Scope} (h : chkE N fns gls e a sc = true) : okForm a = true := by
  cases a <;> first
    | rfl
    | (cases e <;> simp [chkE, varB] at h)
theorem form_star {a : Expr} {l : List Expr} {env : Env} (h : okForm a = true) : starEach (a :: l) env = (false, eval a env) :: starEach l env := by
  cases a <;> first
    | rfl
    | (simp [okForm] at h)
theorem form_marks {a : Expr} {op : CmpOp} (h : okForm a = true) : behindInMarks op a = false := by
  cases a <;> first
    | rfl
    | (simp [okForm] at h)
theorem form_ix {a : Expr} (h : okForm a = true) : PlainIx a := by
  cases a <;> first
    | exact fun _ _ => rfl
    | (simp [okForm] at h)
theorem form_set {a : Expr} {env : Env} (h : okForm a = true) : ∀ x, foldedSetIterable a env x = pure x := by
  cases a <;> first
    | (intro _; rfl)
    | (simp [okForm] at h)
def okForms : List Expr → Bool
  | [] => true
  | a :: l => okForm a && okForms l
theorem chks_form : ∀ {es : Es} {l : List Expr} {sc : Scope}, chkEs N fns gls es l sc = true → okForms l = true
  | .nil, [], _, _ => rfl
  | .nil, _ :: _, _, h => by simp [chkEs] at h
  | .cons _ _, [], _, h => by simp [chkEs] at h
  | .cons e r, a :: l, sc, h => by
    simp only [chkEs, Bool.and_eq_true] at h
    simp only [okForms, Bool.and_eq_true]
    exact ⟨chk_form h.1, chks_form h.2⟩
theorem forms_star {env : Env} {pos : Pos} : ∀ {l : List Expr}, okForms l = true → (backTo pos (starEach l env)).any (·.1) = false
  | [], _ => rfl
  | a :: l, h => by
    simp only [okForms, Bool.and_eq_true] at h
    rw [form_star h.1]
    have := forms_star (env := env) (pos := pos) h.2
    simp only [backTo, List.map_cons, List.any_cons, Bool.false_or] at this ⊢
    exact this
theorem forms_all {env : Env} {pos : Pos} : ∀ {l : List Expr}, okForms l = true → (backTo pos (starEach l env)).all (fun x => !x.1) = true
  | [], _ => rfl
  | a :: l, h => by
    simp only [okForms, Bool.and_eq_true] at h
    rw [form_star h.1]
    have := forms_all (env := env) (pos := pos) h.2
    simp only [backTo, List.map_cons, List.all_cons, Bool.not_false, Bool.true_and] at this ⊢
    exact this
end
end Ev
end
section
/-! Ev6: readings by data, and the terms one by one. -/
namespace Ev
open PySem PySem.Spec L2

theorem pe_imp {X : Cx} {e : Expr} {t t' : TE} (h : PE X e t) (w : ∀ σ H Q, t' σ H Q → t σ H Q) : PE X e t' := ⟨fun pins s σ H Q I q => h.run pins s σ H Q I (w _ _ _ q)⟩
theorem pt_imp {X : Cx} {e : Expr} {t t' : TT} (h : PT X e t) (w : ∀ σ H Q, t' σ H Q → t σ H Q) : PT X e t' := ⟨fun pins s σ H Q I q => h.run pins s σ H Q I (w _ _ _ q)⟩
theorem pw_imp {X : Cx} {e : Expr} {t t' : TT} (h : PW X e t) (w : ∀ σ H Q, t' σ H Q → t σ H Q) : PW X e t' := ⟨fun wh pins s σ H Q I q => h.run wh pins s σ H Q I (w _ _ _ q)⟩
theorem pa_imp {X : Cx} {e : List Expr} {t t' : TA} (h : PA X e t) (w : ∀ σ H Q, t' σ H Q → t σ H Q) : PA X e t' := ⟨fun pos pins s σ H Q I q => h.run pos pins s σ H Q I (w _ _ _ q)⟩
theorem pi_imp {X : Cx} {tg e : Expr} {t t' : TI} (h : PI X tg e t) (w : ∀ σ H Q, t' σ H Q → t σ H Q) : PI X tg e t' := ⟨fun pins s σ H Q I q => h.run pins s σ H Q I (w _ _ _ q)⟩
/-- from a state that the slots' data ρ describes -/
structure At (K : PySem.W.Frag) (ρ : Env') (σ : St) (G H : Hp) : Prop where
  ex : ∃ G0 H0, StOk K G0 H0 ρ σ G H
theorem At.same {K : PySem.W.Frag} {ρ : Env'} {σ : St} {G H : Hp} (a : At K ρ σ G H) : Same G H := let ⟨_, _, s⟩ := a.ex; s.same
theorem At.mono {K : PySem.W.Frag} {ρ : Env'} {σ : St} {G H G' H' : Hp} (a : At K ρ σ G H) (e : Ext G H G' H') : At K ρ σ G' H' := let ⟨_, _, s⟩ := a.ex; ⟨_, _, s.mono e⟩
def tV (K : PySem.W.Frag) (ev : Env' → Option D) : TE := fun σ H Q => ∃ ρ G d, At K ρ σ G H ∧ ev ρ = some d ∧ After K G H d Q
def tB (K : PySem.W.Frag) (ev : Env' → Option D) : TE := fun σ H Q => ∃ ρ G d, At K ρ σ G H ∧ ev ρ = some d ∧ ∀ G' H' v, Ext G H G' H' → RB K G' H' v d → Q v H'
def tT (K : PySem.W.Frag) (ev : Env' → Option Bool) : TT := fun σ H Q => ∃ ρ G b, At K ρ σ G H ∧ ev ρ = some b ∧ ∀ G' H', Ext G H G' H' → Q b H'
def tAv (K : PySem.W.Frag) (ev : Env' → Option (List D)) : TA := fun σ H Q => ∃ ρ G ds, At K ρ σ G H ∧ ev ρ = some ds ∧ ∀ G' H' vs, Ext G H G' H' → RpAll K G' vs ds → Q vs H'
def tAb (K : PySem.W.Frag) (ev : Env' → Option (List D)) : TA := fun σ H Q => ∃ ρ G ds, At K ρ σ G H ∧ ev ρ = some ds ∧ ∀ G' H' vs, Ext G H G' H' → RBs K G' H' vs ds → Q vs H'
/-- what an iterator J gives, one after the other -/
structure Wk (K : PySem.W.Frag) (G : Hp) (J : L2.It) (ds : List D) : Prop where
  go : ∀ (i : Nat) (G2 H2 : Hp), Same G G2 → Same G2 H2 → i < ds.length → J.go i H2
  yld : ∀ (i : Nat) (G2 H2 : Hp) (x : V) (H3 : Hp), Same G G2 → Same G2 H2 → J.yld i H2 x H3 → ∀ d, ds[i]? = some d → ∃ G3, Ext G2 H2 G3 H3 ∧ Rp K G3 x d
  stop : ∀ (i : Nat) (G2 H2 : Hp), Same G G2 → Same G2 H2 → ds.length ≤ i → J.stop i H2
def tI (K : PySem.W.Frag) (ev : Env' → Option (List D)) : TI := fun σ H R => ∃ ρ G ds, At K ρ σ G H ∧ ev ρ = some ds ∧ ∀ G' H' J, Ext G H G' H' → Wk K G' J ds → R J H'

theorem After.mono {K : PySem.W.Frag} {G H G1 H1 : Hp} {d : D} {Q : VK} (a : After K G H d Q) (e : Ext G H G1 H1) : After K G1 H1 d Q := fun G' H' v e' r => a G' H' v (e.trans e') r
theorem tV_of {K : PySem.W.Frag} {ρ : Env'} {σ : St} {G H : Hp} {ev : Env' → Option D} {d : D} {Q : VK} (a : At K ρ σ G H) (e : ev ρ = some d) (q : ∀ G' H' v, Ext G H G' H' → Rp K G' v d → Q v H') : tV K ev σ H Q := ⟨ρ, G, d, a, e, q⟩
theorem tB_of {K : PySem.W.Frag} {ρ : Env'} {σ : St} {G H : Hp} {ev : Env' → Option D} {d : D} {Q : VK} (a : At K ρ σ G H) (e : ev ρ = some d) (q : ∀ G' H' v, Ext G H G' H' → RB K G' H' v d → Q v H') : tB K ev σ H Q := ⟨ρ, G, d, a, e, q⟩
theorem weak {X : Cx} {e : Expr} {ev : Env' → Option D} (h : PE X e (tV X.K ev)) : PE X e (tB X.K ev) := pe_imp h fun _ _ _ ⟨ρ, G, d, a, z, q⟩ => ⟨ρ, G, d, a, z, fun G' H' v x r => q G' H' v x (.sh r)⟩

/-- a two-place operation -/
theorem rd2 {K : PySem.W.Frag} {r : R2} {g : D → D → Option D} (sp : Sp2 K r g) {ea eb ev : Env' → Option D} (hev : ∀ ρ d, ev ρ = some d → ∃ x y, ea ρ = some x ∧ eb ρ = some y ∧ g x y = some d) :
    ∀ σ H Q, tV K ev σ H Q → tOp r (tB K ea) (tB K eb) σ H Q := by
  rintro σ H Q ⟨ρ, G, d, a, z, q⟩
  obtain ⟨x, y, h1, h2, h3⟩ := hev ρ d z
  exact tB_of a h1 fun G1 H1 v e1 r1 => tB_of (a.mono e1) h2 fun G2 H2 w e2 r2 => sp G2 H2 v w x y d Q e2.gh (r1.mono e2) r2 h3 (After.mono (After.mono q e1) e2)
theorem bind2 {ea eb : Option D} {f : D → D → Option D} {d : D} (h : (ea.bind fun x => eb.bind fun y => f x y) = some d) : ∃ x y, ea = some x ∧ eb = some y ∧ f x y = some d := by
  obtain ⟨x, h1, h2⟩ := Option.bind_eq_some_iff.mp h
  obtain ⟨y, h3, h4⟩ := Option.bind_eq_some_iff.mp h2
  exact ⟨x, y, h1, h3, h4⟩
theorem pe_bin {X : Cx} {a b : Expr} {pos : Pos} {op : Operator} {g : D → D → Option D} {ea eb : Env' → Option D} (o : Op X (binaryOp op) g) (ha : PE X a (tB X.K ea)) (hb : PE X b (tB X.K eb)) :
    PE X (.BinOp a op b pos) (tV X.K fun ρ => (ea ρ).bind fun x => (eb ρ).bind fun y => g x y) := by
  obtain ⟨r, h, sp⟩ := o.ex
  exact pe_imp (pe_op h ha hb) (rd2 sp fun ρ d z => bind2 z)
theorem pe_cmp1 {X : Cx} {a b : Expr} {pos : Pos} {op : CmpOp} {g : D → D → Option D} {ea eb : Env' → Option D} (o : Op X (compareOp op) g) (hm : behindInMarks op b = false) (ha : PE X a (tB X.K ea)) (hb : PE X b (tB X.K eb)) :
    PE X (.Compare a [op] [b] pos) (tV X.K fun ρ => (ea ρ).bind fun x => (eb ρ).bind fun y => g x y) := by
  obtain ⟨r, h, sp⟩ := o.ex
  exact pe_imp (pe_cmpR h ha hb hm) (rd2 sp fun ρ d z => bind2 z)
theorem pt_cmp1 {X : Cx} {a b : Expr} {pos : Pos} {op : CmpOp} {g : D → D → Option D} {ea eb : Env' → Option D} (o : Op X (compareOp op) g) (hm : behindInMarks op b = false) (ha : PE X a (tB X.K ea)) (hb : PE X b (tB X.K eb)) :
    PT X (.Compare a [op] [b] pos) (tT X.K fun ρ => ((ea ρ).bind fun x => (eb ρ).bind fun y => g x y).bind asB) := by
  obtain ⟨r, h, sp⟩ := o.ex
  refine pt_imp (pt_cmpR h ha hb hm) ?_
  rintro σ H Q ⟨ρ, G, c, a, z, q⟩
  obtain ⟨d, h1, h2⟩ := Option.bind_eq_some_iff.mp z
  refine rd2 sp (fun ρ d z => bind2 z) σ H _ ⟨ρ, G, d, a, h1, fun G' H' v x rp => ?_⟩
  cases d <;> simp only [asB] at h2 <;> first
    | (cases h2; done)
    | skip
  cases h2
  cases rp
  exact ⟨c, rfl, q G' H' x⟩
theorem asB_some {d : D} {b : Bool} (h : asB d = some b) : d = .bool b := by
  cases d <;> simp only [asB] at h <;> first
    | (cases h; done)
    | (cases h; rfl)
theorem asI_some {d : D} {b : Int} (h : asI d = some b) : d = .int b := by
  cases d <;> simp only [asI] at h <;> first
    | (cases h; done)
    | (cases h; rfl)
theorem asL_some {d : D} {b : List D} (h : asL d = some b) : d = klD b ∨ (d = .list b ∨ d = .tuple b) := by
  unfold asL at h
  split at h <;> first
    | (cases h; done)
    | (cases h; exact .inl rfl)
    | (cases h; exact .inr (.inl rfl))
    | (cases h; exact .inr (.inr rfl))
/-- a value as a test -/
theorem pt_plain {X : Cx} {e : Expr} {ev : Env' → Option D} (h : PE X e (tV X.K ev)) (he : ∀ whole, isTrue e X.env whole = (do let v ← whole; standAt e.pos; holding [v] (truthy v))) : PT X e (tT X.K fun ρ => (ev ρ).bind asB) := by
  refine pt_imp (pt_val h he) ?_
  rintro σ H Q ⟨ρ, G, c, a, z, q⟩
  obtain ⟨d, h1, h2⟩ := Option.bind_eq_some_iff.mp z
  refine ⟨ρ, G, d, a, h1, fun G' H' v x rp => ?_⟩
  cases asB_some h2
  cases rp
  exact ⟨c, rfl, q G' H' x⟩
/-- the new list in hand is for all to read -/
theorem freeze {K : PySem.W.Frag} {G H G' H' : Hp} {a : Addr} {vs : List V} {ds : List D} (e : Ext G H G' H') (h1 : H' a = some (.lst vs)) (h2 : RpAll K G' vs ds) (h3 : G' a = none) (h4 : H a = none) :
    Ext G H (upd G' a (.lst vs)) H' ∧ Rp K (upd G' a (.lst vs)) (.ref a) (.list ds) := by
  have sg : Same G' (upd G' a (.lst vs)) := same_upd h3
  refine ⟨⟨e.gg.trans sg, fun b o q => ?_, e.hh, fun b o q n => ?_⟩, .lst (.inl upd_same) (dpAll_mono sg h2)⟩
  · by_cases hb : b = a
    · subst hb
      rw [upd_same] at q
      rw [h1]
      exact q
    · rw [upd_ne hb] at q
      exact e.gh _ _ q
  · rw [upd_ne (ne_of_none q h4)]
    exact e.fr b o q n

/-! ### what a def promises -/
/-- an answer: for all to read, or a new list that nobody else knows -/
def RetV (K : PySem.W.Frag) (H : Hp) (G' H' : Hp) (v : V) (fr : Bool) (d : D) : Prop :=
  if fr = true then ∃ a vs ds, d = .list ds ∧ v = .ref a ∧ H' a = some (.lst vs) ∧ RpAll K G' vs ds ∧ G' a = none ∧ H a = none else Rp K G' v d
def spI (K : PySem.W.Frag) (r : List D → Option (Bool × D)) : Sp := fun vs H Q _ => ∃ G ds fr d, Same G H ∧ RpAll K G vs ds ∧ r ds = some (fr, d) ∧ ∀ G' H' v, Ext G H G' H' → RetV K H G' H' v fr d → Q v H'
/-- a def of the module, by its name: it is not called here, or it keeps its promise -/
def CallOk (X : Cx) (x : Str) (r : List D → Option (Bool × D)) : Prop :=
  (∀ ds, r ds = none) ∨ ∃ (k : Nat) (ps : List Str) (f : Addr) (fd : FuncData), FnOk X.prog X.w X.K X.mg X.base CX0 k f fd ps (spI X.K r) ∧ Room k X.A ∧ X.mg x = some (.ref f) ∧ PySem.W.keepIn X.K (.ref f) = true ∧ Binds X.K fd ps []
theorem pe_none {X : Cx} {e : Expr} {ev : Env' → Option D} (h : ∀ ρ, ev ρ = none) : PE X e (tV X.K ev) := ⟨fun _ _ σ H Q _ ⟨ρ, _, _, _, z, _⟩ => by rw [h] at z; cases z⟩
theorem rd_call {X : Cx} {r : List D → Option (Bool × D)} {evs : Env' → Option (List D)} : ∀ σ H Q, tV X.K (fun ρ => (evs ρ).bind fun xs => (r xs).map (·.2)) σ H Q → tCall (spI X.K r) [] E0 (tAv X.K evs) σ H Q := by
  rintro σ H Q ⟨ρ, G, d, a, z, q⟩
  obtain ⟨xs, h1, h2⟩ := Option.bind_eq_some_iff.mp z
  obtain ⟨⟨fr, d'⟩, h3, h4⟩ := Option.map_eq_some_iff.mp h2
  cases h4
  refine ⟨ρ, G, xs, a, h1, fun G1 H1 vs e1 r1 => ?_⟩
  show spI X.K r (vs ++ []) H1 Q E0
  rw [List.append_nil]
  refine ⟨G1, xs, fr, d', e1.gh, r1, h3, fun G2 H2 v e2 rv => ?_⟩
  unfold RetV at rv
  cases fr with
  | false => exact q G2 H2 v (e1.trans e2) rv
  | true =>
    obtain ⟨p, vs', ds, rfl, rfl, g1, g2, g3, g4⟩ := rv
    obtain ⟨ex, rp⟩ := freeze e2 g1 g2 g3 g4
    exact q _ H2 _ (e1.trans ex) rp
theorem pe_callI {X : Cx} {x : Str} {p pos : Pos} {e : Expr} {es : List Expr} {r : List D → Option (Bool × D)} {evs : Env' → Option (List D)} (c : CallOk X x r) (hg : Gl X x) (hd : (x == ("__debug__" : Str)) = false) (hf : okForms (e :: es) = true) (ha : PA X (e :: es) (tAv X.K evs)) :
    PE X (.Call (.Name x p) (e :: es) [] pos) (tV X.K fun ρ => (evs ρ).bind fun xs => (r xs).map (·.2)) := by
  rcases c with c | ⟨k, ps, f, fd, F, hr, hm, hk, hb⟩
  · refine pe_none fun ρ => ?_
    cases evs ρ with
    | none => rfl
    | some xs =>
      show (r xs).map _ = none
      rw [c]
      rfl
  · simp only [okForms, Bool.and_eq_true] at hf
    exact pe_imp (pe_call F hr hg hm hk hb .nil pass0 ha hd (form_star hf.1) (forms_star hf.2)) rd_call
/-! a def that reads lists of this frame and answers something plain -/
theorem rp_scal {K : PySem.W.Frag} {G G' : Hp} {v : V} {d : D} (h : Rp K G v d) (s : scalD d = true) : Rp K G' v d := by
  cases h <;> first
    | exact .non
    | exact .bl _
    | exact .int _
    | exact .str _
    | (simp [scalD] at s)
theorem rb_all {K : PySem.W.Frag} {G H : Hp} (sm : Same G H) : ∀ {vs : List V} {ds : List D}, RBs K G H vs ds → RpAll K H vs ds
  | _, _, .nil => .nil
  | _, _, .cons h t => .cons (by
      cases h with
      | sh h => exact dp_mono sm h
      | ow h1 h2 => exact .lst (.inl h1) (dpAll_mono sm h2)) (rb_all sm t)
theorem rd_callB {X : Cx} {r : List D → Option (Bool × D)} {evs : Env' → Option (List D)} : ∀ σ H Q, tV X.K (fun ρ => (evs ρ).bind fun xs => (r xs).bind fun r => if scalD r.2 = true then some r.2 else none) σ H Q → tCall (spI X.K r) [] E0 (tAb X.K evs) σ H Q := by
  rintro σ H Q ⟨ρ, G, d, a, z, q⟩
  obtain ⟨xs, h1, h2⟩ := Option.bind_eq_some_iff.mp z
  obtain ⟨⟨fr, d'⟩, h3, h4⟩ := Option.bind_eq_some_iff.mp h2
  split at h4
  · rename_i hs
    cases h4
    refine ⟨ρ, G, xs, a, h1, fun G1 H1 vs e1 r1 => ?_⟩
    show spI X.K r (vs ++ []) H1 Q E0
    rw [List.append_nil]
    refine ⟨H1, xs, fr, d', Same.refl _, rb_all e1.gh r1, h3, fun G2 H2 v e2 rv => ?_⟩
    unfold RetV at rv
    cases fr with
    | false =>
      simp only [Bool.false_eq_true, if_false] at rv
      exact q G1 H2 v (e1.trans ⟨Same.refl _, e1.gh.trans e2.hh, e2.hh, fun _ _ _ e => e⟩) (rp_scal rv hs)
    | true =>
      obtain ⟨p, vs', ds, rfl, _⟩ := rv
      simp [scalD] at hs
  · cases h4
theorem pe_callB' {X : Cx} {x : Str} {p pos : Pos} {e : Expr} {es : List Expr} {r : List D → Option (Bool × D)} {evs : Env' → Option (List D)} (c : CallOk X x r) (hg : Gl X x) (hd : (x == ("__debug__" : Str)) = false) (hf : okForms (e :: es) = true) (ha : PA X (e :: es) (tAb X.K evs)) :
    PE X (.Call (.Name x p) (e :: es) [] pos) (tV X.K fun ρ => (evs ρ).bind fun xs => (r xs).bind fun r => if scalD r.2 = true then some r.2 else none) := by
  rcases c with c | ⟨k, ps, f, fd, F, hr, hm, hk, hb⟩
  · refine pe_none fun ρ => ?_
    cases evs ρ with
    | none => rfl
    | some xs =>
      show (r xs).bind _ = none
      rw [c]
      rfl
  · simp only [okForms, Bool.and_eq_true] at hf
    exact pe_imp (pe_call F hr hg hm hk hb .nil pass0 ha hd (form_star hf.1) (forms_star hf.2)) rd_callB
theorem pe_call0I {X : Cx} {x : Str} {p pos : Pos} {r : List D → Option (Bool × D)} (c : CallOk X x r) (hg : Gl X x) (hd : (x == ("__debug__" : Str)) = false) :
    PE X (.Call (.Name x p) [] [] pos) (tV X.K fun _ => (r []).map (·.2)) := by
  rcases c with c | ⟨k, ps, f, fd, F, hr, hm, hk, hb⟩
  · refine pe_none fun ρ => ?_
    rw [c]
    rfl
  · refine pe_imp (pe_call0 F hr hg hm hk hb .nil pass0 hd) ?_
    rintro σ H Q ⟨ρ, G, d, a, z, q⟩
    obtain ⟨⟨fr, d'⟩, h3, h4⟩ := Option.map_eq_some_iff.mp z
    cases h4
    show spI X.K r ([] ++ []) H Q E0
    refine ⟨G, [], fr, d', a.same, .nil, h3, fun G2 H2 v e2 rv => ?_⟩
    unfold RetV at rv
    cases fr with
    | false => exact q G2 H2 v e2 rv
    | true =>
      obtain ⟨p, vs', ds, rfl, rfl, g1, g2, g3, g4⟩ := rv
      obtain ⟨ex, rp⟩ := freeze e2 g1 g2 g3 g4
      exact q _ H2 _ ex rp
end Ev
end
section
/-! Ev7: a rule by data for each form of term. -/
namespace Ev
open PySem PySem.Spec L2
section
variable {X : Cx} {pos p : Pos}
theorem r_var {x : Str} {i : Nat} (hN : X.N[i]? = some x) (hv : Vis X.env.scope x) (hd : (x == ("__debug__" : Str)) = false) (hc : (x == ("__classdict__" : Str)) = false) : PE X (.Name x pos) (tV X.K fun ρ => getS ρ i) := by
  refine pe_imp (pe_var hN hv hd hc) ?_
  rintro σ H Q ⟨ρ, G, d, ⟨G0, H0, s⟩, z, q⟩
  obtain ⟨v, h1, h2⟩ := s.getS z
  exact ⟨v, h1, q.now s.same h2⟩
theorem r_bor {x : Str} {i : Nat} (hN : X.N[i]? = some x) (hv : Vis X.env.scope x) (hd : (x == ("__debug__" : Str)) = false) (hc : (x == ("__classdict__" : Str)) = false) : PE X (.Name x pos) (tB X.K fun ρ => getB ρ i) := by
  refine pe_imp (pe_var hN hv hd hc) ?_
  rintro σ H Q ⟨ρ, G, d, ⟨G0, H0, s⟩, z, q⟩
  obtain ⟨v, h1, h2⟩ := s.getB z
  exact ⟨v, h1, q G H v (.refl s.same) h2⟩
/-- a constant -/
theorem r_con {e : Expr} {v : V} {c : D} (h : PE X e (tC v)) (hr : ∀ G, Rp X.K G v c) : PE X e (tV X.K fun _ => some c) := by
  refine pe_imp h ?_
  rintro σ H Q ⟨ρ, G, d, a, z, q⟩
  cases z
  exact q.now a.same (hr G)
theorem r_neg {a : Expr} {ea : Env' → Option D} (ha : PE X a (tB X.K ea)) : PE X (.UnaryOp .USub a pos) (tV X.K fun ρ => (ea ρ).bind fun x => (asI x).map fun i => .int (-i)) := by
  refine pe_imp (pe_un un_neg ha) ?_
  rintro σ H Q ⟨ρ, G, d, a, z, q⟩
  obtain ⟨x, h1, h2⟩ := Option.bind_eq_some_iff.mp z
  obtain ⟨i, h3, h4⟩ := Option.map_eq_some_iff.mp h2
  cases h4
  cases asI_some h3
  exact tB_of a h1 fun G1 H1 v e1 r1 => ⟨i, r1.int, q G1 H1 _ e1 (.int _)⟩
theorem r_not {a : Expr} {ea : Env' → Option D} (ha : PE X a (tB X.K ea)) : PE X (.UnaryOp .Not a pos) (tV X.K fun ρ => (ea ρ).bind fun x => (asB x).map fun b => .bool (!b)) := by
  refine pe_imp (pe_not ha) ?_
  rintro σ H Q ⟨ρ, G, d, a, z, q⟩
  obtain ⟨x, h1, h2⟩ := Option.bind_eq_some_iff.mp z
  obtain ⟨i, h3, h4⟩ := Option.map_eq_some_iff.mp h2
  cases h4
  cases asB_some h3
  exact tB_of a h1 fun G1 H1 v e1 r1 => ⟨i, r1.bool, q G1 H1 _ e1 (.bl _)⟩
theorem rt_not {a : Expr} {ea : Env' → Option D} (ha : PT X a (tT X.K fun ρ => (ea ρ).bind asB)) : PT X (.UnaryOp .Not a pos) (tT X.K fun ρ => ((ea ρ).bind fun x => (asB x).map fun b => PyData.bool (!b)).bind asB) := by
  refine pt_imp (pt_not ha) ?_
  rintro σ H Q ⟨ρ, G, c, a, z, q⟩
  obtain ⟨y, z, z2⟩ := Option.bind_eq_some_iff.mp z
  obtain ⟨x, h1, h2⟩ := Option.bind_eq_some_iff.mp z
  obtain ⟨i, h3, h4⟩ := Option.map_eq_some_iff.mp h2
  cases h4
  cases z2
  exact ⟨ρ, G, i, a, by show (ea ρ).bind asB = some i; rw [h1]; exact h3, fun G1 H1 e1 => q G1 H1 e1⟩
theorem chain_some {f : D → D → Option D} {g : D → D → Option D} {ea eb ec : Option D} {d : D}
    (h : (ea.bind fun x => eb.bind fun y => (f x y).bind fun k => (asB k).bind fun t => if t = true then ec.bind fun z => g y z else some (.bool false)) = some d) :
    ∃ x y t, ea = some x ∧ eb = some y ∧ f x y = some (.bool t) ∧ ((t = true ∧ ∃ z, ec = some z ∧ g y z = some d) ∨ (t = false ∧ d = .bool false)) := by
  obtain ⟨x, h1, ha⟩ := Option.bind_eq_some_iff.mp h
  obtain ⟨y, h2, hb⟩ := Option.bind_eq_some_iff.mp ha
  obtain ⟨k, h3, hc⟩ := Option.bind_eq_some_iff.mp hb
  obtain ⟨t, h4, h⟩ := Option.bind_eq_some_iff.mp hc
  clear ha hb hc
  cases asB_some h4
  refine ⟨x, y, t, h1, h2, h3, ?_⟩
  cases t with
  | true =>
    rw [if_pos rfl] at h
    obtain ⟨z, h5, h6⟩ := Option.bind_eq_some_iff.mp h
    exact .inl ⟨rfl, z, h5, h6⟩
  | false =>
    rw [if_neg Bool.false_ne_true] at h
    cases h
    exact .inr ⟨rfl, rfl⟩
theorem rd_chain {K : PySem.W.Frag} {r r' : R2} {f g : D → D → Option D} (sp : Sp2 K r f) (sp' : Sp2 K r' g) {ea eb ec : Env' → Option D} :
    ∀ σ H Q, tV K (fun ρ => (ea ρ).bind fun x => (eb ρ).bind fun y => (f x y).bind fun k => (asB k).bind fun t => if t = true then (ec ρ).bind fun z => g y z else some (.bool false)) σ H Q → tChain r r' (tB K ea) (tB K eb) (tB K ec) σ H Q := by
  rintro σ H Q ⟨ρ, G, d, a, z, q⟩
  obtain ⟨x, y, t, h1, h2, h3, h4⟩ := chain_some z
  refine tB_of a h1 fun G1 H1 v e1 r1 => tB_of (a.mono e1) h2 fun G2 H2 w e2 r2 => sp G2 H2 v w x y (.bool t) _ e2.gh (r1.mono e2) r2 h3 fun G3 H3 u e3 r3 => ?_
  cases r3
  refine ⟨t, rfl, ?_⟩
  rcases h4 with ⟨rfl, z, h5, h6⟩ | ⟨rfl, rfl⟩
  · rw [if_pos rfl]
    exact tB_of (((a.mono e1).mono e2).mono e3) h5 fun G4 H4 s e4 r4 => sp' G4 H4 w s y z d Q e4.gh ((r2.mono e3).mono e4) r4 h6 (After.mono (After.mono (After.mono (After.mono q e1) e2) e3) e4)
  · rw [if_neg Bool.false_ne_true]
    exact q G3 H3 _ ((e1.trans e2).trans e3) (.bl _)
theorem r_chain {a b c : Expr} {op op' : CmpOp} {f g : D → D → Option D} {ea eb ec : Env' → Option D} (o : Op X (compareOp op) f) (o' : Op X (compareOp op') g) (hm : behindInMarks op' c = false)
    (ha : PE X a (tB X.K ea)) (hb : PE X b (tB X.K eb)) (hc : PE X c (tB X.K ec)) :
    PE X (.Compare a [op, op'] [b, c] pos) (tV X.K fun ρ => (ea ρ).bind fun x => (eb ρ).bind fun y => (f x y).bind fun k => (asB k).bind fun t => if t = true then (ec ρ).bind fun z => g y z else some (.bool false)) := by
  obtain ⟨r, h, sp⟩ := o.ex
  obtain ⟨r', h', sp'⟩ := o'.ex
  exact pe_imp (pe_chain h h' ha hb hc hm) (rd_chain sp sp')
/-- and, or -/
theorem r_and {a b : Expr} {rest : List Expr} {ea eb : Env' → Option D} (ha : PE X a (tV X.K ea)) (hb : PE X (.BoolOp .And (b :: rest) pos) (tV X.K eb)) :
    PE X (.BoolOp .And (a :: b :: rest) pos) (tV X.K fun ρ => (ea ρ).bind fun x => (asB x).bind fun t => if t = true then eb ρ else some (.bool false)) := by
  refine pe_imp (pe_and ha hb) ?_
  rintro σ H Q ⟨ρ, G, d, a, z, q⟩
  obtain ⟨x, h1, h2⟩ := Option.bind_eq_some_iff.mp z
  obtain ⟨t, h3, h4⟩ := Option.bind_eq_some_iff.mp h2
  cases asB_some h3
  refine tV_of a h1 fun G1 H1 v e1 r1 => ?_
  cases r1
  refine ⟨t, rfl, ?_⟩
  cases t with
  | true =>
    rw [if_pos rfl] at h4 ⊢
    exact tV_of (a.mono e1) h4 fun G2 H2 w e2 r2 => q G2 H2 w (e1.trans e2) r2
  | false =>
    rw [if_neg Bool.false_ne_true] at h4 ⊢
    cases h4
    exact q G1 H1 _ e1 (.bl _)
theorem r_or {a b : Expr} {rest : List Expr} {ea eb : Env' → Option D} (ha : PE X a (tV X.K ea)) (hb : PE X (.BoolOp .Or (b :: rest) pos) (tV X.K eb)) :
    PE X (.BoolOp .Or (a :: b :: rest) pos) (tV X.K fun ρ => (ea ρ).bind fun x => (asB x).bind fun t => if t = true then some (.bool true) else eb ρ) := by
  refine pe_imp (pe_or ha hb) ?_
  rintro σ H Q ⟨ρ, G, d, a, z, q⟩
  obtain ⟨x, h1, h2⟩ := Option.bind_eq_some_iff.mp z
  obtain ⟨t, h3, h4⟩ := Option.bind_eq_some_iff.mp h2
  cases asB_some h3
  refine tV_of a h1 fun G1 H1 v e1 r1 => ?_
  cases r1
  refine ⟨t, rfl, ?_⟩
  cases t with
  | false =>
    rw [if_neg Bool.false_ne_true] at h4 ⊢
    exact tV_of (a.mono e1) h4 fun G2 H2 w e2 r2 => q G2 H2 w (e1.trans e2) r2
  | true =>
    rw [if_pos rfl] at h4 ⊢
    cases h4
    exact q G1 H1 _ e1 (.bl _)
theorem rt_and {a b : Expr} {rest : List Expr} {ea eb : Env' → Option D} (ha : PT X a (tT X.K fun ρ => (ea ρ).bind asB)) (hb : PW X (.BoolOp .And (b :: rest) pos) (tT X.K fun ρ => (eb ρ).bind asB)) :
    PW X (.BoolOp .And (a :: b :: rest) pos) (tT X.K fun ρ => ((ea ρ).bind fun x => (asB x).bind fun t => if t = true then eb ρ else some (PyData.bool false)).bind asB) := by
  refine pw_imp (pw_and ha hb) ?_
  rintro σ H Q ⟨ρ, G, c, a, z, q⟩
  obtain ⟨y, z, z2⟩ := Option.bind_eq_some_iff.mp z
  obtain ⟨x, h1, h2⟩ := Option.bind_eq_some_iff.mp z
  obtain ⟨t, h3, h4⟩ := Option.bind_eq_some_iff.mp h2
  refine ⟨ρ, G, t, a, by show (ea ρ).bind asB = some t; rw [h1]; exact h3, fun G1 H1 e1 => ?_⟩
  cases t with
  | true =>
    rw [if_pos rfl] at h4 ⊢
    exact ⟨ρ, G1, c, a.mono e1, by show (eb ρ).bind asB = some c; rw [h4]; exact z2, fun G2 H2 e2 => q G2 H2 (e1.trans e2)⟩
  | false =>
    rw [if_neg Bool.false_ne_true] at h4 ⊢
    cases h4
    cases z2
    exact q G1 H1 e1
theorem rt_or {a b : Expr} {rest : List Expr} {ea eb : Env' → Option D} (ha : PT X a (tT X.K fun ρ => (ea ρ).bind asB)) (hb : PW X (.BoolOp .Or (b :: rest) pos) (tT X.K fun ρ => (eb ρ).bind asB)) :
    PW X (.BoolOp .Or (a :: b :: rest) pos) (tT X.K fun ρ => ((ea ρ).bind fun x => (asB x).bind fun t => if t = true then some (PyData.bool true) else eb ρ).bind asB) := by
  refine pw_imp (pw_or ha hb) ?_
  rintro σ H Q ⟨ρ, G, c, a, z, q⟩
  obtain ⟨y, z, z2⟩ := Option.bind_eq_some_iff.mp z
  obtain ⟨x, h1, h2⟩ := Option.bind_eq_some_iff.mp z
  obtain ⟨t, h3, h4⟩ := Option.bind_eq_some_iff.mp h2
  refine ⟨ρ, G, t, a, by show (ea ρ).bind asB = some t; rw [h1]; exact h3, fun G1 H1 e1 => ?_⟩
  cases t with
  | false =>
    rw [if_neg Bool.false_ne_true] at h4 ⊢
    exact ⟨ρ, G1, c, a.mono e1, by show (eb ρ).bind asB = some c; rw [h4]; exact z2, fun G2 H2 e2 => q G2 H2 (e1.trans e2)⟩
  | true =>
    rw [if_pos rfl] at h4 ⊢
    cases h4
    cases z2
    exact q G1 H1 e1
theorem r_ife {c a b : Expr} {ec ea eb : Env' → Option D} (hc : PT X c (tT X.K fun ρ => (ec ρ).bind asB)) (ha : PE X a (tV X.K ea)) (hb : PE X b (tV X.K eb)) :
    PE X (.IfExp c a b pos) (tV X.K fun ρ => (ec ρ).bind fun x => (asB x).bind fun t => if t = true then ea ρ else eb ρ) := by
  refine pe_imp (pe_ifExp hc ha hb) ?_
  rintro σ H Q ⟨ρ, G, d, a, z, q⟩
  obtain ⟨x, h1, h2⟩ := Option.bind_eq_some_iff.mp z
  obtain ⟨t, h3, h4⟩ := Option.bind_eq_some_iff.mp h2
  refine ⟨ρ, G, t, a, by show (ec ρ).bind asB = some t; rw [h1]; exact h3, fun G1 H1 e1 => ?_⟩
  cases t with
  | true =>
    rw [if_pos rfl] at h4 ⊢
    exact tV_of (a.mono e1) h4 fun G2 H2 w e2 r2 => q G2 H2 w (e1.trans e2) r2
  | false =>
    rw [if_neg Bool.false_ne_true] at h4 ⊢
    exact tV_of (a.mono e1) h4 fun G2 H2 w e2 r2 => q G2 H2 w (e1.trans e2) r2
theorem rt_ife {c a b : Expr} {ec ea eb : Env' → Option D} (h : PE X (.IfExp c a b pos) (tV X.K fun ρ => (ec ρ).bind fun x => (asB x).bind fun t => if t = true then ea ρ else eb ρ)) : True := trivial
/-! ### displays -/
theorem size_some {α : Type} {xs : List α} {f : List α → D} {o : Option (List α)} {d : D} (h : (o.bind fun xs => if xs.length ≤ sizeLine then some (f xs) else none) = some d) : ∃ xs, o = some xs ∧ xs.length ≤ sizeLine ∧ d = f xs := by
  obtain ⟨ys, h1, h2⟩ := Option.bind_eq_some_iff.mp h
  split at h2
  · rename_i hl
    exact ⟨ys, h1, hl, (Option.some.inj h2).symm⟩
  · cases h2
theorem r_tup {es : List Expr} {n : Nat} {evs : Env' → Option (List D)} (h : PA X es (tAv X.K evs)) : PE X (.Tuple es n pos) (tV X.K fun ρ => (evs ρ).bind fun xs => if xs.length ≤ sizeLine then some (.tuple xs) else none) := by
  refine pe_imp (pe_tup h) ?_
  rintro σ H Q ⟨ρ, G, d, a, z, q⟩
  obtain ⟨xs, h1, h2, rfl⟩ := size_some (xs := ([] : List D)) z
  exact ⟨ρ, G, xs, a, h1, fun G1 H1 vs e1 r1 => ⟨by rw [dpAll_len r1]; exact h2, fun c hc => (After.mono q e1).tup e1.gh r1 hc⟩⟩
theorem r_lst {es : List Expr} {evs : Env' → Option (List D)} (h : PA X es (tAv X.K evs)) : PE X (.List es pos) (tV X.K fun ρ => (evs ρ).bind fun xs => if xs.length ≤ sizeLine then some (.list xs) else none) := by
  refine pe_imp (pe_lst h) ?_
  rintro σ H Q ⟨ρ, G, d, a, z, q⟩
  obtain ⟨xs, h1, h2, rfl⟩ := size_some (xs := ([] : List D)) z
  exact ⟨ρ, G, xs, a, h1, fun G1 H1 vs e1 r1 => ⟨by rw [dpAll_len r1]; exact h2, fun c hc => (After.mono q e1).lst e1.gh r1 hc⟩⟩
theorem r_nilv : PA X [] (tAv X.K fun _ => some []) := by
  refine pa_imp pa_nil ?_
  rintro σ H Q ⟨ρ, G, d, a, z, q⟩
  cases z
  exact q G H [] (.refl a.same) .nil
theorem r_nilb : PA X [] (tAb X.K fun _ => some []) := by
  refine pa_imp pa_nil ?_
  rintro σ H Q ⟨ρ, G, d, a, z, q⟩
  cases z
  exact q G H [] (.refl a.same) .nil
theorem r_consv {e : Expr} {es : List Expr} {ea : Env' → Option D} {evs : Env' → Option (List D)} (hf : okForm e = true) (h : PE X e (tV X.K ea)) (h2 : PA X es (tAv X.K evs)) : PA X (e :: es) (tAv X.K fun ρ => (ea ρ).bind fun x => (evs ρ).map (x :: ·)) := by
  refine pa_imp (pa_cons h h2 (form_star hf)) ?_
  rintro σ H Q ⟨ρ, G, d, a, z, q⟩
  obtain ⟨x, h1, h2⟩ := Option.bind_eq_some_iff.mp z
  obtain ⟨xs, h3, rfl⟩ := Option.map_eq_some_iff.mp h2
  exact tV_of a h1 fun G1 H1 v e1 r1 => ⟨ρ, G1, xs, a.mono e1, h3, fun G2 H2 vs e2 r2 => q G2 H2 (v :: vs) (e1.trans e2) (.cons (dp_mono e2.gg r1) r2)⟩
theorem r_consb {e : Expr} {es : List Expr} {ea : Env' → Option D} {evs : Env' → Option (List D)} (hf : okForm e = true) (h : PE X e (tB X.K ea)) (h2 : PA X es (tAb X.K evs)) : PA X (e :: es) (tAb X.K fun ρ => (ea ρ).bind fun x => (evs ρ).map (x :: ·)) := by
  refine pa_imp (pa_cons h h2 (form_star hf)) ?_
  rintro σ H Q ⟨ρ, G, d, a, z, q⟩
  obtain ⟨x, h1, h2⟩ := Option.bind_eq_some_iff.mp z
  obtain ⟨xs, h3, rfl⟩ := Option.map_eq_some_iff.mp h2
  exact tB_of a h1 fun G1 H1 v e1 r1 => ⟨ρ, G1, xs, a.mono e1, h3, fun G2 H2 vs e2 r2 => q G2 H2 (v :: vs) (e1.trans e2) (.cons (r1.mono e2) r2)⟩
/-! ### subscripts, slices -/
theorem r_ix {a b : Expr} {ea eb : Env' → Option D} (hf : okForm b = true) (ha : PE X a (tB X.K ea)) (hb : PE X b (tB X.K eb)) : PE X (.Subscript a b pos) (tV X.K fun ρ => (ea ρ).bind fun x => (eb ρ).bind fun y => ixD x y) :=
  pe_imp (pe_ix ix_seq ha hb (form_ix hf)) (rd2 sp_ix fun ρ d z => bind2 z)
def tP (K : PySem.W.Frag) (ev : Env' → Option Int) : TO := fun σ H Q => ∃ ρ G i, At K ρ σ G H ∧ ev ρ = some i ∧ ∀ G' H', Ext G H G' H' → Q (some i) H'
theorem r_po {e : Expr} {ev : Env' → Option D} (h : PE X e (tB X.K ev)) : PO X (some e) (tP X.K fun ρ => (ev ρ).bind asI) := by
  refine ⟨fun pins s σ H Q I z => (po_some h).run pins s σ H Q I ?_⟩
  obtain ⟨ρ, G, i, a, z, q⟩ := z
  obtain ⟨x, h1, h2⟩ := Option.bind_eq_some_iff.mp z
  cases asI_some h2
  exact tB_of a h1 fun G1 H1 v e1 r1 => ⟨i, r1.int, q G1 H1 e1⟩
theorem r_sl {a lo hi : Expr} {p2 : Pos} {ea el eh : Env' → Option D} (ha : PE X a (tB X.K ea)) (hl : PE X lo (tB X.K el)) (hh : PE X hi (tB X.K eh)) :
    PE X (.Subscript a (.Slice (some lo) (some hi) none p2) pos) (tV X.K fun ρ => (ea ρ).bind fun x => (el ρ).bind fun l => (eh ρ).bind fun h => (asI l).bind fun l => (asI h).bind fun h => slD (some l) (some h) x) := by
  refine pe_imp (pe_slice sl_all ha (r_po hl) (r_po hh)) ?_
  rintro σ H Q ⟨ρ, G, d, a, z, q⟩
  obtain ⟨x, h1, z⟩ := Option.bind_eq_some_iff.mp z
  obtain ⟨l, h2, z⟩ := Option.bind_eq_some_iff.mp z
  obtain ⟨h, h3, z⟩ := Option.bind_eq_some_iff.mp z
  obtain ⟨i, h4, z⟩ := Option.bind_eq_some_iff.mp z
  obtain ⟨j, h5, z⟩ := Option.bind_eq_some_iff.mp z
  refine tB_of a h1 fun G1 H1 v e1 r1 => ⟨ρ, G1, i, a.mono e1, by show (el ρ).bind asI = some i; rw [h2]; exact h4, fun G2 H2 e2 => ⟨ρ, G2, j, (a.mono e1).mono e2, by show (eh ρ).bind asI = some j; rw [h3]; exact h5, fun G3 H3 e3 => ?_⟩⟩
  exact sp_sl e3.gh ((r1.mono e2).mono e3) z (After.mono (After.mono (After.mono q e1) e2) e3)
theorem r_slo {a lo : Expr} {p2 : Pos} {ea el : Env' → Option D} (ha : PE X a (tB X.K ea)) (hl : PE X lo (tB X.K el)) :
    PE X (.Subscript a (.Slice (some lo) none none p2) pos) (tV X.K fun ρ => (ea ρ).bind fun x => (el ρ).bind fun l => (asI l).bind fun l => slD (some l) none x) := by
  refine pe_imp (pe_slice sl_all ha (r_po hl) po_none) ?_
  rintro σ H Q ⟨ρ, G, d, a, z, q⟩
  obtain ⟨x, h1, z⟩ := Option.bind_eq_some_iff.mp z
  obtain ⟨l, h2, z⟩ := Option.bind_eq_some_iff.mp z
  obtain ⟨i, h4, z⟩ := Option.bind_eq_some_iff.mp z
  refine tB_of a h1 fun G1 H1 v e1 r1 => ⟨ρ, G1, i, a.mono e1, by show (el ρ).bind asI = some i; rw [h2]; exact h4, fun G2 H2 e2 => ?_⟩
  exact sp_sl e2.gh (r1.mono e2) z (After.mono (After.mono q e1) e2)
theorem r_sll {a lo : Expr} {p2 : Pos} {ea el : Env' → Option D} (ha : PE X a (tB X.K ea)) (hl : PE X lo (tB X.K el)) :
    PE X (.Subscript a (.Slice none (some lo) none p2) pos) (tV X.K fun ρ => (ea ρ).bind fun x => (el ρ).bind fun l => (asI l).bind fun l => slD none (some l) x) := by
  refine pe_imp (pe_slice sl_all ha po_none (r_po hl)) ?_
  rintro σ H Q ⟨ρ, G, d, a, z, q⟩
  obtain ⟨x, h1, z⟩ := Option.bind_eq_some_iff.mp z
  obtain ⟨l, h2, z⟩ := Option.bind_eq_some_iff.mp z
  obtain ⟨i, h4, z⟩ := Option.bind_eq_some_iff.mp z
  refine tB_of a h1 fun G1 H1 v e1 r1 => ⟨ρ, G1, i, a.mono e1, by show (el ρ).bind asI = some i; rw [h2]; exact h4, fun G2 H2 e2 => ?_⟩
  exact sp_sl e2.gh (r1.mono e2) z (After.mono (After.mono q e1) e2)
/-! ### built-in functions, isinstance, methods -/
theorem rd_cb {K : PySem.W.Frag} {r : List V → Hp → VK → Prop} {f : List D → Option D} (sp : SpC K r f) {evs : Env' → Option (List D)} : ∀ σ H Q, tV K (fun ρ => (evs ρ).bind f) σ H Q → tCB r (tAb K evs) σ H Q := by
  rintro σ H Q ⟨ρ, G, d, a, z, q⟩
  obtain ⟨xs, h1, h2⟩ := Option.bind_eq_some_iff.mp z
  exact ⟨ρ, G, xs, a, h1, fun G1 H1 vs e1 r1 => sp G1 H1 vs xs d Q e1.gh r1 h2 (After.mono q e1)⟩
theorem r_blt (b : Bi) {e : Expr} {es : List Expr} {evs : Env' → Option (List D)} (hc : X.calm = true) (hg : Gl X (biName b)) (hm : X.mg (biName b) = none) (hf : okForms (e :: es) = true) (ha : PA X (e :: es) (tAb X.K evs)) :
    PE X (.Call (.Name (biName b) p) (e :: es) [] pos) (tV X.K fun ρ => (evs ρ).bind fun xs => biD b xs) := by
  obtain ⟨r, h, sp⟩ := call_bi hc b
  simp only [okForms, Bool.and_eq_true] at hf
  cases b with
  | abs => exact pe_imp (pe_callB h hg hm (bi_boot .abs) ha (by decide +kernel) (by decide +kernel) (form_star hf.1) (forms_star hf.2)) (rd_cb sp)
  | len => exact pe_imp (pe_callB h hg hm (bi_boot .len) ha (by decide +kernel) (by decide +kernel) (form_star hf.1) (forms_star hf.2)) (rd_cb sp)
  | max2 => exact pe_imp (pe_callB h hg hm (bi_boot .max2) ha (by decide +kernel) (by decide +kernel) (form_star hf.1) (forms_star hf.2)) (rd_cb sp)
  | min2 => exact pe_imp (pe_callB h hg hm (bi_boot .min2) ha (by decide +kernel) (by decide +kernel) (form_star hf.1) (forms_star hf.2)) (rd_cb sp)
  | all => exact pe_imp (pe_callB h hg hm (bi_boot .all) ha (by decide +kernel) (by decide +kernel) (form_star hf.1) (forms_star hf.2)) (rd_cb sp)
  | any => exact pe_imp (pe_callB h hg hm (bi_boot .any) ha (by decide +kernel) (by decide +kernel) (form_star hf.1) (forms_star hf.2)) (rd_cb sp)
  | int => exact pe_imp (pe_callTy h hg hm (bi_boot .int) ha (by decide +kernel) (by decide +kernel) (form_star hf.1) (forms_star hf.2)) (rd_cb sp)
  | str => exact pe_imp (pe_callTy h hg hm (bi_boot .str) ha (by decide +kernel) (by decide +kernel) (form_star hf.1) (forms_star hf.2)) (rd_cb sp)
  | tuple => exact pe_imp (pe_callTy h hg hm (bi_boot .tuple) ha (by decide +kernel) (by decide +kernel) (form_star hf.1) (forms_star hf.2)) (rd_cb sp)
  | list => exact pe_imp (pe_callTy h hg hm (bi_boot .list) ha (by decide +kernel) (by decide +kernel) (form_star hf.1) (forms_star hf.2)) (rd_cb sp)
end
end Ev
end
section
/-! Ev8: isinstance, methods of texts, what a for walks, comprehensions. -/
namespace Ev
open PySem PySem.Spec L2
section
variable {X : Cx} {pos p p2 : Pos}
theorem ty_boot (t : Ty) : bootBuiltins (tyB t) = some (.type (tyName t)) := by
  cases t <;> decide +kernel
theorem tyB_ok (t : Ty) : tyB t ≠ "__name__" ∧ (tyB t == ("__debug__" : Str)) = false := by
  cases t <;> decide +kernel
theorem r_isi {a : Expr} {t : Ty} {ea : Env' → Option D} (hg : Gl X "isinstance") (hm : X.mg "isinstance" = none) (hg2 : Gl X (tyB t)) (hm2 : X.mg (tyB t) = none) (hf : okForm a = true) (ha : PE X a (tB X.K ea)) :
    PE X (.Call (.Name "isinstance" p) [a, .Name (tyB t) p2] [] pos) (tV X.K fun ρ => (ea ρ).bind fun x => (isiD x t).map .bool) := by
  have h2 : PE X (.Name (tyB t) p2) (tC (.ty (tyName t))) := pe_bltn hg2 hm2 (ty_boot t) rfl (tyB_ok t).1 (tyB_ok t).2
  refine pe_imp (pe_callB call_isi hg hm (by decide +kernel) (pa_cons ha (pa_cons h2 pa_nil rfl) (form_star hf)) (by decide +kernel) (by decide +kernel) (form_star hf) rfl) ?_
  rintro σ H Q ⟨ρ, G, d, a, z, q⟩
  obtain ⟨x, h1, h3⟩ := Option.bind_eq_some_iff.mp z
  obtain ⟨b, h4, rfl⟩ := Option.map_eq_some_iff.mp h3
  obtain ⟨n, h5, h6⟩ := isi_kit h4
  exact tB_of a h1 fun G1 H1 v e1 r1 => ⟨v, .ty (tyName t), .type n, .type (tyName t), b, rfl, .ty _, ty_x e1.gh r1 h5, kit_ty h6, q G1 H1 _ e1 (.bl b)⟩
/-! ### methods of texts -/
def meId : Me → String
  | .find1 => "str.find" | .find2 => "str.find" | .isdigit => "str.isdigit" | .join => "str.join" | .split => "str.split"
def SpM (K : PySem.W.Frag) (r : V → List V → Hp → VK → Prop) (f : D → List D → Option D) : Prop :=
  ∀ (G H : Hp) (x : V) (xs : List V) (c : D) (ds : List D) (d : D) (Q : VK), Same G H → RB K G H x c → RBs K G H xs ds → f c ds = some d → After K G H d Q → r x xs H Q
theorem me_str {m : Me} {c d : D} {ds : List D} (h : meD m c ds = some d) : ∃ z, c = .str z := by
  unfold meD at h
  split at h <;> first
    | exact ⟨_, rfl⟩
    | (cases h; done)
theorem call_me (m : Me) : ∃ r, MtR X (meId m) r ∧ SpM X.K r (meD m) := by
  cases m with
  | find1 =>
    refine ⟨_, mt_find, fun G H x xs c ds d Q s hx hs e q => ?_⟩
    unfold meD at e
    split at e <;> first | (cases e; done) | skip
    all_goals (try contradiction)
    cases e
    obtain ⟨y, rfl, g⟩ := rbs1 hs
    exact ⟨_, _, hx.str, by rw [g.str], q.now s (.int _)⟩
  | find2 =>
    refine ⟨_, mt_find3, fun G H x xs c ds d Q s hx hs e q => ?_⟩
    unfold meD at e
    split at e <;> first | (cases e; done) | skip
    all_goals (try contradiction)
    cases e
    obtain ⟨y, w, rfl, g, g2⟩ := rbs2 hs
    exact ⟨_, _, _, hx.str, by rw [g.str, g2.int], q.now s (.int _)⟩
  | isdigit =>
    refine ⟨_, mt_isdigit, fun G H x xs c ds d Q s hx hs e q => ?_⟩
    unfold meD at e
    split at e <;> first | (cases e; done) | skip
    all_goals (try contradiction)
    cases e
    cases hs
    exact ⟨_, hx.str, rfl, trivial, q.now s (.bl _)⟩
  | join =>
    refine ⟨_, mt_join, fun G H x xs c ds d Q s hx hs e q => ?_⟩
    unfold meD at e
    split at e <;> first | (cases e; done) | skip
    all_goals (try contradiction)
    split at e
    · rename_i ys e1
      split at e
      · rename_i hl
        cases e
        obtain ⟨y, rfl, g⟩ := rbs1 hs
        obtain ⟨pp, vs, rfl, g1, g2⟩ := g.list s
        exact ⟨_, pp, ys, hx.str, rfl, .inl (.inl (by rw [← strs_dp g2 e1]; exact g1)), hl, q.now s (.str _)⟩
      · cases e
    · cases e
  | split =>
    refine ⟨_, mt_split, fun G H x xs c ds d Q s hx hs e q => ?_⟩
    unfold meD at e
    split at e <;> first | (cases e; done) | skip
    all_goals (try contradiction)
    split at e
    · rename_i hl
      cases e
      obtain ⟨y, rfl, g⟩ := rbs1 hs
      refine ⟨_, _, hx.str, by rw [g.str], hl.1, hl.2, fun c hc => ?_⟩
      refine q.lst s ?_ hc
      generalize Txt.split _ _ = zs
      clear q hl
      induction zs with
      | nil => exact .nil
      | cons z zs ih => exact .cons (.str z) ih
    · cases e
theorem rd_me {K : PySem.W.Frag} {r : V → List V → Hp → VK → Prop} {m : Me} (sp : SpM K r (meD m)) {ea : Env' → Option D} {evs : Env' → Option (List D)} :
    ∀ σ H Q, tV K (fun ρ => (ea ρ).bind fun x => (evs ρ).bind fun xs => meD m x xs) σ H Q → tBM K "str" r (tB K ea) (tAb K evs) σ H Q := by
  rintro σ H Q ⟨ρ, G, d, a, z, q⟩
  obtain ⟨x, h1, h2⟩ := Option.bind_eq_some_iff.mp z
  obtain ⟨xs, h3, h4⟩ := Option.bind_eq_some_iff.mp h2
  obtain ⟨w, rfl⟩ := me_str h4
  refine tB_of a h1 fun G1 H1 v e1 r1 => ⟨?_, ρ, G1, xs, a.mono e1, h3, fun G2 H2 vs e2 r2 => sp G2 H2 v vs (.str w) xs d Q e2.gh (r1.mono e2) r2 h4 (After.mono (After.mono q e1) e2)⟩
  rw [r1.str]
  exact rfl
theorem rd_me0 {K : PySem.W.Frag} {r : V → List V → Hp → VK → Prop} {m : Me} (sp : SpM K r (meD m)) {ea : Env' → Option D} :
    ∀ σ H Q, tV K (fun ρ => (ea ρ).bind fun x => (some []).bind fun xs => meD m x xs) σ H Q → tBM0 K "str" r (tB K ea) σ H Q := by
  rintro σ H Q ⟨ρ, G, d, a, z, q⟩
  obtain ⟨x, h1, h2⟩ := Option.bind_eq_some_iff.mp z
  obtain ⟨xs, h3, h4⟩ := Option.bind_eq_some_iff.mp h2
  cases h3
  obtain ⟨w, rfl⟩ := me_str h4
  refine tB_of a h1 fun G1 H1 v e1 r1 => ⟨?_, sp G1 H1 v [] (.str w) [] d Q e1.gh r1 .nil h4 (After.mono q e1)⟩
  rw [r1.str]
  exact rfl
theorem base_of {a : Expr} {x : Str} {env : Env} (h : ∀ f args kws q, a ≠ .Call f args kws q) : attributeBase a x env (eval a env) = eval a env := by
  cases a <;> first
    | rfl
    | exact absurd rfl (h _ _ _ _)
theorem base_call {f : Expr} {as : List Expr} {q : Pos} {x : Str} {env : Env} (h : as ≠ []) : attributeBase (.Call f as [] q) x env (eval (.Call f as [] q) env) = eval (.Call f as [] q) env := by
  cases as with
  | nil => exact absurd rfl h
  | cons _ _ => cases f <;> rfl
theorem few_of {e : Expr} {es : List Expr} {env : Env} {q : Pos} (hf : okForms (e :: es) = true) (hl : (e :: es).length < 20) :
    ((backTo q (starEach (e :: es) env)).all (fun x => !x.1) && (backToKw q (keywordEach [] env)).all (fun x => x.1.isSome) && decide ((e :: es).length + ([] : List Keyword).length + (if ([] : List Keyword).isEmpty then 0 else 1) < 30)) = true := by
  rw [forms_all hf]
  have h1 : (backToKw q (keywordEach [] env)).all (fun x => x.1.isSome) = true := rfl
  rw [h1]
  have h2 : (e :: es).length + ([] : List Keyword).length + (if ([] : List Keyword).isEmpty then 0 else 1) < 30 := by
    show (e :: es).length + 0 + 0 < 30
    omega
  rw [decide_eq_true h2]
  rfl
theorem r_met (m : Me) {a e : Expr} {es : List Expr} {ea : Env' → Option D} {evs : Env' → Option (List D)} {apos : Pos} (hm : me0 m = false) (hb : attributeBase a (meName m) X.env (eval a X.env) = eval a X.env) (hf : okForms (e :: es) = true) (hl : (e :: es).length < 20) (hp : (apos.endLine == pos.line) = true)
    (ha : PE X a (tB X.K ea)) (hs : PA X (e :: es) (tAb X.K evs)) : PE X (.Call (.Attribute a (meName m) apos) (e :: es) [] pos) (tV X.K fun ρ => (ea ρ).bind fun x => (evs ρ).bind fun xs => meD m x xs) := by
  obtain ⟨r, h, sp⟩ := call_me (X := X) m
  have hf' := hf
  simp only [okForms, Bool.and_eq_true] at hf'
  cases m with
  | find1 => exact pe_imp (pe_bm PySem.F.plainAttrs_str PySem.F.slot_str_find PySem.F.type_str_find h ha hs hb (few_of hf hl) hp (form_star hf'.1) (forms_star hf'.2)) (rd_me sp)
  | find2 => exact pe_imp (pe_bm PySem.F.plainAttrs_str PySem.F.slot_str_find PySem.F.type_str_find h ha hs hb (few_of hf hl) hp (form_star hf'.1) (forms_star hf'.2)) (rd_me sp)
  | join => exact pe_imp (pe_bm PySem.F.plainAttrs_str PySem.F.slot_str_join PySem.F.type_str_join h ha hs hb (few_of hf hl) hp (form_star hf'.1) (forms_star hf'.2)) (rd_me sp)
  | split => exact pe_imp (pe_bm PySem.F.plainAttrs_str PySem.F.slot_str_split PySem.F.type_str_split h ha hs hb (few_of hf hl) hp (form_star hf'.1) (forms_star hf'.2)) (rd_me sp)
  | isdigit => cases hm
theorem r_met0 (m : Me) {a : Expr} {ea : Env' → Option D} {apos : Pos} (hm : me0 m = true) (hb : attributeBase a (meName m) X.env (eval a X.env) = eval a X.env) (hp : (apos.endLine == pos.line) = true)
    (ha : PE X a (tB X.K ea)) : PE X (.Call (.Attribute a (meName m) apos) [] [] pos) (tV X.K fun ρ => (ea ρ).bind fun x => (some []).bind fun xs => meD m x xs) := by
  obtain ⟨r, h, sp⟩ := call_me (X := X) m
  cases m with
  | isdigit => exact pe_imp (pe_bm0 PySem.F.plainAttrs_str PySem.F.slot_str_isdigit PySem.F.type_str_isdigit h ha hb hp) (rd_me0 sp)
  | _ => cases hm
/-! ### what a for walks -/
theorem wk_list {K : PySem.W.Frag} {G H : Hp} {a : Addr} {vs : List V} {ds : List D} (s : Same G H) (h : SqL K G a vs) (r : RpAll K G vs ds) : Wk K G (Itl K a) ds := by
  have here : ∀ {G2 H2 : Hp}, Same G G2 → Same G2 H2 → SqL K H2 a vs := fun g e => (g.trans e).seq h
  refine ⟨fun i G2 H2 g e hi => ?_, fun i G2 H2 x H3 g e y d hd => ?_, fun i G2 H2 g e hi => ⟨vs, here g e, by rw [dpAll_len r]; exact hi⟩⟩
  · have hi2 : i < vs.length := by rw [dpAll_len r]; exact hi
    exact ⟨vs, vs[i], here g e, List.getElem?_eq_getElem hi2⟩
  · obtain ⟨rfl, y⟩ := y
    obtain ⟨v, h1, h2⟩ := dpAll_get r hd
    have e1 := y vs (here g e)
    rw [h1] at e1
    cases e1
    exact ⟨G2, .refl e, dp_mono g h2⟩
theorem wk_tup {K : PySem.W.Frag} {G H : Hp} {a : Addr} {vs : List V} {ds : List D} (s : Same G H) (h : SqT K G a vs) (r : RpAll K G vs ds) : Wk K G (Itt K a) ds := by
  have here : ∀ {G2 H2 : Hp}, Same G G2 → Same G2 H2 → SqT K H2 a vs := fun g e => seqT_mono (g.trans e) h
  refine ⟨fun i G2 H2 g e hi => ?_, fun i G2 H2 x H3 g e y d hd => ?_, fun i G2 H2 g e hi => ⟨vs, here g e, by rw [dpAll_len r]; exact hi⟩⟩
  · have hi2 : i < vs.length := by rw [dpAll_len r]; exact hi
    exact ⟨vs, vs[i], here g e, List.getElem?_eq_getElem hi2⟩
  · obtain ⟨rfl, y⟩ := y
    obtain ⟨v, h1, h2⟩ := dpAll_get r hd
    have e1 := y vs (here g e)
    rw [h1] at e1
    cases e1
    exact ⟨G2, .refl e, dp_mono g h2⟩
def rngL (lo : Int) (n : Nat) : List D := (List.range n).map fun (k : Nat) => .int (lo + (k : Int))
theorem wk_rng {K : PySem.W.Frag} {G : Hp} (lo : Int) (n : Nat) : Wk K G (Itr lo n) (rngL lo n) := by
  have hl : (rngL lo n).length = n := by unfold rngL; rw [List.length_map, List.length_range]
  refine ⟨fun i G2 H2 g e hi => by rw [hl] at hi; exact hi, fun i G2 H2 x H3 g e y d hd => ?_, fun i G2 H2 g e hi => by rw [hl] at hi; exact hi⟩
  obtain ⟨rfl, rfl⟩ := y
  have hi : i < n := by rw [← hl]; exact (List.getElem?_eq_some_iff.mp hd).1
  unfold rngL at hd
  rw [List.getElem?_map, List.getElem?_range hi] at hd
  cases hd
  exact ⟨G2, .refl e, .int _⟩
/-- a list or a tuple: by its value (a rule for both) -/
def iSeq (K : PySem.W.Frag) (tl : TE) : TI := fun σ H R => tl σ H fun x H1 => ∃ a, x = .ref a ∧ (((∃ xs, SqL K H1 a xs) ∧ R (Itl K a) H1) ∨ ((∃ xs, SqT K H1 a xs) ∧ R (Itt K a) H1))
theorem pi_seq {tg l : Expr} {tl : TE} (hl : PE X l tl) : PI X tg l (iSeq X.K tl) := by
  refine ⟨fun pins s σ H R I h => thn (hl.run pins s σ H _ I h) fun v s1 ⟨x, H1, I1, r1, a, e, q1⟩ => ?_⟩
  subst e
  cases r1
  have nw : ∀ {o : Obj}, Inv X pins σ H1 { s1 with heap := s1.heap.push o } := fun {o} => I1.kept (t' := s1.toks) fun b u z => Heap.get?_push_of_some _ z
  have fp : ∀ b ∈ [s1.heap.objs.size], FpOk X pins H1 b := fun b hb => by
    rw [List.mem_singleton.mp hb]
    exact I1.fpOk (Nat.le_refl _) (I1.hok.fresh (Nat.le_refl _))
  rcases q1 with ⟨⟨xs, hq⟩, q⟩ | ⟨⟨xs, hq⟩, q⟩
  · obtain ⟨us, _, pl, _⟩ := I1.list hq
    exact wpAny_pyIter_list pl.isList ⟨_, [_], _, _, H1, rfl, nw, turn_list a _, ⟨_, Heap.get?_push_size _ rfl, rfl, rfl⟩, fp, q⟩
  · obtain ⟨us, _, pl, _⟩ := I1.tuple hq
    exact wpAny_pyIter_tuple (show s1.heap.IsTuple a us.toArray from pl) ⟨_, [_], _, _, H1, rfl, nw, turn_tuple a _, ⟨_, Heap.get?_push_size _ rfl, rfl, rfl⟩, fp, q⟩
theorem r_over {tg e : Expr} {ev : Env' → Option D} (h : PE X e (tV X.K ev)) : PI X tg e (tI X.K fun ρ => (ev ρ).bind asL) := by
  refine pi_imp (pi_seq h) ?_
  rintro σ H R ⟨ρ, G, ds, a, z, q⟩
  obtain ⟨d, h1, h2⟩ := Option.bind_eq_some_iff.mp z
  refine tV_of a h1 fun G1 H1 v e1 r1 => ?_
  rcases asL_some h2 with rfl | rfl | rfl
  · cases r1 with
    | kls g r => exact ⟨_, rfl, .inl ⟨⟨_, e1.gh.seq g⟩, q G1 H1 _ e1 (wk_list e1.gh g r)⟩⟩
  · cases r1 with
    | lst g r => exact ⟨_, rfl, .inl ⟨⟨_, .inl (rd_mono e1.gh g)⟩, q G1 H1 _ e1 (wk_list e1.gh (.inl g) r)⟩⟩
  · cases r1 with
    | tup g r => exact ⟨_, rfl, .inr ⟨⟨_, seqT_mono e1.gh g⟩, q G1 H1 _ e1 (wk_tup e1.gh g r)⟩⟩
theorem wk_str {K : PySem.W.Frag} {G : Hp} (z : Str) : Wk K G (Its z) (z.cps.toList.map fun c => .str ⟨#[c]⟩) := by
  have hl : (z.cps.toList.map fun c => (.str ⟨#[c]⟩ : D)).length = z.cps.size := by rw [List.length_map, Array.length_toList]
  refine ⟨fun i G2 H2 g e hi => by rw [hl] at hi; exact hi, fun i G2 H2 x H3 g e y d hd => ?_, fun i G2 H2 g e hi => by rw [hl] at hi; exact hi⟩
  obtain ⟨rfl, c, hc, rfl⟩ := y
  rw [List.getElem?_map, Array.getElem?_toList, hc] at hd
  cases hd
  exact ⟨G2, .refl e, .str _⟩
theorem r_ovs {tg e : Expr} {ev : Env' → Option D} (h : PE X e (tV X.K ev)) : PI X tg e (tI X.K fun ρ => (ev ρ).bind asC) := by
  refine pi_imp (pi_str h) ?_
  rintro σ H R ⟨ρ, G, ds, a, z, q⟩
  obtain ⟨d, h1, h2⟩ := Option.bind_eq_some_iff.mp z
  refine tV_of a h1 fun G1 H1 v e1 r1 => ?_
  cases d <;> simp only [asC] at h2 <;> first
    | (cases h2; done)
    | skip
  cases h2
  cases r1
  exact ⟨_, rfl, q G1 H1 _ e1 (wk_str _)⟩
theorem rngD_some {lo hi : Int} {ds : List D} (h : rngD lo hi = some ds) : (-(2 ^ 62) ≤ lo ∧ lo < 2 ^ 62 ∧ -(2 ^ 62) ≤ hi ∧ hi < 2 ^ 62) ∧ ds = rngL lo (hi - lo).toNat := by
  unfold rngD at h
  split at h
  · rename_i z
    exact ⟨z, (Option.some.inj h).symm⟩
  · cases h
theorem r_rng1 {tg a : Expr} {ea : Env' → Option D} (hg : Gl X "range") (hm : X.mg "range" = none) (hf : okForm a = true) (ha : PE X a (tB X.K ea)) :
    PI X tg (.Call (.Name "range" p) [a] [] pos) (tI X.K fun ρ => (ea ρ).bind fun x => (asI x).bind fun j => rngD 0 j) := by
  refine pi_imp (pi_range1 hg hm (pa_cons ha pa_nil (form_star hf)) (form_star hf)) ?_
  rintro σ H R ⟨ρ, G, ds, a, z, q⟩
  obtain ⟨x, h1, h2⟩ := Option.bind_eq_some_iff.mp z
  obtain ⟨j, h3, h4⟩ := Option.bind_eq_some_iff.mp h2
  cases asI_some h3
  obtain ⟨⟨_, _, b1, b2⟩, rfl⟩ := rngD_some h4
  refine tB_of a h1 fun G1 H1 v e1 r1 => ⟨j, by rw [r1.int], b1, b2, q G1 H1 _ e1 ?_⟩
  rw [Int.sub_zero]
  exact wk_rng 0 j.toNat
theorem r_rng2 {tg a b : Expr} {ea eb : Env' → Option D} (hg : Gl X "range") (hm : X.mg "range" = none) (hf : okForm a = true) (hf2 : okForm b = true) (ha : PE X a (tB X.K ea)) (hb : PE X b (tB X.K eb)) :
    PI X tg (.Call (.Name "range" p) [a, b] [] pos) (tI X.K fun ρ => (ea ρ).bind fun x => (eb ρ).bind fun y => (asI x).bind fun i => (asI y).bind fun j => rngD i j) := by
  have s2 : starEach [b] X.env = [(false, eval b X.env)] := form_star hf2
  have s1 : starEach [a, b] X.env = [(false, eval a X.env), (false, eval b X.env)] := by rw [form_star hf, s2]
  refine pi_imp (pi_range2 hg hm (pa_cons ha (pa_cons hb pa_nil s2) (form_star hf)) s1 s2) ?_
  rintro σ H R ⟨ρ, G, ds, a, z, q⟩
  obtain ⟨x, h1, h2⟩ := Option.bind_eq_some_iff.mp z
  obtain ⟨y, h3, h4⟩ := Option.bind_eq_some_iff.mp h2
  obtain ⟨i, h5, h6⟩ := Option.bind_eq_some_iff.mp h4
  obtain ⟨j, h7, h8⟩ := Option.bind_eq_some_iff.mp h6
  cases asI_some h5
  cases asI_some h7
  obtain ⟨⟨b1, b2, b3, b4⟩, rfl⟩ := rngD_some h8
  exact tB_of a h1 fun G1 H1 v e1 r1 => tB_of (a.mono e1) h3 fun G2 H2 w e2 r2 => ⟨i, j, by rw [r1.int, r2.int], ⟨b1, b2, b3, b4⟩, q G2 H2 _ (e1.trans e2) (wk_rng i _)⟩
/-! ### a comprehension -/
theorem comp_some {f : D → Option (Option D)} {d : D} {ds xs : List D} (h : compD f (d :: ds) = some xs) : (∃ x ys, f d = some (some x) ∧ compD f ds = some ys ∧ xs = x :: ys) ∨ (f d = some none ∧ compD f ds = some xs) := by
  unfold compD at h
  split at h
  · rename_i x e
    obtain ⟨ys, h1, h2⟩ := Option.map_eq_some_iff.mp h
    exact .inl ⟨x, ys, e, h1, h2.symm⟩
  · rename_i e
    exact .inr ⟨e, h⟩
  · cases h
/-- .. and what makes a new list -/
def tN (K : PySem.W.Frag) (ev : Env' → Option (List D)) : TE := fun σ H Q => ∃ ρ G ds, At K ρ σ G H ∧ ev ρ = some ds ∧ ∀ G' H' a vs, Ext G H G' H' → H' a = some (.lst vs) → RpAll K G' vs ds → G' a = none → H a = none → Q (.ref a) H'
theorem tN_of {K : PySem.W.Frag} {ev : Env' → Option (List D)} {ev' : Env' → Option D} (he : ∀ ρ d, ev' ρ = some d → ∃ xs, ev ρ = some xs ∧ d = .list xs) : ∀ σ H Q, tV K ev' σ H Q → tN K ev σ H Q := by
  rintro σ H Q ⟨ρ, G, d, a, z, q⟩
  obtain ⟨xs, h1, rfl⟩ := he ρ d z
  refine ⟨ρ, G, xs, a, h1, fun G' H' b vs e h2 h3 h4 h5 => ?_⟩
  obtain ⟨ex, rp⟩ := freeze e h2 h3 h4 h5
  exact q _ H' _ ex rp
/-- the list that a comprehension makes -/
def compL (ei : Env' → Option (List D)) (ec : Env' → Option Bool) (ee : Env' → Option D) (i : Nat) (ρ : Env') : Option (List D) := (ei ρ).bind fun ds => (compD (fun d =>
      (ec ((ρ.set i none).set i (some (false, d)))).bind fun t => if t = true then (ee ((ρ.set i none).set i (some (false, d)))).map some else some none) ds).bind fun xs => if xs.length < sizeLine then some xs else none
theorem rd_comp {K : PySem.W.Frag} {x : Str} {i : Nat} {ei : Env' → Option (List D)} {ec : Env' → Option Bool} {ee : Env' → Option D} :
    ∀ σ H Q, tN K (compL ei ec ee i) σ H Q → tLc (tI K ei) (gName i) (tT K ec) (tV K ee) ([(x, i)].map (·.2)) σ H Q := by
  rintro σ H Q ⟨ρ, G, xs, a, z, q⟩
  obtain ⟨ds, h1, h2⟩ := Option.bind_eq_some_iff.mp z
  obtain ⟨xs', h3, h4⟩ := Option.bind_eq_some_iff.mp h2
  by_cases hlen : xs'.length < sizeLine
  case neg =>
    rw [if_neg hlen] at h4
    cases h4
  rw [if_pos hlen] at h4
  cases h4
  obtain ⟨G0, H0, st⟩ := a.ex
  refine ⟨ρ, G, ds, a, h1, fun G1 H1 J e1 wk => ?_⟩
  intro L hL
  have hHL : H L = none := e1.hh.free hL
  have hGL : G1 L = none := e1.gh.free hL
  generalize hf : (fun d => (ec ((ρ.set i none).set i (some (false, d)))).bind fun t => if t = true then (ee ((ρ.set i none).set i (some (false, d)))).map some else some none) = f at h3
  -- k turns are made; what is made so far; what is to come
  refine ⟨fun k m H2 => m = ds.length - k ∧ k ≤ ds.length ∧ ∃ G2 acc ad rest, StOk K G0 H0 (ρ.set i none) (wipe σ [i]) G2 H2 ∧ Ext G H G2 H2 ∧ Same G1 G2 ∧ H2 L = some (.lst acc) ∧ RpAll K G2 acc ad ∧ G2 L = none ∧ compD f (ds.drop k) = some rest ∧ ad ++ rest = xs,
    ⟨ds.length, by omega, Nat.zero_le _, G1, [], [], xs, ?_, e1.trans (.own e1.gh hL), Same.refl _, upd_same, .nil, hGL, by rw [List.drop_zero]; exact h3, rfl⟩, ?_⟩
  · exact ((st.mono e1).wipe i none).mono (.own e1.gh hL)
  rintro k m H2 ⟨rfl, hk2, G2, acc, ad, rest, st2, ex2, g12, hA, hR, hG2, hc2, hx2⟩
  by_cases hlt : k < ds.length
  · refine .inr ⟨wk.go k G2 H2 g12 st2.same hlt, fun H' => k + 1 ≤ ds.length ∧ ∃ G2 acc ad rest, StOk K G0 H0 (ρ.set i none) (wipe σ [i]) G2 H' ∧ Ext G H G2 H' ∧ Same G1 G2 ∧ H' L = some (.lst acc) ∧ RpAll K G2 acc ad ∧ G2 L = none ∧ compD f (ds.drop (k + 1)) = some rest ∧ ad ++ rest = xs,
      fun H' hN' => ⟨ds.length - (k + 1), by omega, rfl, hN'⟩, fun v H3 hy => ?_⟩
    obtain ⟨G3, e3, r3⟩ := wk.yld k G2 H2 v H3 g12 st2.same hy ds[k] (List.getElem?_eq_getElem hlt)
    have st3 := st2.mono e3
    have hdrop : ds.drop k = ds[k] :: ds.drop (k + 1) := List.drop_eq_getElem_cons hlt
    rw [hdrop] at hc2
    have st4 := st3.setS i r3
    have w1 : wipe ((wipe σ [i]).set i (some v)) [i] = wipe σ [i] := by
      show ((σ.set i none).set i (some v)).set i none = σ.set i none
      rw [List.set_set, List.set_set]
    refine ⟨w1, ?_⟩
    have A4 : At K ((ρ.set i none).set i (some (false, ds[k]))) ((wipe σ [i]).set i (some v)) G3 H3 := ⟨_, _, st4⟩
    have key : ∃ t, ec ((ρ.set i none).set i (some (false, ds[k]))) = some t ∧ ((t = false ∧ compD f (ds.drop (k + 1)) = some rest) ∨ (t = true ∧ ∃ y ys, ee ((ρ.set i none).set i (some (false, ds[k]))) = some y ∧ compD f (ds.drop (k + 1)) = some ys ∧ rest = y :: ys)) := by
      rcases comp_some hc2 with ⟨y, ys, f1, f2, f3⟩ | ⟨f1, f2⟩
      · rw [← hf] at f1
        obtain ⟨t, g1, g2⟩ := Option.bind_eq_some_iff.mp f1
        cases t with
        | false =>
          rw [if_neg Bool.false_ne_true] at g2
          cases g2
        | true =>
          rw [if_pos rfl] at g2
          obtain ⟨y2, g3, g4⟩ := Option.map_eq_some_iff.mp g2
          have g5 := Option.some.inj g4
          subst g5
          exact ⟨true, g1, .inr ⟨rfl, _, ys, g3, f2, f3⟩⟩
      · rw [← hf] at f1
        obtain ⟨t, g1, g2⟩ := Option.bind_eq_some_iff.mp f1
        cases t with
        | false => exact ⟨false, g1, .inl ⟨rfl, f2⟩⟩
        | true =>
          rw [if_pos rfl] at g2
          obtain ⟨y', g3, g4⟩ := Option.map_eq_some_iff.mp g2
          cases g4
    obtain ⟨t, ht1, ht2⟩ := key
    refine ⟨_, G3, t, A4, ht1, fun G5 H5 e5 => ?_⟩
    rcases ht2 with ⟨rfl, ht3⟩ | ⟨rfl, y, ys, ht3, ht4, ht5⟩
    · rw [if_neg Bool.false_ne_true]
      have e35 := e3.trans e5
      exact ⟨hlt, G5, acc, ad, rest, st2.mono e35, ex2.trans e35, g12.trans e35.gg, e35.hh _ _ hA, dpAll_mono e35.gg hR, e35.fr _ _ hA hG2, ht3, hx2⟩
    · rw [if_pos rfl]
      refine tV_of (A4.mono e5) ht3 fun G6 H6 w e6 r6 => ?_
      have e36 := (e3.trans e5).trans e6
      have stL : H6 L = some (.lst acc) := e36.hh _ _ hA
      have gL : G6 L = none := e36.fr _ _ hA hG2
      have lenA : acc.length < sizeLine := by
        rw [dpAll_len hR]
        have : ad.length + rest.length = xs.length := by rw [← List.length_append, hx2]
        omega
      refine ⟨acc, stL, lenA, hlt, G6, acc ++ [w], ad ++ [y], ys, ?_, ?_, g12.trans e36.gg, upd_same, dpAll_append (dpAll_mono e36.gg hR) (.cons r6 .nil), gL, ht4, by rw [List.append_assoc, List.singleton_append, ← ht5]; exact hx2⟩
      · have st6 := st2.mono e36
        have h0L : H0 L = none := (st.ext.hh).free hHL
        refine ⟨⟨st6.ext.gg, fun b o e => ?_, fun b o e => ?_, st6.ext.fr⟩, st6.len, st6.sh, fun j f' hj => ?_, st6.sep⟩
        · rw [upd_ne (ne_of_none e gL)]
          exact st6.ext.gh _ _ e
        · rw [upd_ne (ne_of_none e h0L)]
          exact st6.ext.hh _ _ e
        · obtain ⟨b, us, fs, j1, j2, j3, j4⟩ := st6.ow j f' hj
          refine ⟨b, us, fs, j1, j2, ?_, j4⟩
          rw [upd_ne]
          · exact j3
          · intro e
            subst e
            obtain ⟨b2, _, _, _, k2, k3, _⟩ := (st.wipe i none).ow j f' hj
            have e2 : σ.set i none = wipe σ [i] := rfl
            rw [e2, j2] at k2
            cases k2
            rw [hHL] at k3
            cases k3
      · have ex6 := ex2.trans e36
        refine ⟨ex6.gg, fun b o e => ?_, fun b o e => ?_, ex6.fr⟩
        · rw [upd_ne (ne_of_none e gL)]
          exact ex6.gh _ _ e
        · rw [upd_ne (ne_of_none e hHL)]
          exact ex6.hh _ _ e
  · have ek : k = ds.length := by omega
    subst ek
    refine .inl ⟨wk.stop _ G2 H2 g12 st2.same (Nat.le_refl _), ?_⟩
    rw [List.drop_length] at hc2
    cases hc2
    rw [List.append_nil] at hx2
    subst hx2
    exact q G2 H2 L acc ex2 hA hR hG2 hHL
theorem comp_pg {X : Cx} {x : Str} {i : Nat} {scope : Scope} {px : Pos} (hN : X.N.Nodup) (hx : X.N[i]? = some x) (hk : (relS scope X.env.scope).names.lookup x = some .local) :
    ∀ (s : Shared) (H : Hp) (C : Addr) (cl : List (Str × Addr)) (fp : List Addr), PG (X.blk s H scope (compEnvC scope cl C X.env) fp) (.Name x px) (gName i) := fun s H C cl fp =>
    pg_name hN hx (.inl hk) (.inr hk)
theorem r_compN {elt iter : Expr} {x : Str} {i : Nat} {ifs : List Expr} {scope : Scope} {px : Pos} {ei : Env' → Option (List D)} {ec : Env' → Option Bool} {ee : Env' → Option D}
    (hc : X.calm = true) (hN : X.N.Nodup) (hx : X.N[i]? = some x) (hk : (relS scope X.env.scope).names.lookup x = some .local) (ok : BlkOk X.N X.env.scope scope [(x, i)]) (hset : ∀ y, foldedSetIterable iter X.env y = pure y)
    (hi : PI X (.Name x px) iter (tI X.K ei))
    (ht : ∀ (s : Shared) (H : Hp) (C : Addr) (cl : List (Str × Addr)) (fp : List Addr), PTs (X.blk s H scope (compEnvC scope cl C X.env) fp) ifs (tT X.K ec))
    (he : ∀ (s : Shared) (H : Hp) (C : Addr) (cl : List (Str × Addr)) (fp : List Addr), PE (X.blk s H scope (compEnvC scope cl C X.env) fp) elt (tV X.K ee)) :
    PE X (.ListComp elt [⟨.Name x px, iter, ifs, 0⟩] scope pos) (tN X.K (compL ei ec ee i)) :=
  pe_imp (pe_lc (own := [(x, i)]) hc hN hi ok (comp_pg hN hx hk) ht he hset) rd_comp
theorem r_comp {elt iter : Expr} {x : Str} {i : Nat} {ifs : List Expr} {scope : Scope} {px : Pos} {ei : Env' → Option (List D)} {ec : Env' → Option Bool} {ee : Env' → Option D}
    (hc : X.calm = true) (hN : X.N.Nodup) (hx : X.N[i]? = some x) (hk : (relS scope X.env.scope).names.lookup x = some .local) (ok : BlkOk X.N X.env.scope scope [(x, i)]) (hset : ∀ y, foldedSetIterable iter X.env y = pure y)
    (hi : PI X (.Name x px) iter (tI X.K ei))
    (ht : ∀ (s : Shared) (H : Hp) (C : Addr) (cl : List (Str × Addr)) (fp : List Addr), PTs (X.blk s H scope (compEnvC scope cl C X.env) fp) ifs (tT X.K ec))
    (he : ∀ (s : Shared) (H : Hp) (C : Addr) (cl : List (Str × Addr)) (fp : List Addr), PE (X.blk s H scope (compEnvC scope cl C X.env) fp) elt (tV X.K ee)) :
    PE X (.ListComp elt [⟨.Name x px, iter, ifs, 0⟩] scope pos) (tV X.K fun ρ => (compL ei ec ee i ρ).map .list) :=
  pe_imp (r_compN hc hN hx hk ok hset hi ht he) (tN_of fun ρ d z => let ⟨xs, h1, h2⟩ := Option.map_eq_some_iff.mp z; ⟨xs, h1, h2.symm⟩)
end
end Ev
end
section
/-! Ev9: what a term is worth, the text does: all terms. -/
namespace Ev
open PySem PySem.Spec L2

/-- names that must stand for the built-in ones -/
def bltNames : List Str := ["abs", "int", "len", "max", "min", "str", "tuple", "list", "all", "any", "isinstance", "bool", "range"]
structure Wd (N fns gls : List Str) (gs : Nat → Option D) (cf : Cf) (X : Cx) : Prop where
  hN : X.N = N
  nd : X.N.Nodup
  calm : X.calm = true
  un : X.A.units + 64 < cLine
  blt : ∀ x ∈ bltNames, X.mg x = none
  call : ∀ (f : Nat) (x : Str), fns[f]? = some x → CallOk X x (cf f)
  gl : ∀ (k : Nat) (x : Str) (d : D), gls[k]? = some x → gs k = some d → ∃ (u : Value) (v : V), X.mg x = some u ∧ RelV v u ∧ ∀ G, Rp X.K G v d
section
variable {N fns gls : List Str} {gs : Nat → Option D} {cf : Cf}
theorem Wd.blk {X : Cx} (W : Wd N fns gls gs cf X) (s : Shared) (H : Hp) (scope : Scope) (cenv : Env) (fp : List Addr) : Wd N fns gls gs cf (X.blk s H scope cenv fp) :=
  ⟨W.hN, W.nd, W.calm, W.un, W.blt, W.call, W.gl⟩
theorem blt_bi (b : Bi) : biName b ∈ bltNames := by
  cases b <;> decide +kernel
theorem blt_ty (t : Ty) : tyB t ∈ bltNames := by
  cases t <;> decide +kernel
theorem vis_of {sc : Scope} {x : Str} (h : visB sc x = true) : Vis sc x := by
  unfold visB kindB at h
  simp only [Bool.or_eq_true, decide_eq_true_eq] at h
  exact h
theorem loc_of {sc : Scope} {x : Str} (h : locB sc x = true) : Loc sc x := by
  unfold locB kindB at h
  simp only [Bool.or_eq_true, decide_eq_true_eq] at h
  exact h
theorem gl_of {X : Cx} {x : Str} (h : glB X.env.scope x = true) : Gl X x ∧ (x == ("__debug__" : Str)) = false := by
  unfold glB kindB at h
  simp only [Bool.and_eq_true, decide_eq_true_eq, Bool.not_eq_true'] at h
  exact h
theorem name_of {X : Cx} {x : Str} {f : Expr} (h : nameIs X.env.scope x f = true) : ∃ q, f = .Name x q ∧ Gl X x := by
  cases f <;> simp only [nameIs] at h <;> first
    | (cases h; done)
    | skip
  simp only [Bool.and_eq_true] at h
  obtain ⟨h1, h2⟩ := h
  have e := eq_of_beq h1
  subst e
  exact ⟨_, rfl, (gl_of h2).1⟩
theorem o2_of {X : Cx} {o : O2} {op : Operator} (h : o2B o op = true) : Op X (binaryOp op) (binD o) := by
  cases o <;> cases op <;> first
    | (cases h; done)
    | exact o_add
    | exact o_sub
    | exact o_mul
    | exact o_div
    | exact o_mod
    | exact o_pow
theorem co_of {X : Cx} (hu : X.A.units + 64 < cLine) {o : CO} {op : CmpOp} (h : coB o op = true) : Op X (compareOp op) (cmpD o) := by
  cases o <;> cases op <;> first
    | (cases h; done)
    | exact o_lt
    | exact o_le
    | exact o_gt
    | exact o_ge
    | exact o_eq hu
    | exact o_ne hu
    | exact o_is
    | exact o_isnot
    | exact o_in
    | exact o_nin
theorem var_of {X : Cx} (W : Wd N fns gls gs cf X) {i : Nat} {a : Expr} (h : varB N X.env.scope i a = true) : ∃ x q, a = .Name x q ∧ X.N[i]? = some x ∧ Vis X.env.scope x ∧ (x == ("__debug__" : Str)) = false ∧ (x == ("__classdict__" : Str)) = false := by
  cases a <;> simp only [varB] at h <;> first
    | (cases h; done)
    | skip
  simp only [Bool.and_eq_true, decide_eq_true_eq, Bool.not_eq_true'] at h
  exact ⟨_, _, rfl, by rw [W.hN]; exact h.1, vis_of h.2.1, h.2.2.1, h.2.2.2⟩
/-- what holds of a term: for all to read (but a bare list of this frame), as a test -/
structure EOk (gs : Nat → Option D) (cf : Cf) (X : Cx) (e : E) (a : Expr) : Prop where
  v : nb e = true → PE X a (tV X.K fun ρ => evE gs cf e ρ)
  b : PE X a (tB X.K fun ρ => evE gs cf e ρ)
  t : tb e = true → PT X a (tT X.K fun ρ => (evE gs cf e ρ).bind asB)
theorem EOk.of {X : Cx} {e : E} {a : Expr} (h : PE X a (tV X.K fun ρ => evE gs cf e ρ)) (t : PT X a (tT X.K fun ρ => (evE gs cf e ρ).bind asB)) : EOk gs cf X e a := ⟨fun _ => h, weak h, fun _ => t⟩
theorem EOk.plain {X : Cx} {e : E} {a : Expr} (h : PE X a (tV X.K fun ρ => evE gs cf e ρ)) (t : ∀ whole, isTrue a X.env whole = (do let v ← whole; standAt a.pos; holding [v] (truthy v))) : EOk gs cf X e a := .of h (pt_plain h t)
/-- of the tests of a chain: not asked as a test here -/
theorem rt_chain {X : Cx} {pos : Pos} {a b c : Expr} {op op' : CmpOp} {f g : D → D → Option D} {ea eb ec : Env' → Option D} (o : Op X (compareOp op) f) (o' : Op X (compareOp op') g) (hm : behindInMarks op' c = false)
    (ha : PE X a (tB X.K ea)) (hb : PE X b (tB X.K eb)) (hc : PE X c (tB X.K ec)) :
    PT X (.Compare a [op, op'] [b, c] pos) (tT X.K fun ρ => ((ea ρ).bind fun x => (eb ρ).bind fun y => (f x y).bind fun k => (asB k).bind fun t => if t = true then (ec ρ).bind fun z => g y z else some (PyData.bool false)).bind asB) := by
  obtain ⟨r, h, sp⟩ := o.ex
  obtain ⟨r', h', sp'⟩ := o'.ex
  refine pt_imp (pt_chain h h' ha hb hc hm) ?_
  rintro σ H Q ⟨ρ, G, c, a, z, q⟩
  obtain ⟨d, h1, h2⟩ := Option.bind_eq_some_iff.mp z
  refine rd_chain sp sp' σ H _ ⟨ρ, G, d, a, h1, fun G' H' v x rp => ?_⟩
  cases asB_some h2
  cases rp
  exact ⟨c, rfl, q G' H' x⟩
/-- the lists of and, or -/
structure BOk (gs : Nat → Option D) (cf : Cf) (X : Cx) (es : Es) (l : List Expr) : Prop where
  av : ∀ pos, l ≠ [] → PE X (.BoolOp .And l pos) (tV X.K fun ρ => evAnd gs cf es ρ)
  ov : ∀ pos, l ≠ [] → PE X (.BoolOp .Or l pos) (tV X.K fun ρ => evOr gs cf es ρ)
  at_ : ∀ pos, l ≠ [] → PW X (.BoolOp .And l pos) (tT X.K fun ρ => (evAnd gs cf es ρ).bind asB)
  ot : ∀ pos, l ≠ [] → PW X (.BoolOp .Or l pos) (tT X.K fun ρ => (evOr gs cf es ρ).bind asB)
structure AOk (gs : Nat → Option D) (cf : Cf) (X : Cx) (es : Es) (l : List Expr) : Prop where
  v : nbs es = true → PA X l (tAv X.K fun ρ => evEs gs cf es ρ)
  b : PA X l (tAb X.K fun ρ => evEs gs cf es ρ)
  bo : tbs es = true → BOk gs cf X es l
theorem base_chk {X : Cx} {e : E} {a : Expr} {x : Str} (h : chkE N fns gls e a X.env.scope = true) (hn : notC0 e = true) : attributeBase a x X.env (eval a X.env) = eval a X.env := by
  by_cases hc : ∃ f args kws q, a = .Call f args kws q
  · obtain ⟨f, args, kws, q, rfl⟩ := hc
    cases args with
    | cons y ys => cases kws <;> cases f <;> rfl
    | nil =>
      cases kws with
      | cons _ _ => cases f <;> rfl
      | nil =>
        cases f <;> first
          | rfl
          | (cases e <;> first | (simp [notC0] at hn; done) | (simp [chkE, varB] at h))
  · exact base_of fun f args kws q e => hc ⟨f, args, kws, q, e⟩
theorem chkI_set {X : Cx} {it : Ev.It} {a : Expr} (h : chkI N fns gls it a X.env.scope = true) : ∀ y, foldedSetIterable a X.env y = pure y := by
  cases it with
  | over e =>
    simp only [chkI, Bool.and_eq_true] at h
    exact form_set (chk_form h.2)
  | ovs e =>
    simp only [chkI, Bool.and_eq_true] at h
    exact form_set (chk_form h.2)
  | rng1 e =>
    simp only [chkI] at h
    split at h <;> first
      | (cases h; done)
      | exact fun _ => rfl
  | rng2 e f =>
    simp only [chkI] at h
    split at h <;> first
      | (cases h; done)
      | exact fun _ => rfl
mutual
theorem soundE : ∀ (e : E) {X : Cx} {a : Expr}, Wd N fns gls gs cf X → chkE N fns gls e a X.env.scope = true → EOk gs cf X e a
  | .var i, X, a, W, h => by
    obtain ⟨x, q, rfl, h1, h2, h3, h4⟩ := var_of W (by simpa only [chkE] using h)
    have := r_var (X := X) (pos := q) h1 h2 h3 h4
    exact .plain (by simpa only [evE] using this) fun _ => rfl
  | .bor i, X, a, W, h => by
    obtain ⟨x, q, rfl, h1, h2, h3, h4⟩ := var_of W (by simpa only [chkE] using h)
    have := r_bor (X := X) (pos := q) h1 h2 h3 h4
    exact ⟨fun z => by simp [nb] at z, by simpa only [evE] using this, fun z => by simp [tb] at z⟩
  | .int i, X, a, W, h => by
    simp only [chkE] at h
    split at h <;> first
      | (cases h; done)
      | skip
    cases of_decide_eq_true h
    exact .plain (by simpa only [evE] using r_con pe_int fun G => Rp.int _) fun _ => rfl
  | .str x, X, a, W, h => by
    simp only [chkE] at h
    split at h <;> first
      | (cases h; done)
      | skip
    cases of_decide_eq_true h
    exact .plain (by simpa only [evE] using r_con pe_str fun G => Rp.str _) fun _ => rfl
  | .bl b, X, a, W, h => by
    simp only [chkE] at h
    split at h <;> first
      | (cases h; done)
      | skip
    cases eq_of_beq h
    exact .plain (by simpa only [evE] using r_con pe_bl fun G => Rp.bl _) fun _ => rfl
  | .non, X, a, W, h => by
    simp only [chkE] at h
    split at h <;> first
      | (cases h; done)
      | skip
    exact .plain (by simpa only [evE] using r_con pe_non fun G => Rp.non) fun _ => rfl
  | .glo k, X, a, W, h => by
    simp only [chkE] at h
    split at h <;> first
      | (cases h; done)
      | skip
    rename_i x q
    simp only [Bool.and_eq_true, decide_eq_true_eq] at h
    obtain ⟨g1, g2⟩ := gl_of h.2
    refine .plain ?_ fun _ => rfl
    simp only [evE]
    cases hk : gs k with
    | none => exact pe_none fun _ => rfl
    | some d =>
      obtain ⟨u, v, m1, m2, m3⟩ := W.gl k x d h.1 hk
      exact r_con (pe_glob g1 m1 m2 g2) m3
  | .bin o a b, X, e, W, h => by
    simp only [chkE] at h
    split at h <;> first
      | (cases h; done)
      | skip
    simp only [Bool.and_eq_true] at h
    exact .plain (by simpa only [evE] using pe_bin (o2_of h.1) (soundE a W h.2.1).b (soundE b W h.2.2).b) fun _ => rfl
  | .neg a, X, e, W, h => by
    simp only [chkE] at h
    split at h <;> first
      | (cases h; done)
      | skip
    exact .plain (by simpa only [evE] using r_neg (soundE a W h).b) fun _ => rfl
  | .not a, X, e, W, h => by
    simp only [chkE] at h
    split at h <;> first
      | (cases h; done)
      | skip
    simp only [Bool.and_eq_true] at h
    exact .of (by simpa only [evE] using r_not (soundE a W h.2).b) (by simpa only [evE] using rt_not ((soundE a W h.2).t h.1))
  | .cmp o a b, X, e, W, h => by
    simp only [chkE] at h
    split at h <;> first
      | (cases h; done)
      | skip
    simp only [Bool.and_eq_true] at h
    exact .of (by simpa only [evE] using pe_cmp1 (co_of W.un h.1) (form_marks (chk_form h.2.2)) (soundE a W h.2.1).b (soundE b W h.2.2).b) (by simpa only [evE] using pt_cmp1 (co_of W.un h.1) (form_marks (chk_form h.2.2)) (soundE a W h.2.1).b (soundE b W h.2.2).b)
  | .chain o p a b c, X, e, W, h => by
    simp only [chkE] at h
    split at h <;> first
      | (cases h; done)
      | skip
    simp only [Bool.and_eq_true] at h
    obtain ⟨h1, h2, h3, h4, h5⟩ := h
    exact .of (by simpa only [evE] using r_chain (co_of W.un h1) (co_of W.un h2) (form_marks (chk_form h5)) (soundE a W h3).b (soundE b W h4).b (soundE c W h5).b) (by simpa only [evE] using rt_chain (co_of W.un h1) (co_of W.un h2) (form_marks (chk_form h5)) (soundE a W h3).b (soundE b W h4).b (soundE c W h5).b)
  | .and es, X, e, W, h => by
    simp only [chkE] at h
    split at h <;> first
      | (cases h; done)
      | skip
    simp only [Bool.and_eq_true, Bool.not_eq_true'] at h
    have B := (soundEs es W h.2.2).bo h.2.1
    have hne : ∀ {l : List Expr}, l.isEmpty = false → l ≠ [] := fun z z2 => by subst z2; cases z
    exact .of (by simpa only [evE] using B.av _ (hne h.1)) (by simpa only [evE] using (B.at_ _ (hne h.1)).pt)
  | .or es, X, e, W, h => by
    simp only [chkE] at h
    split at h <;> first
      | (cases h; done)
      | skip
    simp only [Bool.and_eq_true, Bool.not_eq_true'] at h
    have B := (soundEs es W h.2.2).bo h.2.1
    have hne : ∀ {l : List Expr}, l.isEmpty = false → l ≠ [] := fun z z2 => by subst z2; cases z
    exact .of (by simpa only [evE] using B.ov _ (hne h.1)) (by simpa only [evE] using (B.ot _ (hne h.1)).pt)
  | .ife c a b, X, e, W, h => by
    simp only [chkE] at h
    split at h <;> first
      | (cases h; done)
      | skip
    simp only [Bool.and_eq_true] at h
    obtain ⟨⟨h1, h2, h3⟩, h4, h5, h6⟩ := h
    rename_i l m r q
    have v : PE X (.IfExp l m r q) (tV X.K fun ρ => evE gs cf (.ife c a b) ρ) := by
      simpa only [evE] using r_ife ((soundE c W h4).t h1) ((soundE a W h5).v h2) ((soundE b W h6).v h3)
    exact ⟨fun _ => v, weak v, fun z => by simp [tb] at z⟩
  | .tup es, X, e, W, h => by
    simp only [chkE] at h
    split at h <;> first
      | (cases h; done)
      | skip
    simp only [Bool.and_eq_true] at h
    exact .plain (by simpa only [evE] using r_tup ((soundEs es W h.2).v h.1)) fun _ => rfl
  | .lst es, X, e, W, h => by
    simp only [chkE] at h
    split at h <;> first
      | (cases h; done)
      | skip
    simp only [Bool.and_eq_true] at h
    exact .plain (by simpa only [evE] using r_lst ((soundEs es W h.2).v h.1)) fun _ => rfl
  | .ix a b, X, e, W, h => by
    simp only [chkE] at h
    split at h <;> first
      | (cases h; done)
      | skip
    simp only [Bool.and_eq_true] at h
    exact .plain (by simpa only [evE] using r_ix (chk_form h.2) (soundE a W h.1).b (soundE b W h.2).b) fun _ => rfl
  | .sl a lo hi, X, e, W, h => by
    simp only [chkE] at h
    split at h <;> first
      | (cases h; done)
      | skip
    simp only [Bool.and_eq_true] at h
    exact .plain (by simpa only [evE] using r_sl (soundE a W h.1).b (soundE lo W h.2.1).b (soundE hi W h.2.2).b) fun _ => rfl
  | .slo a lo, X, e, W, h => by
    simp only [chkE] at h
    split at h <;> first
      | (cases h; done)
      | skip
    simp only [Bool.and_eq_true] at h
    exact .plain (by simpa only [evE] using r_slo (soundE a W h.1).b (soundE lo W h.2).b) fun _ => rfl
  | .sll a lo, X, e, W, h => by
    simp only [chkE] at h
    split at h <;> first
      | (cases h; done)
      | skip
    simp only [Bool.and_eq_true] at h
    exact .plain (by simpa only [evE] using r_sll (soundE a W h.1).b (soundE lo W h.2).b) fun _ => rfl
  | .call f es, X, e, W, h => by
    simp only [chkE] at h
    split at h <;> first
      | (cases h; done)
      | skip
    simp only [Bool.and_eq_true, decide_eq_true_eq] at h
    obtain ⟨h1, h2, h3, h4⟩ := h
    obtain ⟨g1, g2⟩ := gl_of h2
    exact .plain (by simpa only [evE] using pe_callI (W.call f _ h1) g1 g2 (chks_form h4) ((soundEs es W h4).v h3)) fun _ => rfl
  | .cab f es, X, e, W, h => by
    simp only [chkE] at h
    split at h <;> first
      | (cases h; done)
      | skip
    simp only [Bool.and_eq_true, decide_eq_true_eq] at h
    obtain ⟨h1, h3, h4⟩ := h
    obtain ⟨g1, g2⟩ := gl_of h3
    exact .plain (by simpa only [evE] using pe_callB' (W.call f _ h1) g1 g2 (chks_form h4) (soundEs es W h4).b) fun _ => rfl
  | .cal0 f, X, e, W, h => by
    simp only [chkE] at h
    split at h <;> first
      | (cases h; done)
      | skip
    simp only [Bool.and_eq_true, decide_eq_true_eq] at h
    obtain ⟨h1, h2⟩ := h
    obtain ⟨g1, g2⟩ := gl_of h2
    exact .plain (by simpa only [evE] using pe_call0I (W.call f _ h1) g1 g2) fun _ => rfl
  | .blt b es, X, e, W, h => by
    simp only [chkE] at h
    split at h <;> first
      | (cases h; done)
      | skip
    simp only [Bool.and_eq_true] at h
    obtain ⟨q, rfl, g1⟩ := name_of h.1
    exact .plain (by simpa only [evE] using r_blt b W.calm g1 (W.blt _ (blt_bi b)) (chks_form h.2) (soundEs es W h.2).b) fun _ => rfl
  | .isi a t, X, e, W, h => by
    simp only [chkE] at h
    split at h <;> first
      | (cases h; done)
      | skip
    simp only [Bool.and_eq_true] at h
    obtain ⟨q, rfl, g1⟩ := name_of h.1
    obtain ⟨q2, rfl, g2⟩ := name_of h.2.1
    exact .plain (by simpa only [evE] using r_isi g1 (W.blt _ (by decide +kernel)) g2 (W.blt _ (blt_ty t)) (chk_form h.2.2) (soundE a W h.2.2).b) fun _ => rfl
  | .met m a es, X, e, W, h => by
    simp only [chkE] at h
    split at h <;> first
      | (cases h; done)
      | skip
    rename_i l x p as q
    simp only [Bool.and_eq_true, decide_eq_true_eq] at h
    obtain ⟨h1, h2, h3, h4, h0, h5, h6⟩ := h
    have e1 := eq_of_beq h1
    subst e1
    have A := soundEs es W h6
    have F := chks_form h6
    have B : attributeBase l (meName m) X.env (eval l X.env) = eval l X.env := base_chk h5 h0
    cases as with
    | nil =>
      cases es with
      | cons _ _ => simp [chkEs] at h6
      | nil =>
        have hm : me0 m = true := by simpa using h3
        exact .plain (by simpa only [evE, evEs] using r_met0 (pos := q) m hm B h2 (soundE a W h5).b) fun _ => rfl
    | cons y ys =>
      have hm : me0 m = false := by simpa using h3
      exact .plain (by simpa only [evE] using r_met (pos := q) m hm B F h4 h2 (soundE a W h5).b A.b) fun _ => rfl
  | .comp elt i it cnd, X, e, W, h => by
    simp only [chkE] at h
    split at h <;> first
      | (cases h; done)
      | skip
    simp only [Bool.and_eq_true, decide_eq_true_eq] at h
    obtain ⟨h1, h2, h3, h4, h5, h6, h7⟩ := h
    rename_i el x px iter ifs scope pos
    have hk := of_decide_eq_true h3
    have v := r_comp (X := X) (px := px) (pos := pos) W.calm W.nd (by rw [W.hN]; exact h2) hk (by rw [W.hN]; exact blkOk_by h4) (chkI_set h5) (soundI it W h5)
      (fun s H C cl fp => soundO cnd (W.blk s H _ _ fp) h6) (fun s H C cl fp => (soundE elt (W.blk s H _ _ fp) h7).v h1)
    exact .plain (by simpa only [evE, compL] using v) fun _ => rfl
theorem soundEs : ∀ (es : Es) {X : Cx} {l : List Expr}, Wd N fns gls gs cf X → chkEs N fns gls es l X.env.scope = true → AOk gs cf X es l
  | .nil, X, l, W, h => by
    cases l with
    | cons _ _ => simp [chkEs] at h
    | nil => exact ⟨fun _ => by simpa only [evEs] using r_nilv, by simpa only [evEs] using r_nilb, fun _ => ⟨fun _ z => absurd rfl z, fun _ z => absurd rfl z, fun _ z => absurd rfl z, fun _ z => absurd rfl z⟩⟩
  | .cons e r, X, l, W, h => by
    cases l with
    | nil => simp [chkEs] at h
    | cons a l =>
      simp only [chkEs, Bool.and_eq_true] at h
      have E1 := soundE e W h.1
      have A := soundEs r W h.2
      have F := chk_form h.1
      refine ⟨fun z => ?_, by simpa only [evEs] using r_consb F E1.b A.b, fun z => ?_⟩
      · simp only [nbs, Bool.and_eq_true] at z
        simpa only [evEs] using r_consv F (E1.v z.1) (A.v z.2)
      · simp only [tbs, Bool.and_eq_true] at z
        have nbe : nb e = true := by
          have := z.1
          cases e <;> first
            | rfl
            | (simp [tb] at this)
        cases l with
        | nil =>
          cases r with
          | cons _ _ => have := h.2; simp [chkEs] at this
          | nil => exact ⟨fun pos _ => by simpa only [evAnd] using pe_one (E1.v nbe), fun pos _ => by simpa only [evOr] using pe_one (E1.v nbe), fun pos _ => by simpa only [evAnd] using pw_and1 (E1.t z.1), fun pos _ => by simpa only [evOr] using pw_or1 (E1.t z.1)⟩
        | cons a2 l2 =>
          cases r with
          | nil => have := h.2; simp [chkEs] at this
          | cons f r2 =>
            have B := A.bo z.2
            have hne : (a2 :: l2) ≠ [] := List.cons_ne_nil _ _
            exact ⟨fun pos _ => by simpa only [evAnd] using r_and (E1.v nbe) (B.av pos hne), fun pos _ => by simpa only [evOr] using r_or (E1.v nbe) (B.ov pos hne), fun pos _ => by simpa only [evAnd] using rt_and (E1.t z.1) (B.at_ pos hne), fun pos _ => by simpa only [evOr] using rt_or (E1.t z.1) (B.ot pos hne)⟩
theorem soundI : ∀ (it : Ev.It) {X : Cx} {a tg : Expr}, Wd N fns gls gs cf X → chkI N fns gls it a X.env.scope = true → PI X tg a (tI X.K fun ρ => evI gs cf it ρ)
  | .over e, X, a, tg, W, h => by
    simp only [chkI, Bool.and_eq_true] at h
    simpa only [evI] using r_over ((soundE e W h.2).v h.1)
  | .ovs e, X, a, tg, W, h => by
    simp only [chkI, Bool.and_eq_true] at h
    simpa only [evI] using r_ovs ((soundE e W h.2).v h.1)
  | .rng1 e, X, a, tg, W, h => by
    simp only [chkI] at h
    split at h <;> first
      | (cases h; done)
      | skip
    simp only [Bool.and_eq_true] at h
    obtain ⟨q, rfl, g1⟩ := name_of h.1
    simpa only [evI] using r_rng1 g1 (W.blt _ (by decide +kernel)) (chk_form h.2) (soundE e W h.2).b
  | .rng2 e f, X, a, tg, W, h => by
    simp only [chkI] at h
    split at h <;> first
      | (cases h; done)
      | skip
    simp only [Bool.and_eq_true] at h
    obtain ⟨q, rfl, g1⟩ := name_of h.1
    simpa only [evI] using r_rng2 g1 (W.blt _ (by decide +kernel)) (chk_form h.2.1) (chk_form h.2.2) (soundE e W h.2.1).b (soundE f W h.2.2).b
theorem soundO : ∀ (o : Oe) {X : Cx} {l : List Expr}, Wd N fns gls gs cf X → chkO N fns gls o l X.env.scope = true → PTs X l (tT X.K fun ρ => evO gs cf o ρ)
  | .none, X, l, W, h => by
    cases l with
    | cons _ _ => simp [chkO] at h
    | nil =>
      refine ⟨fun pins s σ H Q I z => pts_nil.run pins s σ H Q I ?_⟩
      obtain ⟨ρ, G, b, a, z, q⟩ := z
      simp only [evO] at z
      cases z
      exact q G H (.refl a.same)
  | .some e, X, l, W, h => by
    simp only [chkO] at h
    split at h <;> first
      | (cases h; done)
      | skip
    simp only [Bool.and_eq_true] at h
    have := pts_one ((soundE e W h.2).t h.1)
    simpa only [evO] using this
end
end
end Ev
end
section
/-! Ev10: new lists; statements. -/
namespace Ev
open PySem PySem.Spec L2
section
variable {X : Cx} {pos p : Pos}
theorem pe_noneN {e : Expr} {ev : Env' → Option (List D)} (h : ∀ ρ, ev ρ = none) : PE X e (tN X.K ev) := ⟨fun _ _ σ H Q _ ⟨ρ, _, _, _, z, _⟩ => by rw [h] at z; cases z⟩
theorem r_lstN {es : List Expr} {evs : Env' → Option (List D)} (h : PA X es (tAv X.K evs)) : PE X (.List es pos) (tN X.K fun ρ => (evs ρ).bind fun xs => if xs.length ≤ sizeLine then some xs else none) := by
  refine pe_imp (pe_lst h) ?_
  rintro σ H Q ⟨ρ, G, ys, a, z, q⟩
  obtain ⟨xs, h1, h2⟩ := Option.bind_eq_some_iff.mp z
  split at h2
  · rename_i hl
    cases h2
    exact ⟨ρ, G, ys, a, h1, fun G1 H1 vs e1 r1 => ⟨by rw [dpAll_len r1]; exact hl, fun c hc => q G1 _ c vs (e1.trans (.own e1.gh hc)) upd_same r1 (e1.gh.free hc) (e1.hh.free hc)⟩⟩
  · cases h2
def newOf (r : Option (Bool × D)) : Option (List D) := r.bind fun r => match r with
    | (true, .list ys) => some ys
    | _ => none
theorem newOf_some {r : Option (Bool × D)} {ys : List D} (h : newOf r = some ys) : r = some (true, .list ys) := by
  obtain ⟨⟨fr, d⟩, h1, h2⟩ := Option.bind_eq_some_iff.mp h
  split at h2
  · rename_i e
    cases h2
    rw [h1]
    exact congrArg some e
  · cases h2
theorem rd_callN {r : List D → Option (Bool × D)} {evs : Env' → Option (List D)} : ∀ σ H Q, tN X.K (fun ρ => (evs ρ).bind fun xs => newOf (r xs)) σ H Q → tCall (spI X.K r) [] E0 (tAv X.K evs) σ H Q := by
  rintro σ H Q ⟨ρ, G, ys, a, z, q⟩
  obtain ⟨xs, h1, h2⟩ := Option.bind_eq_some_iff.mp z
  refine ⟨ρ, G, xs, a, h1, fun G1 H1 vs e1 r1 => ?_⟩
  show spI X.K r (vs ++ []) H1 Q E0
  rw [List.append_nil]
  refine ⟨G1, xs, true, .list ys, e1.gh, r1, newOf_some h2, fun G2 H2 v e2 rv => ?_⟩
  unfold RetV at rv
  rw [if_pos rfl] at rv
  obtain ⟨b, vs', ds, e, rfl, g1, g2, g3, g4⟩ := rv
  cases e
  exact q G2 H2 b vs' (e1.trans e2) g1 g2 g3 (e1.hh.free g4)
theorem pe_callN' {x : Str} {e : Expr} {es : List Expr} {r : List D → Option (Bool × D)} {evs : Env' → Option (List D)} (c : CallOk X x r) (hg : Gl X x) (hd : (x == ("__debug__" : Str)) = false) (hf : okForms (e :: es) = true) (ha : PA X (e :: es) (tAv X.K evs)) :
    PE X (.Call (.Name x p) (e :: es) [] pos) (tN X.K fun ρ => (evs ρ).bind fun xs => newOf (r xs)) := by
  rcases c with c | ⟨k, ps, f, fd, F, hr, hm, hk, hb⟩
  · refine pe_noneN fun ρ => ?_
    cases evs ρ with
    | none => rfl
    | some xs =>
      show newOf (r xs) = none
      rw [c]
      rfl
  · simp only [okForms, Bool.and_eq_true] at hf
    exact pe_imp (pe_call F hr hg hm hk hb .nil pass0 ha hd (form_star hf.1) (forms_star hf.2)) rd_callN
theorem r_catN {a b : Expr} {ea eb : Env' → Option D} (ha : PE X a (tB X.K ea)) (hb : PE X b (tB X.K eb)) : PE X (.BinOp a .Add b pos) (tN X.K fun ρ => (ea ρ).bind fun x => (eb ρ).bind fun y => match x, y with
    | .list xs, .list ys => if xs.length + ys.length ≤ sizeLine then some (xs ++ ys) else none
    | _, _ => none) := by
  refine pe_imp (pe_op o_catR ha hb) ?_
  rintro σ H Q ⟨ρ, G, zs, a, z, q⟩
  obtain ⟨x, h1, h2⟩ := Option.bind_eq_some_iff.mp z
  obtain ⟨y, h3, h4⟩ := Option.bind_eq_some_iff.mp h2
  split at h4
  · split at h4
    · rename_i hl
      cases h4
      refine tB_of a h1 fun G1 H1 v e1 r1 => tB_of (a.mono e1) h3 fun G2 H2 w e2 r2 => ?_
      obtain ⟨pa, vs, rfl, g1, g2⟩ := (r1.mono e2).list e2.gh
      obtain ⟨pb, ws, rfl, k1, k2⟩ := r2.list e2.gh
      refine ⟨pa, pb, vs, ws, rfl, rfl, g1, k1, by rw [dpAll_len g2, dpAll_len k2]; exact hl, fun c hc => ?_⟩
      have e := e1.trans e2
      exact q G2 _ c _ (e.trans (.own e.gh hc)) upd_same (dpAll_append g2 k2) (e.gh.free hc) (e.hh.free hc)
    · cases h4
  · cases h4
theorem r_listN {e : Expr} {es : List Expr} {evs : Env' → Option (List D)} (hg : Gl X "list") (hm : X.mg "list" = none) (hf : okForms (e :: es) = true) (ha : PA X (e :: es) (tAb X.K evs)) :
    PE X (.Call (.Name "list" p) (e :: es) [] pos) (tN X.K fun ρ => (evs ρ).bind fun xs => match xs with
    | [.list ys] => some ys
    | [.tuple ys] => some ys
    | _ => none) := by
  simp only [okForms, Bool.and_eq_true] at hf
  refine pe_imp (pe_callTy call_list_of hg hm (bi_boot .list) ha (by decide +kernel) (by decide +kernel) (form_star hf.1) (forms_star hf.2)) ?_
  rintro σ H Q ⟨ρ, G, zs, a, z, q⟩
  obtain ⟨xs, h1, h2⟩ := Option.bind_eq_some_iff.mp z
  refine ⟨ρ, G, xs, a, h1, fun G1 H1 vs e1 r1 => ?_⟩
  split at h2
  · cases h2
    obtain ⟨x, rfl, g⟩ := rbs1 r1
    obtain ⟨pa, ws, rfl, g1, g2⟩ := g.list e1.gh
    exact ⟨pa, ws, rfl, .inl (.inl g1), fun c hc => q G1 _ c ws (e1.trans (.own e1.gh hc)) upd_same g2 (e1.gh.free hc) (e1.hh.free hc)⟩
  · cases h2
    obtain ⟨x, rfl, g⟩ := rbs1 r1
    obtain ⟨pa, ws, rfl, g1, g2⟩ := g.tuple e1.gh
    exact ⟨pa, ws, rfl, .inr g1, fun c hc => q G1 _ c ws (e1.trans (.own e1.gh hc)) upd_same g2 (e1.gh.free hc) (e1.hh.free hc)⟩
  · cases h2
end
section
variable {N fns gls : List Str} {gs : Nat → Option D} {cf : Cf}
theorem soundN (e : E) {X : Cx} {a : Expr} (W : Wd N fns gls gs cf X) (h : chkE N fns gls e a X.env.scope = true) : PE X a (tN X.K fun ρ => evN gs cf e ρ) := by
  cases e with
  | call f es =>
    simp only [chkE] at h
    split at h <;> first
      | (cases h; done)
      | skip
    simp only [Bool.and_eq_true, decide_eq_true_eq] at h
    obtain ⟨h1, h2, h3, h4⟩ := h
    obtain ⟨g1, g2⟩ := gl_of h2
    exact pe_callN' (W.call f _ h1) g1 g2 (chks_form h4) ((soundEs es W h4).v h3)
  | lst es =>
    simp only [chkE] at h
    split at h <;> first
      | (cases h; done)
      | skip
    simp only [Bool.and_eq_true] at h
    exact r_lstN ((soundEs es W h.2).v h.1)
  | comp elt i it cnd =>
    simp only [chkE] at h
    split at h <;> first
      | (cases h; done)
      | skip
    simp only [Bool.and_eq_true, decide_eq_true_eq] at h
    obtain ⟨h1, h2, h3, h4, h5, h6, h7⟩ := h
    have hk := of_decide_eq_true h3
    exact r_compN W.calm W.nd (by rw [W.hN]; exact h2) hk (by rw [W.hN]; exact blkOk_by h4) (chkI_set h5) (soundI it W h5)
      (fun s H C cl fp => soundO cnd (W.blk s H _ _ fp) h6) (fun s H C cl fp => (soundE elt (W.blk s H _ _ fp) h7).v h1)
  | bin o x y =>
    cases o with
    | add =>
      simp only [chkE] at h
      split at h <;> first
        | (cases h; done)
        | skip
      rename_i l op r q
      simp only [Bool.and_eq_true] at h
      have e : op = .Add := by
        have := h.1
        cases op <;> first
          | rfl
          | (cases this; done)
      subst e
      exact r_catN (soundE x W h.2.1).b (soundE y W h.2.2).b
    | _ => exact pe_noneN fun _ => rfl
  | blt b es =>
    cases b with
    | list =>
      simp only [chkE] at h
      split at h <;> first
        | (cases h; done)
        | skip
      simp only [Bool.and_eq_true] at h
      obtain ⟨q, rfl, g1⟩ := name_of h.1
      exact r_listN g1 (W.blt _ (blt_bi .list)) (chks_form h.2) (soundEs es W h.2).b
    | _ => exact pe_noneN fun _ => rfl
  | _ => exact pe_noneN fun _ => rfl
end

/-! ### statements -/
theorem Ext.up {G0 H0 G1 H1 G H : Hp} (a : Ext G0 H0 G1 H1) (b : Ext G1 H0 G H) : Ext G0 H0 G H := ⟨a.gg.trans b.gg, b.gh, b.hh, fun x o e n => b.fr x o e (a.fr x o e n)⟩
theorem Ext.down {G0 H0 G1 G H : Hp} (a : Ext G0 H0 G H) (b : Same G1 G) (c : Same G0 G1) : Ext G1 H0 G H := ⟨b, a.gh, a.hh, fun x o e n => a.fr x o e (c.free n)⟩
theorem StOk.up {K : PySem.W.Frag} {G0 H0 G1 H1 G H : Hp} {ρ : Env'} {σ : St} (a : Ext G0 H0 G1 H1) (s : StOk K G1 H0 ρ σ G H) : StOk K G0 H0 ρ σ G H := ⟨a.up s.ext, s.len, s.sh, s.ow, s.sep⟩
theorem StOk.down {K : PySem.W.Frag} {G0 H0 G1 G H : Hp} {ρ : Env'} {σ : St} (s : StOk K G0 H0 ρ σ G H) (b : Same G1 G) (c : Same G0 G1) : StOk K G1 H0 ρ σ G H := ⟨s.ext.down b c, s.len, s.sh, s.ow, s.sep⟩
def PostO (K : PySem.W.Frag) (G0 H0 : Hp) (D : Ends) : Out → Prop
  | .nx ρ' => ∀ σ' G' H', StOk K G0 H0 ρ' σ' G' H' → D.nx σ' H'
  | .bk ρ' => ∀ σ' G' H', StOk K G0 H0 ρ' σ' G' H' → D.bk σ' H'
  | .ct ρ' => ∀ σ' G' H', StOk K G0 H0 ρ' σ' G' H' → D.ct σ' H'
  | .rt fr d => ∀ G' H' v, Ext G0 H0 G' H' → RetV K H0 G' H' v fr d → D.rt v H'
def tS (K : PySem.W.Frag) (ex : Env' → Option Out) : TS := fun D σ H => ∃ G0 H0 ρ G o, StOk K G0 H0 ρ σ G H ∧ ex ρ = some o ∧ PostO K G0 H0 D o
theorem ps_imp {X : Cx} {st : Stmt} {t t' : TS} (h : PS X st t) (w : ∀ D σ H, t' D σ H → t D σ H) : PS X st t' := ⟨fun pins s σ H D I q => h.run pins s σ H D I (w _ _ _ q)⟩
theorem pss_imp {X : Cx} {st : List Stmt} {t t' : TS} (h : PSs X st t) (w : ∀ D σ H, t' D σ H → t D σ H) : PSs X st t' := ⟨fun pins s σ H D I q => h.run pins s σ H D I (w _ _ _ q)⟩
theorem At.of {K : PySem.W.Frag} {G0 H0 : Hp} {ρ : Env'} {σ : St} {G H : Hp} (s : StOk K G0 H0 ρ σ G H) : At K ρ σ G H := ⟨_, _, s⟩
/-! targets -/
def asgs (is : List Nat) (ds : List D) (ρ : Env') : Env' := (is.zip ds).foldl (fun ρ p => ρ.set p.1 (some (false, p.2))) ρ
section
variable {X : Cx} {pos : Pos}
/-- a target's store, by data -/
def tG (K : PySem.W.Frag) (as : D → Env' → Option Env') : TG := fun v σ H Q => ∃ G0 H0 ρ G d ρ', StOk K G0 H0 ρ σ G H ∧ Rp K G v d ∧ as d ρ = some ρ' ∧ ∀ σ', StOk K G0 H0 ρ' σ' G H → Q σ' H
theorem pg_imp {tg : Expr} {t t' : TG} (h : PG X tg t) (w : ∀ v σ H Q, t' v σ H Q → t v σ H Q) : PG X tg t' := ⟨fun pins s σ H v u Q I r q => h.run pins s σ H v u Q I r (w _ _ _ _ q)⟩
theorem g_one {i : Nat} {x : Str} (hN : X.N.Nodup) (hi : X.N[i]? = some x) (hx : Loc X.env.scope x) (hf : X.fn x = true) : PG X (.Name x pos) (tG X.K fun d ρ => asgD (.one i) d ρ) := by
  refine pg_imp (pg_name hN hi hx (.inl hf)) ?_
  rintro v σ H Q ⟨G0, H0, ρ, G, d, ρ', st, r, e, q⟩
  cases e
  exact q _ (st.setS i r)
/-- names in a row -/
def namesB (N : List Str) (sc : Scope) : List Nat → List Expr → Bool
  | [], [] => true
  | i :: is, .Name x _ :: l => decide (N[i]? = some x) && (locB sc x && namesB N sc is l)
  | _, _ => false
def tGs (K : PySem.W.Frag) (is : List Nat) : TGs := fun vs σ H Q => ∃ G0 H0 ρ G ds, StOk K G0 H0 ρ σ G H ∧ RpAll K G vs ds ∧ is.length = ds.length ∧ ∀ σ', StOk K G0 H0 (asgs is ds ρ) σ' G H → Q σ' H
theorem pgs_imp {tg : List Expr} {t t' : TGs} (h : PGs X tg t) (w : ∀ v σ H Q, t' v σ H Q → t v σ H Q) : PGs X tg t' := ⟨fun pins s σ H v u Q I r q => h.run pins s σ H v u Q I r (w _ _ _ _ q)⟩
theorem g_names (hN : X.N.Nodup) (hf : ∀ x, X.fn x = true) : ∀ {is : List Nat} {l : List Expr}, namesB X.N X.env.scope is l = true → PGs X l (tGs X.K is) ∧ (assignEach l X.env).length = is.length ∧ (assignEach l X.env).findIdx? (·.1) = none
  | [], [], _ => by
    refine ⟨pgs_imp pgs_nil ?_, rfl, rfl⟩
    rintro vs σ H Q ⟨G0, H0, ρ, G, ds, st, r, e, q⟩
    cases ds with
    | cons _ _ => cases e
    | nil =>
      cases r
      exact ⟨rfl, q σ st⟩
  | i :: is, .Name x px :: l, h => by
    simp only [namesB, Bool.and_eq_true, decide_eq_true_eq] at h
    obtain ⟨h1, h2, h3⟩ := h
    obtain ⟨A, B, C⟩ := g_names hN hf h3
    refine ⟨pgs_imp (pgs_cons (g_one hN h1 (loc_of h2) (hf x)) A rfl) ?_, ?_, ?_⟩
    · rintro vs σ H Q ⟨G0, H0, ρ, G, ds, st, r, e, q⟩
      cases ds with
      | nil => cases e
      | cons d ds =>
        cases r with
        | cons r1 r2 =>
          exact ⟨_, _, rfl, G0, H0, ρ, G, d, _, st, r1, rfl, fun σ' st' => ⟨G0, H0, _, G, ds, st', r2, Nat.succ.inj e, fun σ'' st'' => q σ'' st''⟩⟩
    · show (assignEach l X.env).length + 1 = is.length + 1
      rw [B]
    · show List.findIdx? (·.1) ((false, _) :: assignEach l X.env) = none
      rw [List.findIdx?_cons, C]
      rfl
  | [], _ :: _, h => by simp [namesB] at h
  | _ :: _, [], h => by simp [namesB] at h
/-- (a, b, ..) = a tuple -/
theorem g_tup {is : List Nat} {l : List Expr} {n : Nat} (hN : X.N.Nodup) (hc : X.calm = true) (hf : ∀ x, X.fn x = true) (h : namesB X.N X.env.scope is l = true) : PG X (.Tuple l n pos) (tG X.K fun d ρ => asgD (.tup is) d ρ) := by
  obtain ⟨A, B, C⟩ := g_names hN hf h
  refine pg_imp (pg_tup hc A B C) ?_
  rintro v σ H Q ⟨G0, H0, ρ, G, d, ρ', st, r, e, q⟩
  cases d <;> simp only [asgD] at e <;> first
    | (cases e; done)
    | skip
  split at e
  · rename_i hl
    cases e
    cases r with
    | tup g r => exact ⟨_, _, rfl, seqT_mono st.same g, by rw [dpAll_len r, hl], G0, H0, ρ, G, _, st, r, hl, q⟩
  · cases e
/-! assignments -/
theorem s_asg {tg e : Expr} {te : Env' → Option D} {as : D → Env' → Option Env'} {t : TE} {g : TG} (h : PS X (.Assign [tg] e pos) (tAsg t g)) (ht : ∀ σ H Q, tV X.K te σ H Q → t σ H Q) (hg : ∀ v σ H Q, tG X.K as v σ H Q → g v σ H Q) :
    PS X (.Assign [tg] e pos) (tS X.K fun ρ => (te ρ).bind fun d => (as d ρ).map .nx) := by
  refine ps_imp h ?_
  rintro D σ H ⟨G0, H0, ρ, G, o, st, z, q⟩
  obtain ⟨d, h1, h2⟩ := Option.bind_eq_some_iff.mp z
  obtain ⟨ρ', h3, rfl⟩ := Option.map_eq_some_iff.mp h2
  refine ht _ _ _ ⟨ρ, G, d, .of st, h1, fun G1 H1 v e1 r1 => hg _ _ _ _ ⟨G0, H0, ρ, G1, d, ρ', st.mono e1, r1, h3, fun σ' st' => q σ' G1 H1 st'⟩⟩
theorem s_asgN {x : Str} {px : Pos} {e : Expr} {i : Nat} {tn : Env' → Option (List D)} {t : TE} (h : PS X (.Assign [.Name x px] e pos) (tAsg t (gName i))) (ht : ∀ σ H Q, tN X.K tn σ H Q → t σ H Q) :
    PS X (.Assign [.Name x px] e pos) (tS X.K fun ρ => (tn ρ).map fun xs => .nx (ρ.set i (some (true, .list xs)))) := by
  refine ps_imp h ?_
  rintro D σ H ⟨G0, H0, ρ, G, o, st, z, q⟩
  obtain ⟨d, h1, rfl⟩ := Option.map_eq_some_iff.mp z
  exact ht _ _ _ ⟨ρ, G, d, .of st, h1, fun G1 H1 a vs e1 g1 g2 g3 g4 => q _ G1 H1 (st.setO e1 i g1 g2 g3 g4)⟩
theorem s_aug {x : Str} {px : Pos} {e : Expr} {i : Nat} {o : O2} {op : Operator} {te : Env' → Option D} (hN : X.N.Nodup) (hi : X.N[i]? = some x) (hx : Loc X.env.scope x) (hf : X.fn x = true) (ho : o2B o op = true) (h : PE X e (tB X.K te)) :
    PS X (.AugAssign (.Name x px) op e pos) (tS X.K fun ρ => (getS ρ i).bind fun x => (te ρ).bind fun y => (augD o x y).map fun z => .nx (ρ.set i (some (false, z)))) := by
  have go : ∀ {r : R2}, OpR X (inplaceOp op) r → Sp2 X.K r (augD o) → PS X (.AugAssign (.Name x px) op e pos) (tS X.K fun ρ => (getS ρ i).bind fun x => (te ρ).bind fun y => (augD o x y).map fun z => .nx (ρ.set i (some (false, z)))) := fun {r} hr sp => by
    refine ps_imp (ps_aug (ti := r) hN hi hx h (fun pins s σ H x y v u Q I rx ry z => hr pins s σ H x y v u Q I rx ry z) (.inl hf)) ?_
    rintro D σ H ⟨G0, H0, ρ, G, o', st, z, q⟩
    obtain ⟨a, h1, h2⟩ := Option.bind_eq_some_iff.mp z
    obtain ⟨b, h3, h4⟩ := Option.bind_eq_some_iff.mp h2
    obtain ⟨c, h5, rfl⟩ := Option.map_eq_some_iff.mp h4
    obtain ⟨v, k1, k2⟩ := st.getS h1
    refine ⟨v, k1, tB_of (.of st) h3 fun G1 H1 w e1 r1 => sp G1 H1 v w a b c _ e1.gh (.sh (dp_mono e1.gg k2)) r1 h5 fun G2 H2 u e2 r2 => ?_⟩
    exact q _ G2 H2 (((st.mono e1).mono e2).setS i r2)
  cases o <;> cases op <;> first
    | (cases ho; done)
    | skip
  · refine go (OpR.or iop_add iop_add_str) fun G H x y a b d Q s ha hb e q => ?_
    unfold augD at e
    split at e <;> first | (cases e; done) | skip
    all_goals (try contradiction)
    · cases e
      exact .inl ⟨_, _, ha.int, hb.int, q.now s (.int _)⟩
    · split at e
      · rename_i hl
        cases e
        exact .inr ⟨_, _, ha.str, hb.str, hl, q.now s (.str _)⟩
      · cases e
  · refine go iop_sub fun G H x y a b d Q s ha hb e q => ?_
    unfold augD at e
    split at e <;> first | (cases e; done) | skip
    all_goals (try contradiction)
    cases e
    exact ⟨_, _, ha.int, hb.int, q.now s (.int _)⟩
  all_goals
    refine go (r := fun _ _ _ _ => False) (fun _ _ _ _ _ _ _ _ _ _ _ _ z => z.elim) fun G H x y a b d Q s ha hb e q => ?_
    unfold augD at e
    split at e <;> first
      | (cases e; done)
      | contradiction
/-! lists of this frame -/
theorem s_drop {e : Expr} {te : TE} (h : PE X e te) (hs : swapsWith e none pos.line X.env = pure false) : PS X (.Expr e pos) (tDrop te) := ps_expr h hs
/-- the list in slot i, as a receiver -/
theorem recv {G0 H0 G H : Hp} {ρ : Env'} {σ : St} {K : PySem.W.Frag} (st : StOk K G0 H0 ρ σ G H) {i : Nat} {ds : List D} (h : ownL ρ i = some ds) : ∃ a, σ[i]? = some (some (.ref a)) ∧ ∀ {G' H' : Hp}, Ext G H G' H' → ∃ vs, H' a = some (.lst vs) ∧ RpAll K G' vs ds ∧ ∀ {ws : List V} {es : List D}, RpAll K G' ws es → StOk K G0 H0 (ρ.set i (some (true, .list es))) σ G' (upd H' a (.lst ws)) := by
  obtain ⟨_, a, vs, k1, k2, k3, k4, k5⟩ := st.own h
  refine ⟨a, k1, fun {G' H'} e => ?_⟩
  have st2 := st.mono e
  obtain ⟨kρ, b, vs2, j1, j2, j3, j4, j5⟩ := st2.own h
  rw [k1] at j1
  cases j1
  exact ⟨vs2, j2, j3, fun {ws es} r => st2.chg kρ k1 j4 j5 r⟩
theorem s_app {x : Str} {px ap cp : Pos} {e : Expr} {i : Nat} {te : Env' → Option D} (hi : X.N[i]? = some x) (hv : Vis X.env.scope x) (hd : (x == ("__debug__" : Str)) = false) (hc : (x == ("__classdict__" : Str)) = false) (hf : okForm e = true) (hl : (ap.endLine == cp.line) = true) (h : PE X e (tV X.K te)) :
    PS X (.Expr (.Call (.Attribute (.Name x px) "append" ap) [e] [] cp) pos) (tS X.K fun ρ => (ownL ρ i).bind fun xs => (te ρ).bind fun y => if xs.length < sizeLine then some (.nx (ρ.set i (some (true, .list (xs ++ [y]))))) else none) := by
  refine ps_imp (s_drop (pe_bm PySem.F.plainAttrs_list PySem.F.slot_list_append PySem.F.type_list_append mt_append (pe_var hi hv hd hc) (pa_cons h pa_nil (form_star hf)) rfl (few_of (by simp only [okForms, hf]; rfl) (by show 1 < 20; decide)) hl (form_star hf) rfl) rfl) ?_
  rintro D σ H ⟨G0, H0, ρ, G, o', st, z, q⟩
  obtain ⟨xs, h1, h2⟩ := Option.bind_eq_some_iff.mp z
  obtain ⟨y, h3, h4⟩ := Option.bind_eq_some_iff.mp h2
  split at h4
  · rename_i hlen
    cases h4
    obtain ⟨a, k1, k2⟩ := recv st h1
    obtain ⟨vs, k3, _, _⟩ := k2 (.refl st.same)
    refine ⟨_, k1, .inl ⟨rfl, vs, .inl (.inl k3)⟩, tV_of (.of st) h3 fun G1 H1 v e1 r1 => ?_⟩
    obtain ⟨us, j1, j2, j3⟩ := k2 e1
    refine ⟨a, us, v, rfl, rfl, j1, by rw [dpAll_len j2]; exact hlen, ?_⟩
    exact q σ G1 _ (j3 (dpAll_append j2 (.cons r1 .nil)))
  · cases h4
theorem s_clr {x : Str} {px ap cp : Pos} {i : Nat} (hi : X.N[i]? = some x) (hv : Vis X.env.scope x) (hd : (x == ("__debug__" : Str)) = false) (hc : (x == ("__classdict__" : Str)) = false) (hl : (ap.endLine == cp.line) = true) :
    PS X (.Expr (.Call (.Attribute (.Name x px) "clear" ap) [] [] cp) pos) (tS X.K fun ρ => (ownL ρ i).map fun _ => .nx (ρ.set i (some (true, .list [])))) := by
  refine ps_imp (s_drop (pe_bm0 PySem.F.plainAttrs_list PySem.F.slot_list_clear PySem.F.type_list_clear mt_clear (pe_var hi hv hd hc) rfl hl) rfl) ?_
  rintro D σ H ⟨G0, H0, ρ, G, o', st, z, q⟩
  obtain ⟨xs, h1, rfl⟩ := Option.map_eq_some_iff.mp z
  obtain ⟨a, k1, k2⟩ := recv st h1
  obtain ⟨vs, k3, k4, k5⟩ := k2 (.refl st.same)
  exact ⟨_, k1, .inl ⟨rfl, vs, .inl (.inl k3)⟩, a, vs, rfl, rfl, k3, q σ G _ (k5 .nil)⟩
theorem s_set {x : Str} {px sp : Pos} {k e : Expr} {i : Nat} {te tk : Env' → Option D} (hi : X.N[i]? = some x) (hv : Vis X.env.scope x) (hd : (x == ("__debug__" : Str)) = false) (hc : (x == ("__classdict__" : Str)) = false) (hf : okForm k = true) (hsw : swapsWithSole [.Subscript (.Name x px) k sp] e pos.line X.env = pure false)
    (h : PE X e (tV X.K te)) (hk : PE X k (tB X.K tk)) :
    PS X (.Assign [.Subscript (.Name x px) k sp] e pos) (tS X.K fun ρ => (ownL ρ i).bind fun xs => (te ρ).bind fun y => (tk ρ).bind fun k => (asI k).bind fun k => (ixN xs.length k).map fun j => .nx (ρ.set i (some (true, .list (xs.set j y))))) := by
  have hg : PG X (.Subscript (.Name x px) k sp) (gSub (tVar i) (tB X.K tk) rSetL) := pg_sub (pe_var hi hv hd hc) hk set_list (by
    intro v
    cases k <;> first
      | rfl
      | (simp [okForm] at hf))
  refine ps_imp (ps_asg h hg hsw rfl rfl) ?_
  rintro D σ H ⟨G0, H0, ρ, G, o', st, z, q⟩
  obtain ⟨xs, h1, h2⟩ := Option.bind_eq_some_iff.mp z
  obtain ⟨y, h3, h4⟩ := Option.bind_eq_some_iff.mp h2
  obtain ⟨c, h5, h6⟩ := Option.bind_eq_some_iff.mp h4
  obtain ⟨n, h7, h8⟩ := Option.bind_eq_some_iff.mp h6
  obtain ⟨j, h9, rfl⟩ := Option.map_eq_some_iff.mp h8
  cases asI_some h7
  obtain ⟨a, k1, k2⟩ := recv st h1
  refine tV_of (.of st) h3 fun G1 H1 v e1 r1 => ⟨_, k1, tB_of ((At.of st).mono e1) h5 fun G2 H2 w e2 r2 => ?_⟩
  obtain ⟨us, j1, j2, j3⟩ := k2 (e1.trans e2)
  refine ⟨a, us, n, j, rfl, r2.int, j1, by rw [dpAll_len j2]; exact h9, ?_⟩
  exact q σ G2 _ (j3 (dpAll_set (dp_mono e2.gg r1) j j2))
/-! flow -/
theorem s_ret {e : Expr} {te : Env' → Option D} (h : PE X e (tV X.K te)) : PS X (.Return (some e) pos) (tS X.K fun ρ => (te ρ).map fun d => .rt false d) := by
  refine ps_imp (ps_ret h) ?_
  rintro D σ H ⟨G0, H0, ρ, G, o', st, z, q⟩
  obtain ⟨d, h1, rfl⟩ := Option.map_eq_some_iff.mp z
  refine tV_of (.of st) h1 fun G1 H1 v e1 r1 => q G1 H1 v (st.ext.trans e1) ?_
  unfold RetV
  rw [if_neg Bool.false_ne_true]
  exact r1
theorem s_retO {x : Str} {px : Pos} {i : Nat} (hi : X.N[i]? = some x) (hv : Vis X.env.scope x) (hd : (x == ("__debug__" : Str)) = false) (hc : (x == ("__classdict__" : Str)) = false) : PS X (.Return (some (.Name x px)) pos) (tS X.K fun ρ => (ownL ρ i).map fun xs => .rt true (.list xs)) := by
  refine ps_imp (ps_ret (pe_var hi hv hd hc)) ?_
  rintro D σ H ⟨G0, H0, ρ, G, o', st, z, q⟩
  obtain ⟨xs, h1, rfl⟩ := Option.map_eq_some_iff.mp z
  obtain ⟨_, a, vs, k1, k2, k3, k4, k5⟩ := st.own h1
  refine ⟨_, k1, q G H _ st.ext ?_⟩
  unfold RetV
  rw [if_pos rfl]
  exact ⟨a, vs, xs, rfl, rfl, k2, k3, k4, k5⟩
theorem s_retN : PS X (.Return none pos) (tS X.K fun _ => some (.rt false .none)) := by
  refine ps_imp ps_retN ?_
  rintro D σ H ⟨G0, H0, ρ, G, o', st, z, q⟩
  cases z
  refine q G H _ st.ext ?_
  unfold RetV
  rw [if_neg Bool.false_ne_true]
  exact .non
theorem s_retNC {j : Nat} {p2 : Pos} : PS X (.Return (some (.Constant .none j p2)) pos) (tS X.K fun _ => some (.rt false .none)) := by
  refine ps_imp (ps_ret pe_non) ?_
  rintro D σ H ⟨G0, H0, ρ, G, o', st, z, q⟩
  cases z
  refine q G H _ st.ext ?_
  unfold RetV
  rw [if_neg Bool.false_ne_true]
  exact .non
theorem s_nil : PSs X [] (tS X.K fun ρ => some (.nx ρ)) := by
  refine pss_imp pss_nil ?_
  rintro D σ H ⟨G0, H0, ρ, G, o', st, z, q⟩
  cases z
  exact q σ G H st
theorem s_cons {s : Stmt} {r : List Stmt} {es er : Env' → Option Out} (h : PS X s (tS X.K es)) (h2 : PSs X r (tS X.K er)) : PSs X (s :: r) (tS X.K fun ρ => seqO (es ρ) er) := by
  refine pss_imp (pss_cons h h2) ?_
  rintro D σ H ⟨G0, H0, ρ, G, o, st, z, q⟩
  have z : seqO (es ρ) er = some o := z
  cases e : es ρ with
  | none =>
    rw [e] at z
    cases z
  | some o1 =>
    rw [e] at z
    refine ⟨G0, H0, ρ, G, o1, st, e, ?_⟩
    cases o1 with
    | nx ρ' => exact fun σ' G' H' st' => ⟨G0, H0, ρ', G', o, st', z, q⟩
    | bk ρ' =>
      cases z
      exact q
    | ct ρ' =>
      cases z
      exact q
    | rt fr d =>
      cases z
      exact q
/-- a list of this frame is for all to read from here on: no row of the text -/
theorem s_frz {r : List Stmt} {i : Nat} {er : Env' → Option Out} (h2 : PSs X r (tS X.K er)) : PSs X r (tS X.K fun ρ => seqO ((ownL ρ i).map fun xs => Out.nx (ρ.set i (some (false, .list xs)))) er) := by
  refine pss_imp h2 ?_
  rintro D σ H ⟨G0, H0, ρ, G, o, st, z, q⟩
  have z : seqO ((ownL ρ i).map fun xs => Out.nx (ρ.set i (some (false, .list xs)))) er = some o := z
  cases e : ownL ρ i with
  | none =>
    rw [e] at z
    cases z
  | some xs =>
    rw [e] at z
    obtain ⟨G', _, _, st'⟩ := st.frz e
    exact ⟨G0, H0, _, G', o, st', z, q⟩
theorem s_if {c : Expr} {a b : List Stmt} {ec : Env' → Option D} {ea eb : Env' → Option Out} (hc : PT X c (tT X.K fun ρ => (ec ρ).bind asB)) (ha : PSs X a (tS X.K ea)) (hb : PSs X b (tS X.K eb)) :
    PS X (.If c a b pos) (tS X.K fun ρ => (ec ρ).bind fun x => (asB x).bind fun t => if t = true then ea ρ else eb ρ) := by
  refine ps_imp (ps_if hc ha hb) ?_
  rintro D σ H ⟨G0, H0, ρ, G, o, st, z, q⟩
  obtain ⟨x, h1, h2⟩ := Option.bind_eq_some_iff.mp z
  obtain ⟨t, h3, h4⟩ := Option.bind_eq_some_iff.mp h2
  refine ⟨ρ, G, t, .of st, by show (ec ρ).bind asB = some t; rw [h1]; exact h3, fun G1 H1 e1 => ?_⟩
  cases t with
  | true =>
    rw [if_pos rfl] at h4 ⊢
    exact ⟨G0, H0, ρ, G1, o, st.mono e1, h4, q⟩
  | false =>
    rw [if_neg Bool.false_ne_true] at h4 ⊢
    exact ⟨G0, H0, ρ, G1, o, st.mono e1, h4, q⟩
theorem s_for {tg iter : Expr} {body : List Stmt} {ei : Env' → Option (List D)} {as : D → Env' → Option Env'} {eb : Env' → Option Out} (hp : PassesOwn (model X.prog X.w) X.A X.env X.xe) (hc : X.calm = true) (hset : ∀ y, foldedSetIterable iter X.env y = pure y)
    (hi : PI X tg iter (tI X.K ei)) (hg : PG X tg (tG X.K as)) (hb : PSs X body (tS X.K eb)) :
    PS X (.For tg iter body [] pos) (tS X.K fun ρ => (ei ρ).bind fun ds => forD (fun d ρ => (as d ρ).bind fun ρ' => eb ρ') ds ρ) := by
  refine ps_imp (ps_for hp hc hi hg hb hset) ?_
  rintro D σ H ⟨G0, H0, ρ, G, o, st, z, q⟩
  obtain ⟨ds, h1, h2⟩ := Option.bind_eq_some_iff.mp z
  refine ⟨ρ, G, ds, .of st, h1, fun G1 H1 J e1 wk => ?_⟩
  generalize hf : (fun (d : Ev.D) (ρ : Env') => (as d ρ).bind fun ρ' => eb ρ') = f at h2
  refine ⟨fun k m σ2 H2 => m = ds.length - k ∧ k ≤ ds.length ∧ ∃ ρ2 G2, StOk X.K G0 H0 ρ2 σ2 G2 H2 ∧ Same G1 G2 ∧ forD f (ds.drop k) ρ2 = some o, ⟨ds.length, by omega, Nat.zero_le _, ρ, G1, st.mono e1, Same.refl _, by rw [List.drop_zero]; exact h2⟩, ?_⟩
  rintro k m σ2 H2 ⟨rfl, hk, ρ2, G2, st2, g2, z2⟩
  by_cases hlt : k < ds.length
  · refine .inr ⟨wk.go k G2 H2 g2 st2.same hlt, fun σ' H' => k + 1 ≤ ds.length ∧ ∃ ρ2 G2, StOk X.K G0 H0 ρ2 σ' G2 H' ∧ Same G1 G2 ∧ forD f (ds.drop (k + 1)) ρ2 = some o, fun σ' H' hN => ⟨ds.length - (k + 1), by omega, rfl, hN⟩, fun v H3 hy => ?_⟩
    obtain ⟨G3, e3, r3⟩ := wk.yld k G2 H2 v H3 g2 st2.same hy ds[k] (List.getElem?_eq_getElem hlt)
    rw [List.drop_eq_getElem_cons hlt] at z2
    have z3 : (match f ds[k] ρ2 with
      | some (.nx ρ') => forD f (ds.drop (k + 1)) ρ'
      | some (.ct ρ') => forD f (ds.drop (k + 1)) ρ'
      | some (.bk ρ') => some (.nx ρ')
      | some (.rt fr x) => some (.rt fr x)
      | none => none) = some o := by
      have := z2
      rw [forD] at this
      exact this
    have bs : Ext G0 H0 G1 H1 := st.ext.trans e1
    cases e : f ds[k] ρ2 with
    | none =>
      rw [e] at z3
      cases z3
    | some o1 =>
      have e' := e
      rw [← hf] at e'
      obtain ⟨ρ4, f1, f2⟩ := Option.bind_eq_some_iff.mp e'
      refine ⟨G1, H0, ρ2, G3, ds[k], ρ4, (st2.mono e3).down (g2.trans e3.gg) bs.gg, r3, f1, fun σ4 st4 => ⟨G1, H0, ρ4, G3, o1, st4, f2, ?_⟩⟩
      rw [e] at z3
      cases o1 with
      | nx ρ5 => exact fun σ5 G5 H5 st5 => ⟨hlt, ρ5, G5, st5.up bs, st5.ext.gg, z3⟩
      | ct ρ5 => exact fun σ5 G5 H5 st5 => ⟨hlt, ρ5, G5, st5.up bs, st5.ext.gg, z3⟩
      | bk ρ5 =>
        cases z3
        exact fun σ5 G5 H5 st5 => q σ5 G5 H5 (st5.up bs)
      | rt fr x =>
        cases z3
        exact fun G5 H5 v ex r => q G5 H5 v (bs.up ex) r
  · have ek : k = ds.length := by omega
    subst ek
    rw [List.drop_length] at z2
    cases z2
    exact .inl ⟨wk.stop _ G2 H2 g2 st2.same (Nat.le_refl _), q σ2 G2 H2 st2⟩
theorem s_while {c : Expr} {body : List Stmt} {ec : Env' → Option D} {eb : Env' → Option Out} {fu : Nat} (hp : PassesOwn (model X.prog X.w) X.A X.env X.xe)
    (hc : PT X c (tT X.K fun ρ => (ec ρ).bind asB)) (hb : PSs X body (tS X.K eb)) : PS X (.While c body [] pos) (tS X.K fun ρ => whlD (fun ρ => (ec ρ).bind asB) eb fu ρ) := by
  refine ps_imp (ps_while hp hc hb) ?_
  rintro D σ H ⟨G0, H0, ρ, G, o, st, z, q⟩
  refine ⟨fun m σ2 H2 => ∃ ρ2 G2, StOk X.K G0 H0 ρ2 σ2 G2 H2 ∧ whlD (fun ρ => (ec ρ).bind asB) eb m ρ2 = some o, ⟨fu, ρ, G, st, z⟩, ?_⟩
  rintro m σ2 H2 ⟨ρ2, G2, st2, z2⟩
  cases m with
  | zero => cases z2
  | succ m =>
    rw [whlD] at z2
    cases e : (ec ρ2).bind asB with
    | none =>
      rw [e] at z2
      cases z2
    | some t =>
      rw [e] at z2
      refine ⟨ρ2, G2, t, .of st2, e, fun G3 H3 e3 => ?_⟩
      have st3 := st2.mono e3
      cases t with
      | false =>
        dsimp only
        rw [if_neg Bool.false_ne_true]
        cases z2
        exact q σ2 G3 H3 st3
      | true =>
        dsimp only
        rw [if_pos rfl]
        refine ⟨fun σ' H' => ∃ ρ2 G2, StOk X.K G0 H0 ρ2 σ' G2 H' ∧ whlD (fun ρ => (ec ρ).bind asB) eb m ρ2 = some o, fun σ' H' hN => ⟨m, Nat.lt_succ_self _, hN⟩, ?_⟩
        have z2 : (match eb ρ2 with
          | some (.nx ρ') => whlD (fun ρ => (ec ρ).bind asB) eb m ρ'
          | some (.ct ρ') => whlD (fun ρ => (ec ρ).bind asB) eb m ρ'
          | some (.bk ρ') => some (.nx ρ')
          | some (.rt fr x) => some (.rt fr x)
          | none => none) = some o := z2
        cases e4 : eb ρ2 with
        | none =>
          rw [e4] at z2
          cases z2
        | some o1 =>
          rw [e4] at z2
          refine ⟨G0, H0, ρ2, G3, o1, st3, e4, ?_⟩
          cases o1 with
          | nx ρ5 => exact fun σ5 G5 H5 st5 => ⟨ρ5, G5, st5, z2⟩
          | ct ρ5 => exact fun σ5 G5 H5 st5 => ⟨ρ5, G5, st5, z2⟩
          | bk ρ5 =>
            cases z2
            exact fun σ5 G5 H5 st5 => q σ5 G5 H5 st5
          | rt fr x =>
            cases z2
            exact fun G5 H5 v ex r => q G5 H5 v ex r
theorem s_brk : PS X (.Break pos) (tS X.K fun ρ => some (.bk ρ)) := by
  refine ps_imp ps_break ?_
  rintro D σ H ⟨G0, H0, ρ, G, o, st, z, q⟩
  cases z
  exact q σ G H st
theorem s_cnt : PS X (.Continue pos) (tS X.K fun ρ => some (.ct ρ)) := by
  refine ps_imp ps_continue ?_
  rintro D σ H ⟨G0, H0, ρ, G, o, st, z, q⟩
  cases z
  exact q σ G H st
theorem s_pass : PS X (.Pass pos) (tS X.K fun ρ => some (.nx ρ)) := by
  refine ps_imp ps_pass ?_
  rintro D σ H ⟨G0, H0, ρ, G, o, st, z, q⟩
  cases z
  exact q σ G H st
end
end Ev
end
section
/-! Ev11: statements side by side, and: what a statement is worth, the text does; defs. -/
namespace Ev
open PySem PySem.Spec L2
section
variable (N : List Str) (fns gls : List Str)
def isComp : Expr → Bool
  | .ListComp .. => true
  | _ => false
/-- the comprehension's value goes into the name as CPython does it on one line; otherwise as any value -/
def compSw (sc : Scope) (x : Str) (px : Pos) : Expr → Bool
  | .ListComp _ _ scope q => kindB sc x .local && ((px.line == q.line) && !(scope.names.any fun (n, k) => n == x && (k == .local || k == .cell)))
  | _ => false
def tgB (sc : Scope) : Tg → Expr → Bool
  | .one i, .Name x _ => decide (N[i]? = some x) && locB sc x
  | .tup is, .Tuple l _ _ => namesB N sc is l
  | _, _ => false
def isName : Expr → Bool
  | .Name .. => true
  | _ => false
def isTupE : Expr → Bool
  | .Tuple .. => true
  | _ => false
mutual
def chkS : S → Stmt → Scope → Bool
  | .asg t e, st, sc => match st with
    | .Assign [tg] v _ => nb e && (chkE N fns gls e v sc && (tgB N sc t tg && (if isComp v = true then (match tg with | .Name x px => compSw sc x px v | _ => false) else (isName tg || !isTupE v))))
    | _ => false
  | .asgN i e, st, sc => match st with
    | .Assign [.Name x px] v _ => chkE N fns gls e v sc && (decide (N[i]? = some x) && (locB sc x && (!isComp v || compSw sc x px v)))
    | _ => false
  | .aug i o e, st, sc => match st with
    | .AugAssign (.Name x _) op v _ => o2B o op && (decide (N[i]? = some x) && (locB sc x && chkE N fns gls e v sc))
    | _ => false
  | .app i e, st, sc => match st with
    | .Expr (.Call (.Attribute a f ap) [v] [] cp) _ => (f == ("append" : Str)) && (varB N sc i a && (nb e && ((ap.endLine == cp.line) && chkE N fns gls e v sc)))
    | _ => false
  | .clr i, st, sc => match st with
    | .Expr (.Call (.Attribute a f ap) [] [] cp) _ => (f == ("clear" : Str)) && (varB N sc i a && (ap.endLine == cp.line))
    | _ => false
  | .set i k e, st, sc => match st with
    | .Assign [.Subscript a kx _] v _ => varB N sc i a && (nb e && (!isComp v && (chkE N fns gls k kx sc && chkE N fns gls e v sc)))
    | _ => false
  | .frz _, _, _ => false
  | .ife c a b, st, sc => match st with
    | .If t x y _ => tb c && (chkE N fns gls c t sc && (chkSs a x sc && chkSs b y sc))
    | _ => false
  | .for_ t it b, st, sc => match st with
    | .For tg iter x [] _ => tgB N sc t tg && (chkI N fns gls it iter sc && chkSs b x sc)
    | _ => false
  | .whl c b, st, sc => match st with
    | .While t x [] _ => tb c && (chkE N fns gls c t sc && chkSs b x sc)
    | _ => false
  | .ret e, st, sc => match st with
    | .Return (some v) _ => nb e && chkE N fns gls e v sc
    | _ => false
  | .retO i, st, sc => match st with
    | .Return (some v) _ => varB N sc i v
    | _ => false
  | .retN, st, _ => match st with
    | .Return none _ => true
    | _ => false
  | .brk, st, _ => match st with | .Break _ => true | _ => false
  | .cnt, st, _ => match st with | .Continue _ => true | _ => false
  | .pass, st, _ => match st with | .Pass _ => true | _ => false
def chkSs : Ss → List Stmt → Scope → Bool
  | .nil, l, _ => l.isEmpty
  | .cons (.frz _) r, l, sc => chkSs r l sc
  | .cons s r, l, sc => match l with
    | st :: l => chkS s st sc && chkSs r l sc
    | [] => false
end
end
structure WdS (N fns gls : List Str) (gs : Nat → Option D) (cf : Cf) (X : Cx) : Prop where
  w : Wd N fns gls gs cf X
  fn : ∀ x, X.fn x = true
  hp : PassesOwn (model X.prog X.w) X.A X.env X.xe
  kd : X.env.scope.kind = .function
section
variable {N fns gls : List Str} {gs : Nat → Option D} {cf : Cf} {fu : Nat}
theorem sw_plain {v : Expr} {tg : Option Expr} {l : Nat} {env : Env} {e : E} {sc : Scope} (h : chkE N fns gls e v sc = true) (hc : isComp v = false) : swapsWith v tg l env = pure false := by
  cases v <;> first
    | rfl
    | (simp [isComp] at hc; done)
    | (cases e <;> simp [chkE, varB] at h)
theorem tg_of {X : Cx} (W : WdS N fns gls gs cf X) {t : Tg} {tg : Expr} (h : tgB N X.env.scope t tg = true) : PG X tg (tG X.K fun d ρ => asgD t d ρ) := by
  cases t <;> cases tg <;> simp only [tgB] at h <;> first
    | (cases h; done)
    | skip
  · simp only [Bool.and_eq_true, decide_eq_true_eq] at h
    exact g_one W.w.nd (by rw [W.w.hN]; exact h.1) (loc_of h.2) (W.fn _)
  · exact g_tup W.w.nd W.w.calm W.fn (by rw [W.w.hN]; exact h)
theorem comp_sw {X : Cx} (W : WdS N fns gls gs cf X) {x : Str} {px : Pos} {elt : Expr} {gens : List Comprehension} {scope : Scope} {q : Pos} {l : Nat} (h : compSw X.env.scope x px (.ListComp elt gens scope q) = true) :
    X.env.scope.names.lookup x = some .local ∧ swapsWith (.ListComp elt gens scope q) (some (.Name x px)) l X.env = pure true := by
  simp only [compSw, kindB, Bool.and_eq_true, decide_eq_true_eq, Bool.not_eq_true'] at h
  exact ⟨h.1, sw_true W.kd h.1 h.2.1 h.2.2⟩
/-- a comprehension into a name -/
theorem s_setLc {X : Cx} (W : WdS N fns gls gs cf X) {elt : E} {i j : Nat} {it : Ev.It} {cnd : Oe} {x : Str} {px spos : Pos} {v : Expr} (hi : N[j]? = some x) (h : chkE N fns gls (.comp elt i it cnd) v X.env.scope = true) (hs : compSw X.env.scope x px v = true) :
    ∃ t, PS X (.Assign [.Name x px] v spos) (tAsg t (gName j)) ∧ ∀ σ H Q, tN X.K (fun ρ => evN gs cf (.comp elt i it cnd) ρ) σ H Q → t σ H Q := by
  simp only [chkE] at h
  split at h <;> first
    | (cases h; done)
    | skip
  rename_i el y py iter ifs scope q
  obtain ⟨k1, k2⟩ := comp_sw W hs (l := spos.line)
  simp only [Bool.and_eq_true, decide_eq_true_eq] at h
  obtain ⟨h1, h2, h3, h4, h5, h6, h7⟩ := h
  have hk := of_decide_eq_true h3
  have hx : X.N[i]? = some y := by rw [W.w.hN]; exact h2
  exact ⟨_, ps_setLc W.w.calm W.w.nd (by rw [W.w.hN]; exact hi) k1 k2 (soundI it W.w h5) (by rw [W.w.hN]; exact blkOk_by h4) (comp_pg W.w.nd hx hk)
    (fun s H C cl fp => soundO cnd (W.w.blk s H _ _ fp) h6) (fun s H C cl fp => (soundE elt (W.w.blk s H _ _ fp) h7).v h1) (chkI_set h5), rd_comp⟩
theorem comp_only {e : E} {v : Expr} {sc : Scope} (h : chkE N fns gls e v sc = true) (hc : isComp v = true) : ∃ elt i it cnd, e = .comp elt i it cnd := by
  cases v <;> first
    | (simp [isComp] at hc; done)
    | skip
  cases e <;> first
    | exact ⟨_, _, _, _, rfl⟩
    | (simp [chkE, varB] at h)
theorem bool_nt {b : Bool} (h : (!b) = true) : b = false := by
  cases b <;> first
    | rfl
    | cases h
mutual
theorem soundS : ∀ (s : S) {X : Cx} {st : Stmt}, WdS N fns gls gs cf X → chkS N fns gls s st X.env.scope = true → PS X st (tS X.K fun ρ => exS gs cf fu s ρ)
  | .asg t e, X, st, W, h => by
    simp only [chkS] at h
    split at h <;> first
      | (cases h; done)
      | skip
    rename_i tg v q
    simp only [Bool.and_eq_true] at h
    obtain ⟨h1, h2, h3, h4⟩ := h
    have G := tg_of W h3
    have V := (soundE (gs := gs) (cf := cf) e W.w h2).v h1
    simp only [exS]
    by_cases hc : isComp v = true
    · rw [if_pos hc] at h4
      split at h4 <;> first
        | (cases h4; done)
        | skip
      rename_i x px
      obtain ⟨elt, i, it, cnd, rfl⟩ := comp_only h2 hc
      cases t with
      | tup is => simp [tgB] at h3
      | one j =>
        simp only [tgB, Bool.and_eq_true, decide_eq_true_eq] at h3
        obtain ⟨t, P, R⟩ := s_setLc (spos := q) W h3.1 h2 h4
        refine s_asg (as := fun d ρ => asgD (.one j) d ρ) P (fun σ H Q z => R σ H Q (tN_of (ev := fun ρ => evN gs cf (.comp elt i it cnd) ρ) (fun ρ d z => ?_) σ H Q z)) ?_
        · simp only [evE] at z
          obtain ⟨xs, z1, z2⟩ := Option.map_eq_some_iff.mp z
          exact ⟨xs, z1, z2.symm⟩
        · rintro w σ H Q ⟨G0, H0, ρ, G, d, ρ', st, r, e, z⟩
          cases e
          exact z _ (st.setS j r)
    · rw [if_neg hc] at h4
      have hsw := fun tg l => sw_plain (tg := tg) (l := l) (env := X.env) h2 (by simpa using hc)
      cases t with
      | one j =>
        cases tg <;> simp only [tgB] at h3 <;> first
          | (cases h3; done)
          | skip
        rename_i x px
        simp only [Bool.and_eq_true, decide_eq_true_eq] at h3
        refine s_asg (as := fun d ρ => asgD (.one j) d ρ) (ps_set W.w.nd (by rw [W.w.hN]; exact h3.1) (loc_of h3.2) V (hsw _ _) (.inl (W.fn _))) (fun σ H Q z => z) ?_
        rintro w σ H Q ⟨G0, H0, ρ, G, d, ρ', st, r, e, z⟩
        cases e
        exact z _ (st.setS j r)
      | tup is =>
        cases tg <;> simp only [tgB] at h3 <;> first
          | (cases h3; done)
          | skip
        rename_i l n pq
        have hv : isTupE v = false := by simpa [isName] using h4
        have hw : swappedStores [.Tuple l n pq] v X.env = pure none := by
          cases v <;> first
            | rfl
            | (simp [isTupE] at hv)
        exact s_asg (ps_asg V G (by rw [swapsWithSole]; exact hsw _ _) hw rfl) (fun σ H Q z => z) (fun v σ H Q z => z)
  | .asgN i e, X, st, W, h => by
    simp only [chkS] at h
    split at h <;> first
      | (cases h; done)
      | skip
    rename_i x px v q
    simp only [Bool.and_eq_true, decide_eq_true_eq] at h
    obtain ⟨h1, h2, h3, h4⟩ := h
    simp only [exS]
    by_cases hc : isComp v = true
    · obtain ⟨elt, k, it, cnd, rfl⟩ := comp_only h1 hc
      have h5 : compSw X.env.scope x px v = true := by
        rw [hc] at h4
        simpa using h4
      obtain ⟨t, P, R⟩ := s_setLc (spos := q) W h2 h1 h5
      exact s_asgN P R
    · exact s_asgN (ps_set W.w.nd (by rw [W.w.hN]; exact h2) (loc_of h3) (soundN (gs := gs) (cf := cf) e W.w h1) (sw_plain h1 (by simpa using hc)) (.inl (W.fn _))) (fun σ H Q z => z)
  | .aug i o e, X, st, W, h => by
    simp only [chkS] at h
    split at h <;> first
      | (cases h; done)
      | skip
    simp only [Bool.and_eq_true, decide_eq_true_eq] at h
    simp only [exS]
    exact s_aug W.w.nd (by rw [W.w.hN]; exact h.2.1) (loc_of h.2.2.1) (W.fn _) h.1 (soundE e W.w h.2.2.2).b
  | .app i e, X, st, W, h => by
    simp only [chkS] at h
    split at h <;> first
      | (cases h; done)
      | skip
    simp only [Bool.and_eq_true] at h
    obtain ⟨h1, h2, h3, h4, h5⟩ := h
    cases eq_of_beq h1
    obtain ⟨x, q, rfl, g1, g2, g3, g4⟩ := var_of W.w h2
    simp only [exS]
    exact s_app g1 g2 g3 g4 (chk_form h5) h4 ((soundE e W.w h5).v h3)
  | .clr i, X, st, W, h => by
    simp only [chkS] at h
    split at h <;> first
      | (cases h; done)
      | skip
    simp only [Bool.and_eq_true] at h
    obtain ⟨h1, h2, h3⟩ := h
    cases eq_of_beq h1
    obtain ⟨x, q, rfl, g1, g2, g3, g4⟩ := var_of W.w h2
    simp only [exS]
    exact s_clr g1 g2 g3 g4 h3
  | .set i k e, X, st, W, h => by
    simp only [chkS] at h
    split at h <;> first
      | (cases h; done)
      | skip
    simp only [Bool.and_eq_true] at h
    obtain ⟨h1, h2, h3, h4, h5⟩ := h
    obtain ⟨x, q, rfl, g1, g2, g3, g4⟩ := var_of W.w h1
    simp only [exS]
    exact s_set g1 g2 g3 g4 (chk_form h4) (by rw [swapsWithSole]; exact sw_plain h5 (bool_nt h3)) ((soundE e W.w h5).v h2) (soundE k W.w h4).b
  | .frz i, X, st, W, h => by simp [chkS] at h
  | .ife c a b, X, st, W, h => by
    simp only [chkS] at h
    split at h <;> first
      | (cases h; done)
      | skip
    simp only [Bool.and_eq_true] at h
    obtain ⟨h1, h2, h3, h4⟩ := h
    simp only [exS]
    exact s_if ((soundE c W.w h2).t h1) (soundSs a W h3) (soundSs b W h4)
  | .for_ t it b, X, st, W, h => by
    simp only [chkS] at h
    split at h <;> first
      | (cases h; done)
      | skip
    simp only [Bool.and_eq_true] at h
    obtain ⟨h1, h2, h3⟩ := h
    simp only [exS]
    exact s_for W.hp W.w.calm (chkI_set h2) (soundI it W.w h2) (tg_of W h1) (soundSs b W h3)
  | .whl c b, X, st, W, h => by
    simp only [chkS] at h
    split at h <;> first
      | (cases h; done)
      | skip
    simp only [Bool.and_eq_true] at h
    obtain ⟨h1, h2, h3⟩ := h
    simp only [exS]
    exact s_while W.hp ((soundE c W.w h2).t h1) (soundSs b W h3)
  | .ret e, X, st, W, h => by
    simp only [chkS] at h
    split at h <;> first
      | (cases h; done)
      | skip
    simp only [Bool.and_eq_true] at h
    simp only [exS]
    exact s_ret ((soundE e W.w h.2).v h.1)
  | .retO i, X, st, W, h => by
    simp only [chkS] at h
    split at h <;> first
      | (cases h; done)
      | skip
    obtain ⟨x, q, rfl, g1, g2, g3, g4⟩ := var_of W.w h
    simp only [exS]
    exact s_retO g1 g2 g3 g4
  | .retN, X, st, W, h => by
    simp only [chkS] at h
    split at h <;> first
      | (cases h; done)
      | skip
    simp only [exS]
    exact s_retN
  | .brk, X, st, W, h => by
    simp only [chkS] at h
    split at h <;> first
      | (cases h; done)
      | skip
    simp only [exS]
    exact s_brk
  | .cnt, X, st, W, h => by
    simp only [chkS] at h
    split at h <;> first
      | (cases h; done)
      | skip
    simp only [exS]
    exact s_cnt
  | .pass, X, st, W, h => by
    simp only [chkS] at h
    split at h <;> first
      | (cases h; done)
      | skip
    simp only [exS]
    exact s_pass
theorem soundSs : ∀ (s : Ss) {X : Cx} {l : List Stmt}, WdS N fns gls gs cf X → chkSs N fns gls s l X.env.scope = true → PSs X l (tS X.K fun ρ => exSs gs cf fu s ρ)
  | .nil, X, l, W, h => by
    cases l with
    | cons _ _ => simp [chkSs] at h
    | nil =>
      simp only [exSs]
      exact s_nil
  | .cons s r, X, l, W, h => by
    by_cases hz : ∃ i, s = .frz i
    · obtain ⟨i, rfl⟩ := hz
      rw [chkSs] at h
      have := s_frz (i := i) (soundSs r W h)
      simpa only [exSs, exS] using this
    · cases l with
      | nil =>
        exfalso
        cases s <;> first
          | exact hz ⟨_, rfl⟩
          | (simp [chkSs] at h)
      | cons st l =>
        have h' : chkS N fns gls s st X.env.scope = true ∧ chkSs N fns gls r l X.env.scope = true := by
          cases s <;> first
            | exact absurd ⟨_, rfl⟩ hz
            | (simpa only [chkSs, Bool.and_eq_true] using h)
        simp only [exSs]
        exact s_cons (soundS s W h'.1) (soundSs r W h'.2)
end
end
end Ev
end
section
/-! Ev12: the defs of a module, side by side with their bodies; a law is what its pure reading is. -/
namespace Ev
open PySem PySem.Spec L2

structure DefI where
  name : Str
  ps : List Str
  N : List Str
  args : Arguments
  body : List Stmt
  scope : Scope
  ir : Ss
def scopeB (N ps : List Str) (sc : Scope) : Bool := decide (sc.kind = .function) && (!sc.isCoroutine && (!sc.isGenerator && (decide N.Nodup && (decide (N.take ps.length = ps) && (ps.all (fun x => locB sc x) && sc.names.all fun y => decide (y.2 ≠ .free))))))
theorem scope_ok {N ps : List Str} {sc : Scope} (h : scopeB N ps sc = true) : FnScope N ps sc := by
  simp only [scopeB, Bool.and_eq_true, decide_eq_true_eq, Bool.not_eq_true', List.all_eq_true] at h
  obtain ⟨h1, h2, h3, h4, h5, h6, h7⟩ := h
  exact ⟨h1, h2, h3, h4, h5, fun x hx => loc_of (h6 x hx), fun y hy => h7 y hy⟩
def fnT (ds : List DefI) (i : Nat) : Option Fn := (ds[i]?).map fun d => ⟨d.ps.length, d.N.length, d.ir⟩
def chkD (fns gls : List Str) (d : DefI) : Bool := scopeB d.N d.ps d.scope && chkSs d.N fns gls d.ir d.body d.scope
theorem take_le {N ps : List Str} (h : N.take ps.length = ps) : ps.length ≤ N.length := by
  have := congrArg List.length h
  rw [List.length_take] at this
  omega
theorem start_ok {K : PySem.W.Frag} {G H : Hp} {N : List Str} {vs : List V} {ds : List D} (s : Same G H) (r : RpAll K G vs ds) : StOk K G H (startD N.length ds) (L2.start N vs) G H := by
  have hl := dpAll_len r
  refine ⟨.refl s, ?_, fun i d h => ?_, fun i d h => ?_, fun i j d e a _ h => ?_⟩
  · simp [L2.start, startD, hl]
  · unfold startD at h
    rw [List.getElem?_append] at h
    split at h
    · rename_i hi
      rw [List.length_map] at hi
      rw [List.getElem?_map, List.getElem?_eq_getElem hi] at h
      simp only [Option.map_some, Option.some.injEq, Prod.mk.injEq, true_and] at h
      obtain ⟨v, h1, h2⟩ := dpAll_get r (n := i) (d := d) (by rw [List.getElem?_eq_getElem hi, h])
      refine ⟨v, ?_, h2⟩
      unfold L2.start
      rw [List.getElem?_append, if_pos (by rw [List.length_map, hl]; exact hi), List.getElem?_map, h1]
      rfl
    · rw [List.getElem?_replicate] at h
      split at h <;> simp at h
  all_goals
    unfold startD at h
    rw [List.getElem?_append] at h
    split at h
    · rename_i hi
      rw [List.length_map] at hi
      rw [List.getElem?_map, List.getElem?_eq_getElem hi] at h
      simp at h
    · rw [List.getElem?_replicate] at h
      split at h <;> simp at h
/-- a module: its defs stand under their names -/
structure Mod (P : Program) (w : World) (K : PySem.W.Frag) (mg : Str → Option Value) (base : Heap) (ds : List DefI) (gls : List Str) (gs : Nat → Option D) : Prop where
  df : ∀ (i : Nat) (d : DefI), ds[i]? = some d → ∃ f fd, FunD K d.name d.name d.args d.body d.scope [] [] f fd ∧ mg d.name = some (.ref f) ∧ Binds K fd d.ps []
  blt : ∀ x ∈ bltNames, mg x = none
  gl : ∀ (k : Nat) (x : Str) (d : D), gls[k]? = some x → gs k = some d → ∃ (u : Value) (v : V), mg x = some u ∧ RelV v u ∧ ∀ G, Rp K G v d
  chk : ∀ (i : Nat) (d : DefI), ds[i]? = some d → chkD (ds.map (·.name)) gls d = true
theorem defs_ok {P : Program} {w : World} {K : PySem.W.Frag} {mg : Str → Option Value} {base : Heap} {ds : List DefI} {gls : List Str} {gs : Nat → Option D} (M : Mod P w K mg base ds gls gs) (fu : Nat) :
    ∀ (k i : Nat) (d : DefI), ds[i]? = some d → ∃ f fd, FnOk P w K mg base CX0 k f fd d.ps (spI K (callF gs (fnT ds) fu k i)) ∧ mg d.name = some (.ref f) ∧ PySem.W.keepIn K (.ref f) = true ∧ Binds K fd d.ps [] ∧ FunD K d.name d.name d.args d.body d.scope [] [] f fd
  | 0, i, d, h => by
    obtain ⟨f, fd, F, g, b⟩ := M.df i d h
    have no : ∀ vs H Q E, ¬ spI K (callF gs (fnT ds) fu 0 i) vs H Q E := by
      rintro vs H Q E ⟨_, _, _, _, _, _, z, _⟩
      simp [callF] at z
    exact ⟨f, fd, ⟨fun vs H Q E z => absurd z (no _ _ _ _), fun _ _ _ _ _ _ _ _ _ _ _ _ _ z => absurd z (no _ _ _ _)⟩, g, F.kp, b, F⟩
  | k + 1, i, d, h => by
    obtain ⟨f, fd, F, g, b⟩ := M.df i d h
    have c := M.chk i d h
    simp only [chkD, Bool.and_eq_true] at c
    have S := scope_ok c.1
    have hn : fnT ds i = some ⟨d.ps.length, d.N.length, d.ir⟩ := by
      unfold fnT
      rw [h]
      rfl
    refine ⟨f, fd, F.ok S (fun vs H Q E z => ?_) (fun cdv A outer s H vs Q E hr z => ?_), g, F.kp, b, F⟩
    · obtain ⟨G, es, fr, x, _, r, z, _⟩ := z
      rw [dpAll_len r]
      simp only [callF, hn] at z
      split at z
      · rename_i q
        exact q.1
      · cases z
    · refine ⟨tS K fun ρ => exSs gs (callF gs (fnT ds) fu k) fu d.ir ρ, ?_, ?_⟩
      · refine PSs.nox (soundSs (N := d.N) (fns := ds.map (·.name)) (gls := gls) d.ir ?_ c.2)
        refine ⟨⟨rfl, S.nd, rfl, hr.units, M.blt, fun j x hx => ?_, fun j x e h1 h2 => M.gl j x e h1 h2⟩, fun _ => rfl, PassesOwn.never, S.kind⟩
        rw [List.getElem?_map] at hx
        obtain ⟨d', h1, h2⟩ := Option.map_eq_some_iff.mp hx
        subst h2
        obtain ⟨f', fd', o, g', kp, b', _⟩ := defs_ok M fu k j d' h1
        exact .inr ⟨k, d'.ps, f', fd', o, hr, g', kp, b'⟩
      · obtain ⟨G, es, fr, x, sm, r, z, q⟩ := z
        simp only [callF, hn] at z
        split at z
        · unfold outD at z
          split at z <;> first
            | (cases z; done)
            | skip
          · rename_i fr' d' he
            cases z
            exact ⟨G, H, startD d.N.length es, G, _, start_ok sm r, he, fun G' H' v e rv => q G' H' v e rv⟩
          · rename_i ρ' he
            cases z
            exact ⟨G, H, startD d.N.length es, G, _, start_ok sm r, he, fun σ' G' H' st => q G' H' .non st.ext .non⟩
        · cases z
/-- what a law's run promises, of the pure reading -/
theorem law_ok {P : Program} {w : World} {K : PySem.W.Frag} {mg : Str → Option Value} {base : Heap} {ds : List DefI} {gls : List Str} {gs : Nat → Option D} (M : Mod P w K mg base ds gls gs) (fu k i n : Nat) {d : DefI} (h : ds[i]? = some d)
    (pure : ∀ ns : List Int, ns.length ≤ n → callF gs (fnT ds) fu k i [klD (ns.map .int)] = some (false, .bool true)) :
    ∀ (H : Hp) (a : Addr) (ns : List Int), ns.length ≤ n → Only H → SqL K H a (List.map V.int ns) → spI K (callF gs (fnT ds) fu k i) [.ref a] H (fun v _ => v = .bl true) fun _ _ _ => False := by
  intro H a ns hl _ hS
  refine ⟨H, [klD (ns.map .int)], false, .bool true, Same.refl _, .cons (.kls hS ?_) .nil, pure ns hl, fun G' H' v e rv => ?_⟩
  · clear hl hS pure
    induction ns with
    | nil => exact .nil
    | cons x r ih => exact .cons (.int x) ih
  · unfold RetV at rv
    simp only [Bool.false_eq_true, if_false] at rv
    cases rv
    rfl
end Ev
end
section
/-! Ev13: what the head tells of a module, as Mod. -/
namespace Ev
open PySem PySem.Spec L2

def dOf (d : DefI) : He.DefD := ⟨(d.name, none), d.name, d.name, d.args, d.body, d.scope, [], []⟩
def faOf (ds : List DefI) (iz : List (Str × Int)) : List He.Fa := ds.map (fun d => .glo d.name) ++ (bltNames.map .free ++ iz.map fun p => .int p.1 p.2)
def BndOk (d : DefI) : Prop := ∀ (kV doc pm : Value) (an : Option Addr) (cdv ct : Value) (us : List Value), us.length = d.ps.length → bindArgs (PySem.W.fnOf d.name d.name d.args d.body d.scope Value.none kV doc pm an cdv ct) { pos := us } = pure (d.ps.zip us)
theorem fact_mem {fa : List He.Fa} {fn : List He.DefD} {K : PySem.W.Frag} (c : He.SaysD fa fn K) {f : He.Fa} (h : f ∈ fa) : He.Fa.ok K f = true := by
  obtain ⟨i, hi⟩ := List.getElem?_of_mem h
  exact c.fact i hi
theorem def_of {fa : List He.Fa} {K : PySem.W.Frag} {ds : List DefI} (c : He.SaysD fa (ds.map dOf) K) {i : Nat} {d : DefI} (h : ds[i]? = some d) : ∃ fd, FunD K d.name d.name d.args d.body d.scope [] [] (He.fAd K (d.name, none)) fd :=
  c.def_ i (d := dOf d) (by rw [List.getElem?_map, h]; rfl)
theorem mod_of {P : Program} {w : World} {K : PySem.W.Frag} {h : Heap} {mg : Str → Option Value} {base : Heap} {ds : List DefI} {iz : List (Str × Int)} {gls : List Str} {gs : Nat → Option D}
    (X : K.In h) (G : h.Ns mainGlobals mg) (c : He.SaysD (faOf ds iz) (ds.map dOf) K) (hb : ∀ d ∈ ds, BndOk d) (hc : ds.all (chkD (ds.map (·.name)) gls) = true)
    (hg : ∀ (k : Nat) (x : Str) (d : D), gls[k]? = some x → gs k = some d → ∃ i, d = .int i ∧ (x, i) ∈ iz) : Mod P w K mg base ds gls gs := by
  refine ⟨fun i d hi => ?_, fun x hx => ?_, fun k x d h1 h2 => ?_, fun i d hi => ?_⟩
  · obtain ⟨fd, F⟩ := def_of c hi
    have hm := List.mem_of_getElem? hi
    refine ⟨_, fd, F, He.glo_ok X G (fact_mem c ?_), F.bindsN (hb d hm)⟩
    exact List.mem_append_left _ (List.mem_map.mpr ⟨d, hm, rfl⟩)
  · exact He.free_ok X G (fact_mem c (List.mem_append_right _ (List.mem_append_left _ (List.mem_map.mpr ⟨x, hx, rfl⟩))))
  · obtain ⟨i, rfl, hm⟩ := hg k x d h1 h2
    obtain ⟨t, ht⟩ := He.int_ok X G (x := x) (i := i) (fact_mem c (List.mem_append_right _ (List.mem_append_right _ (List.mem_map.mpr ⟨(x, i), hm, rfl⟩))))
    exact ⟨_, .int i, ht, ⟨t, rfl⟩, fun G => .int i⟩
  · exact List.all_eq_true.mp hc d (List.mem_of_getElem? hi)
/-- the law's def by the head: what its promise wants -/
theorem law_of {P : Program} {w : World} {K : PySem.W.Frag} {h : Heap} {mg : Str → Option Value} {f : Addr} {ds : List DefI} {iz : List (Str × Int)} {gls : List Str} {gs : Nat → Option D} {fu k i n : Nat} {d : DefI} {x : Str}
    (X : K.In h) (G : h.Ns mainGlobals mg) (hfa : mg d.name = some (.ref f)) (c : He.SaysD (faOf ds iz) (ds.map dOf) K) (hb : ∀ d ∈ ds, BndOk d) (hc : ds.all (chkD (ds.map (·.name)) gls) = true)
    (hg : ∀ (k : Nat) (x : Str) (d : D), gls[k]? = some x → gs k = some d → ∃ i, d = .int i ∧ (x, i) ∈ iz) (hi : ds[i]? = some d) (hx : d.ps = [x])
    (pure : ∀ ns : List Int, ns.length ≤ n → callF gs (fnT ds) fu k i [klD (ns.map .int)] = some (false, .bool true)) :
    ∃ (fd : FuncData) (sp : Sp), (∀ (s : Shared) (u : Value), BindsTo s fd { pos := [u] } [(x, u)]) ∧
      (∀ (H : Hp) (a : Addr) (ns : List Int), ns.length ≤ n → Only H → SqL K H a (List.map V.int ns) → sp [.ref a] H (fun v _ => v = .bl true) fun _ _ _ => False) ∧
      ∀ (base : Heap), K.In base → base.Ns mainGlobals mg → FnOk P w K mg base CX0 k f fd [x] sp := by
  obtain ⟨fd, F⟩ := def_of c hi
  have hm := List.mem_of_getElem? hi
  have e := hfa.symm.trans (He.glo_ok X G (fact_mem c (List.mem_append_left _ (List.mem_map.mpr ⟨d, hm, rfl⟩))))
  have b := F.bindsA (hb d hm)
  cases e
  refine ⟨fd, spI K (callF gs (fnT ds) fu k i), fun s u => ?_, ?_, fun base hK hG => ?_⟩
  · have := b s [u] (by rw [hx]; rfl)
    rw [hx] at this
    exact this
  · exact law_ok (P := P) (w := w) (base := h) (mg := mg) (mod_of X G c hb hc hg) fu k i n hi pure
  · obtain ⟨f', fd', o, g, _, _, F'⟩ := defs_ok (P := P) (w := w) (base := base) (mod_of X G c hb hc hg) fu k i d hi
    have e : f' = He.fAd K (d.name, none) := by
      have := g.symm.trans hfa
      cases this
      rfl
    subst e
    rw [hx] at o
    obtain ⟨_, _, _, _, _, _, _, _, _, _, _, e2, _⟩ := F.ex
    obtain ⟨_, _, _, _, _, _, _, _, _, _, _, e3, _⟩ := F'.ex
    have := e2.symm.trans e3
    cases this
    exact o
end Ev
end
section
/-! Ev15: the head with tuples of the module. -/
namespace Ev
open PySem PySem.Spec L2

def dvOf : D → He.Dv
  | .str s => .str s
  | .int i => .int i
  | .bool b => .bl b
  | _ => .non
theorem rp_dv {K : PySem.W.Frag} {G : Hp} : ∀ {d : D}, scalD d = true → Rp K G ((dvOf d).v K) d
  | .none, _ => .non
  | .bool b, _ => .bl b
  | .int i, _ => .int i
  | .str s, _ => .str s
theorem rp_dvs {K : PySem.W.Frag} {G : Hp} : ∀ {ds : List D}, ds.all scalD = true → RpAll K G ((ds.map dvOf).map (He.Dv.v K)) ds
  | [], _ => .nil
  | d :: ds, h => by
    simp only [List.all_cons, Bool.and_eq_true] at h
    exact .cons (rp_dv h.1) (rp_dvs h.2)
abbrev AlE := He.AlD × Bool
def obsE (fa : List He.Fa) (fn : List He.DefD) (tu : List (Str × List D)) (K : PySem.W.Frag) : AlE := (He.obsD fa fn K, tu.all fun p => He.tupB K p.1 (p.2.map dvOf))
def SaysE (fa : List He.Fa) (fn : List He.DefD) (tu : List (Str × List D)) (K : PySem.W.Frag) : Prop := obsE fa fn tu K = (He.valD fn, true)
def obsEG (n : Nat) (fa : List He.Fa) (fn : List He.DefD) (tu : List (Str × List D)) (g : Addr → Option Obj) : AlE := obsE fa fn tu (He.frG g (He.asD g n))
def hookE (n : Nat) (fa : List He.Fa) (fn : List He.DefD) (tu : List (Str × List D)) : PySem.W.Hook where
  α := AlE
  obs := fun s => obsEG n fa fn tu s.heap.get?
  val := fun _ => (He.valD fn, true)
  says := fun _ h => ∃ K : PySem.W.Frag, K.In h ∧ SaysE fa fn tu K
  of := fun _ _ e => ⟨_, He.frG_in, e⟩
  keeps := fun _ _ _ ⟨K, hK, c⟩ k => ⟨K, PySem.W.Frag.In.keeps hK k, c⟩
theorem obsEG_eq {n : Nat} {fa : List He.Fa} {fn : List He.DefD} {tu : List (Str × List D)} {g : Addr → Option Obj} {s : Shared} (h : ∀ a, g a = s.heap.get? a) : obsEG n fa fn tu g = (hookE n fa fn tu).obs s := by
  have e : g = s.heap.get? := funext h
  rw [e]
  rfl
theorem SaysE.d {fa : List He.Fa} {fn : List He.DefD} {tu : List (Str × List D)} {K : PySem.W.Frag} (c : SaysE fa fn tu K) : He.SaysD fa fn K := congrArg (fun z : AlE => z.1) c
theorem SaysE.t {fa : List He.Fa} {fn : List He.DefD} {tu : List (Str × List D)} {K : PySem.W.Frag} (c : SaysE fa fn tu K) {x : Str} {ds : List D} (h : (x, ds) ∈ tu) : He.tupB K x (ds.map dvOf) = true := by
  have e : (tu.all fun p => He.tupB K p.1 (p.2.map dvOf)) = true := congrArg (fun z : AlE => z.2) c
  exact List.all_eq_true.mp e (x, ds) h
def faE (ds : List DefI) (iz : List (Str × Int)) (tu : List (Str × List D)) : List He.Fa := ds.map (fun d => .glo d.name) ++ (bltNames.map .free ++ (iz.map (fun p => .int p.1 p.2) ++ tu.map fun p => .glo p.1))
def GlE (gls : List Str) (gs : Nat → Option D) (iz : List (Str × Int)) (tu : List (Str × List D)) : Prop := ∀ (k : Nat) (x : Str) (d : D), gls[k]? = some x → gs k = some d → (∃ i, d = .int i ∧ (x, i) ∈ iz) ∨ ∃ ds, d = .tuple ds ∧ ds.all scalD = true ∧ (x, ds) ∈ tu
theorem mod_ofE {P : Program} {w : World} {K : PySem.W.Frag} {h : Heap} {mg : Str → Option Value} {base : Heap} {ds : List DefI} {iz : List (Str × Int)} {tu : List (Str × List D)} {gls : List Str} {gs : Nat → Option D}
    (X : K.In h) (G : h.Ns mainGlobals mg) (c : SaysE (faE ds iz tu) (ds.map dOf) tu K) (hb : ∀ d ∈ ds, BndOk d) (hc : ds.all (chkD (ds.map (·.name)) gls) = true) (hg : GlE gls gs iz tu) : Mod P w K mg base ds gls gs := by
  refine ⟨fun i d hi => ?_, fun x hx => ?_, fun k x d h1 h2 => ?_, fun i d hi => ?_⟩
  · obtain ⟨fd, F⟩ := def_of c.d hi
    have hm := List.mem_of_getElem? hi
    refine ⟨_, fd, F, He.glo_ok X G (fact_mem c.d ?_), F.bindsN (hb d hm)⟩
    exact List.mem_append_left _ (List.mem_map.mpr ⟨d, hm, rfl⟩)
  · exact He.free_ok X G (fact_mem c.d (List.mem_append_right _ (List.mem_append_left _ (List.mem_map.mpr ⟨x, hx, rfl⟩))))
  · rcases hg k x d h1 h2 with ⟨i, rfl, hm⟩ | ⟨es, rfl, hs, hm⟩
    · obtain ⟨t, ht⟩ := He.int_ok X G (x := x) (i := i) (fact_mem c.d (List.mem_append_right _ (List.mem_append_right _ (List.mem_append_left _ (List.mem_map.mpr ⟨(x, i), hm, rfl⟩)))))
      exact ⟨_, .int i, ht, ⟨t, rfl⟩, fun G => .int i⟩
    · have ht := He.glo_ok X G (x := x) (fact_mem c.d (List.mem_append_right _ (List.mem_append_right _ (List.mem_append_right _ (List.mem_map.mpr ⟨(x, es), hm, rfl⟩)))))
      exact ⟨_, .ref (He.ga K x), ht, rfl, fun G => .tup (He.tupB_ok (c.t hm) G) (rp_dvs hs)⟩
  · exact List.all_eq_true.mp hc d (List.mem_of_getElem? hi)
theorem law_ofE {P : Program} {w : World} {K : PySem.W.Frag} {h : Heap} {mg : Str → Option Value} {f : Addr} {ds : List DefI} {iz : List (Str × Int)} {tu : List (Str × List D)} {gls : List Str} {gs : Nat → Option D} {fu k i n : Nat} {d : DefI} {x : Str}
    (X : K.In h) (G : h.Ns mainGlobals mg) (hfa : mg d.name = some (.ref f)) (c : SaysE (faE ds iz tu) (ds.map dOf) tu K) (hb : ∀ d ∈ ds, BndOk d) (hc : ds.all (chkD (ds.map (·.name)) gls) = true)
    (hg : GlE gls gs iz tu) (hi : ds[i]? = some d) (hx : d.ps = [x])
    (pure : ∀ ns : List Int, ns.length ≤ n → callF gs (fnT ds) fu k i [klD (ns.map .int)] = some (false, .bool true)) :
    ∃ (fd : FuncData) (sp : Sp), (∀ (s : Shared) (u : Value), BindsTo s fd { pos := [u] } [(x, u)]) ∧
      (∀ (H : Hp) (a : Addr) (ns : List Int), ns.length ≤ n → Only H → SqL K H a (List.map V.int ns) → sp [.ref a] H (fun v _ => v = .bl true) fun _ _ _ => False) ∧
      ∀ (base : Heap), K.In base → base.Ns mainGlobals mg → FnOk P w K mg base CX0 k f fd [x] sp := by
  obtain ⟨fd, F⟩ := def_of c.d hi
  have hm := List.mem_of_getElem? hi
  have e := hfa.symm.trans (He.glo_ok X G (fact_mem c.d (List.mem_append_left _ (List.mem_map.mpr ⟨d, hm, rfl⟩))))
  have b := F.bindsA (hb d hm)
  cases e
  refine ⟨fd, spI K (callF gs (fnT ds) fu k i), fun s u => ?_, ?_, fun base hK hG => ?_⟩
  · have := b s [u] (by rw [hx]; rfl)
    rw [hx] at this
    exact this
  · exact law_ok (P := P) (w := w) (base := h) (mg := mg) (mod_ofE X G c hb hc hg) fu k i n hi pure
  · obtain ⟨f', fd', o, g, _, _, F'⟩ := defs_ok (P := P) (w := w) (base := base) (mod_ofE X G c hb hc hg) fu k i d hi
    have e : f' = He.fAd K (d.name, none) := by
      have := g.symm.trans hfa
      cases this
      rfl
    subst e
    rw [hx] at o
    obtain ⟨_, _, _, _, _, _, _, _, _, _, _, e2, _⟩ := F.ex
    obtain ⟨_, _, _, _, _, _, _, _, _, _, _, e3, _⟩ := F'.ex
    have := e2.symm.trans e3
    cases this
    exact o
end Ev
end
section
/-! Ev14: tools for the pure readings. -/
namespace Ev
open PySem PySem.Spec L2

section
variable {gs : Nat → Option D} {cf : Cf} {fns : Nat → Option Fn} {fu : Nat}
theorem call_step {k f : Nat} {ds : List D} {fn : Fn} (h : fns f = some fn) (h1 : ds.length = fn.np) (h2 : fn.np ≤ fn.ns) : callF gs fns fu (k + 1) f ds = outD (exSs gs (callF gs fns fu k) fu fn.body (startD fn.ns ds)) := by
  simp only [callF, h]
  rw [if_pos ⟨h1, h2⟩]
theorem forD_inv {f : D → Env' → Option Out} (P : Nat → Env' → Prop) : ∀ (ds : List D) (j : Nat) (ρ : Env'), P j ρ → (∀ i d ρ, ds[i]? = some d → P (j + i) ρ → ∃ ρ', (f d ρ = some (.nx ρ') ∨ f d ρ = some (.ct ρ')) ∧ P (j + i + 1) ρ') → ∃ ρ', forD f ds ρ = some (.nx ρ') ∧ P (j + ds.length) ρ'
  | [], j, ρ, h, _ => ⟨ρ, rfl, h⟩
  | d :: ds, j, ρ, h, st => by
    obtain ⟨ρ1, h1, h2⟩ := st 0 d ρ rfl h
    obtain ⟨ρ2, h3, h4⟩ := forD_inv P ds (j + 1) ρ1 h2 fun i e ρ hi hp => by
      have := st (i + 1) e ρ (by simpa using hi) (by rw [show j + (i + 1) = j + 1 + i by omega]; exact hp)
      rw [show j + (i + 1) + 1 = j + 1 + i + 1 by omega] at this
      exact this
    refine ⟨ρ2, ?_, by rw [List.length_cons, show j + (ds.length + 1) = j + 1 + ds.length by omega]; exact h4⟩
    rcases h1 with h1 | h1 <;> · simp only [forD, h1]; exact h3
/-- a loop that comes to its end -/
theorem for_run {t : Tg} {it : Ev.It} {b : Ss} {ρ : Env'} {ds : List D} (P : Nat → Env' → Prop) (hi : evI gs cf it ρ = some ds) (h0 : P 0 ρ)
    (st : ∀ i d ρ, ds[i]? = some d → P i ρ → ∃ ρ1 ρ', asgD t d ρ = some ρ1 ∧ (exSs gs cf fu b ρ1 = some (.nx ρ') ∨ exSs gs cf fu b ρ1 = some (.ct ρ')) ∧ P (i + 1) ρ') :
    ∃ ρ', exS gs cf fu (.for_ t it b) ρ = some (.nx ρ') ∧ P ds.length ρ' := by
  obtain ⟨ρ', h1, h2⟩ := forD_inv (f := fun d ρ => (asgD t d ρ).bind fun ρ' => exSs gs cf fu b ρ') P ds 0 ρ h0 fun i d ρ hd hp => by
    obtain ⟨ρ1, ρ2, e1, e2, e3⟩ := st i d ρ hd (by rw [Nat.zero_add] at hp; exact hp)
    refine ⟨ρ2, ?_, by rw [Nat.zero_add]; exact e3⟩
    rw [e1]
    exact e2
  refine ⟨ρ', ?_, by rw [Nat.zero_add] at h2; exact h2⟩
  simp only [exS, hi]
  exact h1
theorem seq_nx {s : S} {r : Ss} {ρ ρ' : Env'} (h : exS gs cf fu s ρ = some (.nx ρ')) : exSs gs cf fu (.cons s r) ρ = exSs gs cf fu r ρ' := by
  simp only [exSs, h, seqO]
theorem seqO_nx {ρ : Env'} {f : Env' → Option Out} : seqO (some (.nx ρ)) f = f ρ := rfl
theorem seqO_rt {b : Bool} {d : D} {f : Env' → Option Out} : seqO (some (.rt b d)) f = some (.rt b d) := rfl
theorem seqO_bk {ρ : Env'} {f : Env' → Option Out} : seqO (some (.bk ρ)) f = some (.bk ρ) := rfl
theorem seqO_ct {ρ : Env'} {f : Env' → Option Out} : seqO (some (.ct ρ)) f = some (.ct ρ) := rfl
theorem seqO_ite {c : Prop} [Decidable c] {a b : Option Out} {f : Env' → Option Out} : seqO (if c then a else b) f = if c then seqO a f else seqO b f := by
  split <;> rfl
end
theorem seqO_c {o o' : Option Out} {f : Env' → Option Out} (h : o = o') : seqO o f = seqO o' f := by rw [h]
theorem bind_c {α β : Type} {o o' : Option α} {f : α → Option β} (h : o = o') : o.bind f = o'.bind f := by rw [h]
theorem ite_c {α : Type} {c c' : Prop} [Decidable c] [i : Decidable c'] {a b : α} (h : c = c') : (if c then a else b) = if c' then a else b := by
  subst h
  congr
theorem forD_c {f : D → Env' → Option Out} {ds ds' : List D} {ρ ρ' : Env'} (h : ds = ds') (h' : ρ = ρ') : forD f ds ρ = forD f ds' ρ' := by rw [h, h']
theorem mul_ok {i j : Int} (h : -2 ^ 64 < j ∧ j < 2 ^ 64) : mulI i j = some (i * j) := if_pos (.inr h)
theorem mul_ok' {i j : Int} (h : -2 ^ 64 < i ∧ i < 2 ^ 64) : mulI i j = some (i * j) := if_pos (.inl h)
theorem div_ok {i j : Int} (h : j ≠ 0 ∧ j.natAbs < 1073741824) : divI i j = some (i.fdiv j) := if_pos h
theorem mod_ok {i j : Int} (h : j ≠ 0) : modI i j = some (i.fmod j) := if_pos h
theorem pow_ok {i j : Int} (h : 0 ≤ j ∧ j ≤ 1000000 ∧ i.natAbs < 2 ^ 64) : powI i j = some (i ^ j.toNat) := if_pos h
theorem eqD_int {i j : Int} : eqD (.int i) (.int j) = some (decide (i = j)) := by
  have h1 : SeqAt.shaped (.int i) = true := rfl
  have h2 : SeqAt.shaped (.int j) = true := rfl
  unfold eqD
  rw [if_pos ⟨h1, h2⟩]
  rfl
theorem eqD_str {i j : Str} (hi : PyData.strOk i = true) (hj : PyData.strOk j = true) : eqD (.str i) (.str j) = some (decide (i = j)) := by
  have h1 : SeqAt.shaped (.str i) = true := by simp [SeqAt.shaped, PyData.canLay0, PyData.depth, hi]
  have h2 : SeqAt.shaped (.str j) = true := by simp [SeqAt.shaped, PyData.canLay0, PyData.depth, hj]
  unfold eqD
  rw [if_pos ⟨h1, h2⟩]
  rfl
theorem eqD_si {i : Str} {j : Int} (hi : PyData.strOk i = true) : eqD (.str i) (.int j) = some false := by
  have h1 : SeqAt.shaped (.str i) = true := by simp [SeqAt.shaped, PyData.canLay0, PyData.depth, hi]
  have h2 : SeqAt.shaped (.int j) = true := rfl
  unfold eqD
  rw [if_pos ⟨h1, h2⟩]
  rfl
theorem eqD_is {i : Str} {j : Int} (hi : PyData.strOk i = true) : eqD (.int j) (.str i) = some false := by
  have h1 : SeqAt.shaped (.str i) = true := by simp [SeqAt.shaped, PyData.canLay0, PyData.depth, hi]
  have h2 : SeqAt.shaped (.int j) = true := rfl
  unfold eqD
  rw [if_pos ⟨h2, h1⟩]
  rfl
theorem eqD_ni {j : Int} : eqD .none (.int j) = some false := by
  have h1 : SeqAt.shaped .none = true := rfl
  have h2 : SeqAt.shaped (.int j) = true := rfl
  unfold eqD
  rw [if_pos ⟨h1, h2⟩]
  rfl
/-- the place of a list's k-th, k a number -/
theorem ixN_ok {n k : Nat} (h : k < n) : ixN n (k : Int) = some k := by
  unfold ixN
  rw [if_pos (Int.natCast_nonneg k), if_pos (by exact_mod_cast h)]
  rfl
theorem atI_ok {α : Type} {xs : List α} {k : Nat} (h : k < xs.length) : atI xs (k : Int) = some xs[k] := by
  unfold atI
  rw [ixN_ok h, Option.bind_some, List.getElem?_eq_getElem h]
theorem atI_lit {α : Type} {xs : List α} {i : Int} (h0 : 0 ≤ i) (h1 : i < xs.length) : atI xs i = xs[i.toNat]? := by
  obtain ⟨k, rfl⟩ := Int.eq_ofNat_of_zero_le h0
  rw [atI_ok (by exact_mod_cast h1), Int.toNat_natCast, List.getElem?_eq_getElem]
theorem rng_ok {n : Nat} (h : n < 2 ^ 62) : rngD 0 (n : Int) = some ((List.range n).map fun (k : Nat) => .int (k : Int)) := by
  unfold rngD
  rw [if_pos (by omega)]
  simp
end Ev
namespace Ev
open PySem PySem.Spec L2
theorem seqO_non {f : Env' → Option Out} : seqO none f = none := rfl
theorem sz : sizeLine = 16777216 := rfl
theorem map_c {α β : Type} {o o' : Option α} {f : α → β} (h : o = o') : o.map f = o'.map f := by rw [h]
section
variable {gs : Nat → Option D} {cf : Cf} {fu : Nat}
theorem x_asg {t : Tg} {e : E} {ρ : Env'} : exS gs cf fu (.asg t e) ρ = (evE gs cf e ρ).bind fun d => (asgD t d ρ).map .nx := by simp only [exS]
theorem x_asgN {i : Nat} {e : E} {ρ : Env'} : exS gs cf fu (.asgN i e) ρ = (evN gs cf e ρ).map fun xs => .nx (ρ.set i (some (true, .list xs))) := by simp only [exS]
theorem x_aug {i : Nat} {o : O2} {e : E} {ρ : Env'} : exS gs cf fu (.aug i o e) ρ = (getS ρ i).bind fun x => (evE gs cf e ρ).bind fun y => (augD o x y).map fun z => .nx (ρ.set i (some (false, z))) := by simp only [exS]
theorem x_app {i : Nat} {e : E} {ρ : Env'} : exS gs cf fu (.app i e) ρ = (ownL ρ i).bind fun xs => (evE gs cf e ρ).bind fun y => if xs.length < sizeLine then some (.nx (ρ.set i (some (true, .list (xs ++ [y]))))) else none := by simp only [exS]
theorem x_set {i : Nat} {k e : E} {ρ : Env'} : exS gs cf fu (.set i k e) ρ = (ownL ρ i).bind fun xs => (evE gs cf e ρ).bind fun y => (evE gs cf k ρ).bind fun k => (asI k).bind fun k => (ixN xs.length k).map fun j => .nx (ρ.set i (some (true, .list (xs.set j y)))) := by simp only [exS]
theorem x_clr {i : Nat} {ρ : Env'} : exS gs cf fu (.clr i) ρ = (ownL ρ i).map fun _ => .nx (ρ.set i (some (true, .list []))) := by simp only [exS]
theorem x_frz {i : Nat} {ρ : Env'} : exS gs cf fu (.frz i) ρ = (ownL ρ i).map fun xs => .nx (ρ.set i (some (false, .list xs))) := by simp only [exS]
theorem x_ife {c : E} {a b : Ss} {ρ : Env'} : exS gs cf fu (.ife c a b) ρ = (evE gs cf c ρ).bind fun x => (asB x).bind fun t => if t = true then exSs gs cf fu a ρ else exSs gs cf fu b ρ := by simp only [exS]
theorem x_ret {e : E} {ρ : Env'} : exS gs cf fu (.ret e) ρ = (evE gs cf e ρ).map fun d => .rt false d := by simp only [exS]
theorem x_retO {i : Nat} {ρ : Env'} : exS gs cf fu (.retO i) ρ = (ownL ρ i).map fun xs => .rt true (.list xs) := by simp only [exS]
theorem x_retN {ρ : Env'} : exS gs cf fu .retN ρ = some (.rt false .none) := by simp only [exS]
theorem x_brk {ρ : Env'} : exS gs cf fu .brk ρ = some (.bk ρ) := by simp only [exS]
theorem x_cnt {ρ : Env'} : exS gs cf fu .cnt ρ = some (.ct ρ) := by simp only [exS]
theorem x_pass {ρ : Env'} : exS gs cf fu .pass ρ = some (.nx ρ) := by simp only [exS]
/-- a loop in a row of statements, by an invariant -/
theorem for_goal {t : Tg} {it : Ev.It} {b : Ss} {ρ : Env'} {ds : List D} {f : Env' → Option Out} (R : Option Out → Prop) (P : Nat → Env' → Prop) (hi : evI gs cf it ρ = some ds) (h0 : P 0 ρ)
    (st : ∀ i d ρ, ds[i]? = some d → P i ρ → ∃ ρ1 ρ', asgD t d ρ = some ρ1 ∧ (exSs gs cf fu b ρ1 = some (.nx ρ') ∨ exSs gs cf fu b ρ1 = some (.ct ρ')) ∧ P (i + 1) ρ')
    (h : ∀ ρ', P ds.length ρ' → R (f ρ')) : R (seqO (exS gs cf fu (.for_ t it b) ρ) f) := by
  obtain ⟨ρ', h1, h2⟩ := for_run (fu := fu) P hi h0 st
  rw [h1]
  exact h ρ' h2
end
theorem evI_rng {gs : Nat → Option D} {cf : Cf} {a : E} {ρ : Env'} {n : Nat} (h : evE gs cf a ρ = some (.int (n : Int))) (hn : n < 2 ^ 62) : evI gs cf (.rng1 a) ρ = some ((List.range n).map fun (k : Nat) => .int (k : Int)) := by
  simp only [evI, h, Option.bind_some, asI]
  rw [rng_ok hn]
theorem rng_at {n i : Nat} {d : D} (h : ((List.range n).map fun (k : Nat) => PyData.int (k : Int))[i]? = some d) : i < n ∧ d = .int (i : Int) := by
  rw [List.getElem?_map] at h
  obtain ⟨j, h1, h2⟩ := Option.map_eq_some_iff.mp h
  have h3 := List.getElem?_eq_some_iff.mp h1
  obtain ⟨h4, h5⟩ := h3
  rw [List.length_range] at h4
  rw [List.getElem_range] at h5
  subst h5
  exact ⟨h4, h2.symm⟩
theorem outD_rt {b : Bool} {d : D} : outD (some (.rt b d)) = some (b, d) := rfl
theorem outD_nx {ρ : Env'} : outD (some (.nx ρ)) = some (false, .none) := rfl
end Ev
namespace Ev
open PySem PySem.Spec L2
/-! drawn numbers: the list of x 0, x 1, .. -/
abbrev drL (x : Nat → Int) (n : Nat) : List D := (List.range n).map fun j => PyData.int (x j)
theorem dr_at {x : Nat → Int} {n k : Nat} (h : k < n) : atI (drL x n) (k : Int) = some (.int (x k)) := by
  rw [atI_ok (by simpa using h)]
  simp
theorem dr0 {x : Nat → Int} {n : Nat} (h : 0 < n) : atI (drL x n) 0 = some (.int (x 0)) := dr_at h
theorem dr1 {x : Nat → Int} {n : Nat} (h : 1 < n) : atI (drL x n) 1 = some (.int (x 1)) := dr_at h
theorem dr2 {x : Nat → Int} {n : Nat} (h : 2 < n) : atI (drL x n) 2 = some (.int (x 2)) := dr_at h
theorem dr3 {x : Nat → Int} {n : Nat} (h : 3 < n) : atI (drL x n) 3 = some (.int (x 3)) := dr_at h
theorem dr4 {x : Nat → Int} {n : Nat} (h : 4 < n) : atI (drL x n) 4 = some (.int (x 4)) := dr_at h
theorem dr5 {x : Nat → Int} {n : Nat} (h : 5 < n) : atI (drL x n) 5 = some (.int (x 5)) := dr_at h
theorem dr6 {x : Nat → Int} {n : Nat} (h : 6 < n) : atI (drL x n) 6 = some (.int (x 6)) := dr_at h
theorem dr7 {x : Nat → Int} {n : Nat} (h : 7 < n) : atI (drL x n) 7 = some (.int (x 7)) := dr_at h
theorem dr8 {x : Nat → Int} {n : Nat} (h : 8 < n) : atI (drL x n) 8 = some (.int (x 8)) := dr_at h
theorem at0 {a : D} {l : List D} : atI (a :: l) 0 = some a := by
  have : atI (a :: l) ((0 : Nat) : Int) = _ := atI_ok (by simp)
  exact this
theorem at1 {a b : D} {l : List D} : atI (a :: b :: l) 1 = some b := by
  have : atI (a :: b :: l) ((1 : Nat) : Int) = _ := atI_ok (by simp)
  exact this
theorem at2 {a b c : D} {l : List D} : atI (a :: b :: c :: l) 2 = some c := by
  have : atI (a :: b :: c :: l) ((2 : Nat) : Int) = _ := atI_ok (by simp)
  exact this
theorem at3 {a b c d : D} {l : List D} : atI (a :: b :: c :: d :: l) 3 = some d := by
  have : atI (a :: b :: c :: d :: l) ((3 : Nat) : Int) = _ := atI_ok (by simp)
  exact this
theorem strOk_append {a b : Str} (ha : PyData.strOk a = true) (hb : PyData.strOk b = true) : PyData.strOk (a ++ b) = true := by
  unfold PyData.strOk at *
  show (a.cps ++ b.cps).all _ = true
  rw [Array.all_append, ha, hb]
  rfl
theorem len_append {a b : Str} : (a ++ b).length = a.length + b.length := by
  show (a.cps ++ b.cps).size = _
  rw [Array.size_append]
  rfl
end Ev
end
section
/-! Ev16: rows one after the other. -/
namespace Ev
open PySem PySem.Spec L2
section
variable {gs : Nat → Option D} {cf : Cf} {fu : Nat}
theorem asg1 {i : Nat} {e : E} {r : Ss} {ρ : Env'} (d : D) (h : evE gs cf e ρ = some d) : exSs gs cf fu (.cons (.asg (.one i) e) r) ρ = exSs gs cf fu r (ρ.set i (some (false, d))) := by
  simp only [exSs, exS, h, Option.bind_some, asgD, Option.map_some, seqO]
theorem asgN1 {i : Nat} {e : E} {r : Ss} {ρ : Env'} (xs : List D) (h : evN gs cf e ρ = some xs) : exSs gs cf fu (.cons (.asgN i e) r) ρ = exSs gs cf fu r (ρ.set i (some (true, .list xs))) := by
  simp only [exSs, exS, h, Option.map_some, seqO]
theorem app1 {i : Nat} {e : E} {r : Ss} {ρ : Env'} (xs : List D) (d : D) (h1 : ownL ρ i = some xs) (h : evE gs cf e ρ = some d) (hl : xs.length < sizeLine) : exSs gs cf fu (.cons (.app i e) r) ρ = exSs gs cf fu r (ρ.set i (some (true, .list (xs ++ [d])))) := by
  simp only [exSs, exS, h1, h, Option.bind_some, if_pos hl, seqO]
theorem aug1 {i : Nat} {o : O2} {e : E} {r : Ss} {ρ : Env'} (x y z : D) (h1 : getS ρ i = some x) (h : evE gs cf e ρ = some y) (h2 : augD o x y = some z) : exSs gs cf fu (.cons (.aug i o e) r) ρ = exSs gs cf fu r (ρ.set i (some (false, z))) := by
  simp only [exSs, exS, h1, h, h2, Option.bind_some, Option.map_some, seqO]
theorem ifT {c : E} {a b r : Ss} {ρ : Env'} (h : evE gs cf c ρ = some (.bool true)) : exSs gs cf fu (.cons (.ife c a b) r) ρ = seqO (exSs gs cf fu a ρ) fun ρ' => exSs gs cf fu r ρ' := by
  simp only [exSs, exS, h, Option.bind_some, asB, if_true]
theorem ifF {c : E} {a b r : Ss} {ρ : Env'} (h : evE gs cf c ρ = some (.bool false)) : exSs gs cf fu (.cons (.ife c a b) r) ρ = seqO (exSs gs cf fu b ρ) fun ρ' => exSs gs cf fu r ρ' := by
  simp only [exSs, exS, h, Option.bind_some, asB, Bool.false_eq_true, if_false]
/-- an if that leaves nothing behind where it is not taken -/
theorem ifF0 {c : E} {a r : Ss} {ρ : Env'} (h : evE gs cf c ρ = some (.bool false)) : exSs gs cf fu (.cons (.ife c a .nil) r) ρ = exSs gs cf fu r ρ := by
  rw [ifF h]
  simp only [exSs, seqO]
theorem ret1 {e : E} {r : Ss} {ρ : Env'} (d : D) (h : evE gs cf e ρ = some d) : exSs gs cf fu (.cons (.ret e) r) ρ = some (.rt false d) := by
  simp only [exSs, exS, h, Option.map_some, seqO]
theorem frz1 {i : Nat} {r : Ss} {ρ : Env'} (xs : List D) (h1 : ownL ρ i = some xs) : exSs gs cf fu (.cons (.frz i) r) ρ = exSs gs cf fu r (ρ.set i (some (false, .list xs))) := by
  simp only [exSs, exS, h1, Option.map_some, seqO]
theorem clr1 {i : Nat} {r : Ss} {ρ : Env'} (xs : List D) (h1 : ownL ρ i = some xs) : exSs gs cf fu (.cons (.clr i) r) ρ = exSs gs cf fu r (ρ.set i (some (true, .list []))) := by
  simp only [exSs, exS, h1, Option.map_some, seqO]
end
end Ev
end
section
namespace K02
open PySem PySem.Spec L2 Ev
def top (i : Nat) : Stmt := PySem.Challenge.pw_wokenlives_k02_first_bad_token.main.body.getD i (.Pass ⟨0, 0, 0, 0⟩)
def i_f_token_list : Ss := (.cons (.asgN 1 (.lst .nil)) (.cons (.asg (.one 2) (.int 1)) (.cons (.asg (.one 3) (.int 0)) (.cons (.asg (.one 4) (.int 0)) (.cons (.whl (.cmp .lt (.var 4) (.blt .len (.cons (.var 0) .nil))) (.cons (.asg (.one 5) (.ix (.var 0) (.var 4))) (.cons (.ife (.cmp .eq (.var 5) (.str "\n")) (.cons (.aug 2 .add (.int 1)) (.cons (.aug 4 .add (.int 1)) (.cons (.asg (.one 3) (.var 4)) .nil))) (.cons (.ife (.cmp .eq (.var 5) (.str " ")) (.cons (.aug 4 .add (.int 1)) .nil) (.cons (.ife (.cmp .eq (.var 5) (.str "#")) (.cons (.asg (.one 4) (.call 1 (.cons (.var 0) (.cons (.var 4) .nil)))) .nil) (.cons (.asg (.tup [6, 7]) (.call 2 (.cons (.var 0) (.cons (.var 4) .nil)))) (.cons (.app 1 (.tup (.cons (.var 6) (.cons (.var 7) (.cons (.var 2) (.cons (.bin .add (.bin .sub (.var 4) (.var 3)) (.int 1)) .nil)))))) (.cons (.ife (.cmp .eq (.var 6) (.str "bad")) (.cons (.retO 1) .nil) .nil) (.cons (.aug 4 .add (.blt .len (.cons (.var 7) .nil))) .nil))))) .nil)) .nil)) .nil))) (.cons (.app 1 (.tup (.cons (.str "end") (.cons (.str "") (.cons (.var 2) (.cons (.bin .add (.bin .sub (.var 4) (.var 3)) (.int 1)) .nil)))))) (.cons (.retO 1) .nil)))))))
def f_token_list : DefI := ⟨"token_list", ["text"], ["text", "tokens", "row", "row_start", "at", "sign", "kind", "word"], defArgs (top 6), defBody (top 6), defScope (top 6), i_f_token_list⟩
def i_f_end_of_row : Ss := (.cons (.asg (.one 2) (.met .find2 (.var 0) (.cons (.str "\n") (.cons (.var 1) .nil)))) (.cons (.ife (.cmp .lt (.var 2) (.int 0)) (.cons (.ret (.blt .len (.cons (.var 0) .nil))) .nil) .nil) (.cons (.ret (.var 2)) .nil)))
def f_end_of_row : DefI := ⟨"end_of_row", ["text", "at"], ["text", "at", "found"], defArgs (top 7), defBody (top 7), defScope (top 7), i_f_end_of_row⟩
def i_f_token_at : Ss := (.cons (.ife (.call 3 (.cons (.ix (.var 0) (.var 1)) .nil)) (.cons (.asg (.one 2) (.sl (.var 0) (.var 1) (.call 4 (.cons (.var 0) (.cons (.var 1) .nil))))) (.cons (.ret (.tup (.cons (.call 5 (.cons (.var 2) .nil)) (.cons (.var 2) .nil)))) .nil)) .nil) (.cons (.ife (.cmp .inn (.sl (.var 0) (.var 1) (.bin .add (.var 1) (.int 2))) (.glo 1)) (.cons (.ret (.tup (.cons (.str "sign") (.cons (.sl (.var 0) (.var 1) (.bin .add (.var 1) (.int 2))) .nil)))) .nil) .nil) (.cons (.ife (.cmp .inn (.ix (.var 0) (.var 1)) (.glo 2)) (.cons (.ret (.tup (.cons (.str "sign") (.cons (.ix (.var 0) (.var 1)) .nil)))) .nil) .nil) (.cons (.ret (.tup (.cons (.str "bad") (.cons (.ix (.var 0) (.var 1)) .nil)))) .nil))))
def f_token_at : DefI := ⟨"token_at", ["text", "at"], ["text", "at", "run"], defArgs (top 8), defBody (top 8), defScope (top 8), i_f_token_at⟩
def i_f_in_run : Ss := (.cons (.ret (.or (.cons (.chain .le .le (.str "a") (.var 0) (.str "z")) (.cons (.chain .le .le (.str "0") (.var 0) (.str "9")) .nil)))) .nil)
def f_in_run : DefI := ⟨"in_run", ["sign"], ["sign"], defArgs (top 9), defBody (top 9), defScope (top 9), i_f_in_run⟩
def i_f_end_of_run : Ss := (.cons (.whl (.and (.cons (.cmp .lt (.var 1) (.blt .len (.cons (.var 0) .nil))) (.cons (.call 3 (.cons (.ix (.var 0) (.var 1)) .nil)) .nil))) (.cons (.aug 1 .add (.int 1)) .nil)) (.cons (.ret (.var 1)) .nil))
def f_end_of_run : DefI := ⟨"end_of_run", ["text", "at"], ["text", "at"], defArgs (top 10), defBody (top 10), defScope (top 10), i_f_end_of_run⟩
def i_f_run_kind : Ss := (.cons (.ife (.chain .le .le (.str "a") (.ix (.var 0) (.int 0)) (.str "z")) (.cons (.ret (.call 6 (.cons (.var 0) .nil))) .nil) .nil) (.cons (.ife (.or (.cons (.not (.met .isdigit (.var 0) .nil)) (.cons (.cmp .gt (.blt .len (.cons (.var 0) .nil)) (.glo 4)) .nil))) (.cons (.ret (.str "bad")) .nil) .nil) (.cons (.ife (.and (.cons (.cmp .eq (.ix (.var 0) (.int 0)) (.str "0")) (.cons (.cmp .gt (.blt .len (.cons (.var 0) .nil)) (.int 1)) .nil))) (.cons (.ret (.str "bad")) .nil) .nil) (.cons (.ret (.str "number")) .nil))))
def f_run_kind : DefI := ⟨"run_kind", ["run"], ["run"], defArgs (top 11), defBody (top 11), defScope (top 11), i_f_run_kind⟩
def i_f_word_kind : Ss := (.cons (.ife (.cmp .inn (.var 0) (.glo 0)) (.cons (.ret (.str "keyword")) .nil) .nil) (.cons (.ife (.cmp .gt (.blt .len (.cons (.var 0) .nil)) (.glo 3)) (.cons (.ret (.str "bad")) .nil) .nil) (.cons (.ret (.str "name")) .nil)))
def f_word_kind : DefI := ⟨"word_kind", ["run"], ["run"], defArgs (top 12), defBody (top 12), defScope (top 12), i_f_word_kind⟩
def i_f_L_cell : Ss := (.cons (.ife (.cmp .lt (.var 1) (.blt .len (.cons (.var 0) .nil))) (.cons (.ret (.ix (.var 0) (.var 1))) .nil) .nil) (.cons (.ret (.int 0)) .nil))
def f_L_cell : DefI := ⟨"_law_cell", ["_law_script", "_law_k"], ["_law_script", "_law_k"], defArgs (top 14), defBody (top 14), defScope (top 14), i_f_L_cell⟩
def i_f_L_draws : Ss := (.cons (.asgN 2 (.lst .nil)) (.cons (.asg (.one 3) (.blt .abs (.cons (.var 0) .nil))) (.cons (.asg (.one 4) (.cmp .ge (.var 3) (.bin .pow (.int 10) (.int 18)))) (.cons (.for_ (.one 5) (.rng1 (.var 1)) (.cons (.ife (.and (.cons (.var 4) (.cons (.cmp .gt (.var 3) (.int 0)) .nil))) (.cons (.app 2 (.bin .mod (.blt .int (.cons (.var 3) .nil)) (.int 1000))) (.cons (.asg (.one 3) (.bin .fdiv (.var 3) (.int 1000))) .nil)) (.cons (.asg (.one 6) (.bin .mod (.blt .int (.cons (.bin .add (.bin .add (.blt .abs (.cons (.var 0) .nil)) (.bin .mul (.int 7919) (.var 5))) (.int 13)) .nil)) (.int 2147483647))) (.cons (.asg (.one 6) (.bin .mod (.blt .int (.cons (.bin .mul (.var 6) (.bin .add (.var 6) (.int 48271))) .nil)) (.int 2147483629))) (.cons (.asg (.one 6) (.bin .mod (.blt .int (.cons (.bin .add (.bin .mul (.var 6) (.bin .add (.var 6) (.int 69621))) (.bin .mul (.int 31) (.var 5))) .nil)) (.int 2147483647))) (.cons (.app 2 (.bin .mod (.blt .int (.cons (.bin .fdiv (.var 6) (.int 9)) .nil)) (.int 1000))) .nil))))) .nil)) (.cons (.retO 2) .nil)))))
def f_L_draws : DefI := ⟨"_law_draws", ["_law_cell_here", "_law_many"], ["_law_cell_here", "_law_many", "_law_drawn", "_law_rest", "_law_digits", "_law_k", "_law_mixed"], defArgs (top 15), defBody (top 15), defScope (top 15), i_f_L_draws⟩
def i_f_L_is_integer : Ss := (.cons (.ret (.and (.cons (.isi (.var 0) .int) (.cons (.not (.isi (.var 0) .bool)) .nil)))) .nil)
def f_L_is_integer : DefI := ⟨"_law_is_integer", ["_law_value"], ["_law_value"], defArgs (top 16), defBody (top 16), defScope (top 16), i_f_L_is_integer⟩
def i_f_L_names : Ss := (.cons (.asg (.one 2) (.lst (.cons (.str "a") (.cons (.str "a1") (.cons (.str "b2") (.cons (.str "bob") (.cons (.str "a10") (.cons (.str "a9") (.cons (.str "door") (.cons (.str "e") (.cons (.str "fox") (.cons (.str "g7") (.cons (.str "hill") (.cons (.str "ivy") (.cons (.str "jam") (.cons (.str "key") (.cons (.str "lake") (.cons (.str "moon") (.cons (.str "nut") (.cons (.str "oak") (.cons (.str "pear") (.cons (.str "quay") (.cons (.str "rose") (.cons (.str "sun") (.cons (.str "tree") (.cons (.str "urn") (.cons (.str "vine") (.cons (.str "well") (.cons (.str "x") (.cons (.str "yew") (.cons (.str "zoe") (.cons (.str "twelvesigns1") .nil)))))))))))))))))))))))))))))))) (.cons (.asg (.one 3) (.lst (.cons (.int 1) (.cons (.int 7) (.cons (.int 11) (.cons (.int 13) (.cons (.int 17) (.cons (.int 19) (.cons (.int 23) (.cons (.int 29) .nil)))))))))) (.cons (.asg (.one 4) (.ix (.var 3) (.bin .mod (.blt .int (.cons (.var 1) .nil)) (.int 8)))) (.cons (.ret (.comp (.ix (.var 2) (.bin .mod (.blt .int (.cons (.bin .add (.var 0) (.bin .mul (.var 4) (.var 5))) .nil)) (.int 30))) 5 (.rng1 (.int 30)) .none)) .nil))))
def f_L_names : DefI := ⟨"_law_names", ["_law_draw", "_law_other"], ["_law_draw", "_law_other", "_law_pool", "_law_steps", "_law_step", "_law_k"], defArgs (top 17), defBody (top 17), defScope (top 17), i_f_L_names⟩
def i_f_L_keywords : Ss := (.cons (.ret (.lst (.cons (.str "cell") (.cons (.str "line") (.cons (.str "store") (.cons (.str "gate") (.cons (.str "wheel") (.cons (.str "mark") (.cons (.str "class") (.cons (.str "within") (.cons (.str "var") (.cons (.str "deed") (.cons (.str "life") (.cons (.str "start") (.cons (.str "at") (.cons (.str "asleep") (.cons (.str "open") (.cons (.str "shut") (.cons (.str "set") (.cons (.str "tell") (.cons (.str "if") (.cons (.str "else") (.cons (.str "while") (.cons (.str "do") (.cons (.str "inner") (.cons (.str "hold") (.cons (.str "sleep") (.cons (.str "wake") (.cons (.str "after") (.cons (.str "stop") (.cons (.str "seize") (.cons (.str "of") (.cons (.str "free") (.cons (.str "wait") (.cons (.str "put") (.cons (.str "into") (.cons (.str "take") (.cons (.str "from") (.cons (.str "make") (.cons (.str "leave") (.cons (.str "or") (.cons (.str "and") (.cons (.str "not") (.cons (.str "mod") (.cons (.str "none") (.cons (.str "me") (.cons (.str "now") (.cons (.str "length") (.cons (.str "first") (.cons (.str "spare") (.cons (.str "waiting") (.cons (.str "isopen") (.cons (.str "stand") .nil))))))))))))))))))))))))))))))))))))))))))))))))))))) .nil)
def f_L_keywords : DefI := ⟨"_law_keywords", [], [], defArgs (top 18), defBody (top 18), defScope (top 18), i_f_L_keywords⟩
def i_f_L_signs : Ss := (.cons (.ret (.lst (.cons (.str "{") (.cons (.str "}") (.cons (.str "(") (.cons (.str ")") (.cons (.str ",") (.cons (.str ";") (.cons (.str ".") (.cons (.str "+") (.cons (.str "-") (.cons (.str "*") (.cons (.str "/") (.cons (.str "=") (.cons (.str "==") (.cons (.str "!=") (.cons (.str "<") (.cons (.str "<=") (.cons (.str ">") (.cons (.str ">=") .nil)))))))))))))))))))) .nil)
def f_L_signs : DefI := ⟨"_law_signs", [], [], defArgs (top 19), defBody (top 19), defScope (top 19), i_f_L_signs⟩
def i_f_L_number : Ss := (.cons (.asg (.one 2) (.lst (.cons (.int 1) (.cons (.int 10) (.cons (.int 100) (.cons (.int 1000) (.cons (.int 10000) (.cons (.int 100000) (.cons (.int 1000000) (.cons (.int 10000000) (.cons (.int 100000000) .nil))))))))))) (.cons (.ife (.cmp .lt (.bin .mod (.blt .int (.cons (.var 1) .nil)) (.int 12)) (.int 3)) (.cons (.ret (.ix (.lst (.cons (.int 0) (.cons (.int 999999999) (.cons (.int 100000000) .nil)))) (.bin .mod (.blt .int (.cons (.var 1) .nil)) (.int 12)))) .nil) .nil) (.cons (.asg (.one 3) (.bin .mod (.blt .int (.cons (.bin .mul (.bin .add (.bin .add (.blt .abs (.cons (.var 0) .nil)) (.var 1)) (.int 1)) (.int 387420489)) .nil)) (.int 1000000000))) (.cons (.ret (.bin .fdiv (.var 3) (.ix (.var 2) (.bin .mod (.blt .int (.cons (.bin .fdiv (.var 1) (.int 12)) .nil)) (.int 9))))) .nil))))
def f_L_number : DefI := ⟨"_law_number", ["_law_cell_here", "_law_draw"], ["_law_cell_here", "_law_draw", "_law_powers", "_law_mixed"], defArgs (top 20), defBody (top 20), defScope (top 20), i_f_L_number⟩
def i_f_L_long : Ss := (.cons (.asg (.one 2) (.cal0 11)) (.cons (.ret (.bin .add (.bin .add (.ix (.var 2) (.bin .mod (.blt .int (.cons (.var 1) .nil)) (.int 51))) (.ix (.var 0) (.bin .mod (.blt .int (.cons (.bin .fdiv (.var 1) (.int 7)) .nil)) (.int 30)))) (.str "zq7xw0bk3rm9v5jhtpd"))) .nil))
def f_L_long : DefI := ⟨"_law_long", ["_law_names_here", "_law_draw"], ["_law_names_here", "_law_draw", "_law_kept"], defArgs (top 21), defBody (top 21), defScope (top 21), i_f_L_long⟩
def i_f_L_token : Ss := (.cons (.asg (.one 3) (.blt .int (.cons (.bin .fdiv (.var 1) (.int 5)) .nil))) (.cons (.asg (.one 4) (.bin .mod (.blt .int (.cons (.var 1) .nil)) (.int 5))) (.cons (.ife (.cmp .eq (.var 4) (.int 0)) (.cons (.ret (.lst (.cons (.str "name") (.cons (.ix (.var 0) (.bin .mod (.blt .int (.cons (.var 3) .nil)) (.int 30))) .nil)))) .nil) .nil) (.cons (.ife (.cmp .eq (.var 4) (.int 1)) (.cons (.ret (.lst (.cons (.str "keyword") (.cons (.ix (.cal0 11) (.bin .mod (.blt .int (.cons (.var 3) .nil)) (.int 51))) .nil)))) .nil) .nil) (.cons (.ife (.cmp .eq (.var 4) (.int 2)) (.cons (.ret (.lst (.cons (.str "number") (.cons (.blt .str (.cons (.call 13 (.cons (.var 2) (.cons (.var 3) .nil))) .nil)) .nil)))) .nil) .nil) (.cons (.ife (.cmp .eq (.var 4) (.int 3)) (.cons (.ret (.lst (.cons (.str "sign") (.cons (.ix (.cal0 12) (.bin .mod (.blt .int (.cons (.var 3) .nil)) (.int 18))) .nil)))) .nil) .nil) (.cons (.ret (.lst (.cons (.str "name") (.cons (.sll (.call 14 (.cons (.var 0) (.cons (.var 3) .nil))) (.int 12)) .nil)))) .nil)))))))
def f_L_token : DefI := ⟨"_law_token", ["_law_names_here", "_law_draw", "_law_cell_here"], ["_law_names_here", "_law_draw", "_law_cell_here", "_law_pick", "_law_kind"], defArgs (top 22), defBody (top 22), defScope (top 22), i_f_L_token⟩
def i_f_L_remark : Ss := (.cons (.asg (.one 1) (.str " !\"#$&'()*+,-./0123456789:;<=>?@ABCDEFGHIJKLMNOPQRSTUVWXYZ[\\]^_`abcdefghijklmnopqrstuvwxyz{|}~\t")) (.cons (.asg (.one 2) (.bin .mod (.blt .int (.cons (.var 0) .nil)) (.int 95))) (.cons (.ret (.bin .add (.str "#") (.sl (.var 1) (.var 2) (.bin .add (.var 2) (.bin .mod (.blt .int (.cons (.bin .fdiv (.var 0) (.int 95)) .nil)) (.int 8)))))) .nil)))
def f_L_remark : DefI := ⟨"_law_remark", ["_law_draw"], ["_law_draw", "_law_chars", "_law_first"], defArgs (top 23), defBody (top 23), defScope (top 23), i_f_L_remark⟩
def i_f_L_gap : Ss := (.cons (.asg (.one 2) (.lst (.cons (.str "") (.cons (.str " ") (.cons (.str "  ") (.cons (.str "\n") (.cons (.str " # a;= !\n") (.cons (.str "#\n") (.cons (.str "\n\n") (.cons (.bin .add (.call 16 (.cons (.var 1) .nil)) (.str "\n")) (.cons (.bin .add (.call 16 (.cons (.var 1) .nil)) (.str "\n  ")) .nil))))))))))) (.cons (.ret (.ix (.var 2) (.bin .mod (.blt .int (.cons (.var 0) .nil)) (.int 9)))) .nil))
def f_L_gap : DefI := ⟨"_law_gap", ["_law_pick", "_law_draw"], ["_law_pick", "_law_draw", "_law_gaps"], defArgs (top 24), defBody (top 24), defScope (top 24), i_f_L_gap⟩
def i_f_L_joined : Ss := (.cons (.asg (.one 2) (.str "abcdefghijklmnopqrstuvwxyz0123456789")) (.cons (.ife (.or (.cons (.cmp .eq (.var 0) (.str "")) (.cons (.cmp .eq (.var 1) (.str "")) .nil))) (.cons (.ret (.bl false)) .nil) .nil) (.cons (.ife (.and (.cons (.cmp .inn (.ix (.var 0) (.bin .sub (.blt .len (.cons (.var 0) .nil)) (.int 1))) (.var 2)) (.cons (.cmp .inn (.ix (.var 1) (.int 0)) (.var 2)) .nil))) (.cons (.ret (.bl true)) .nil) .nil) (.cons (.ret (.and (.cons (.cmp .inn (.var 0) (.lst (.cons (.str "=") (.cons (.str "<") (.cons (.str ">") (.cons (.str "!") .nil)))))) (.cons (.cmp .eq (.ix (.var 1) (.int 0)) (.str "=")) .nil)))) .nil))))
def f_L_joined : DefI := ⟨"_law_joined", ["_law_before", "_law_word"], ["_law_before", "_law_word", "_law_runs"], defArgs (top 25), defBody (top 25), defScope (top 25), i_f_L_joined⟩
def i_f_L_moved : Ss := (.cons (.asg (.one 2) (.ix (.var 0) (.int 0))) (.cons (.asg (.one 3) (.ix (.var 0) (.int 1))) (.cons (.for_ (.one 4) (.ovs (.var 1)) (.cons (.asg (.one 3) (.bin .add (.var 3) (.int 1))) (.cons (.ife (.cmp .eq (.var 4) (.str "\n")) (.cons (.asg (.one 2) (.bin .add (.var 2) (.int 1))) (.cons (.asg (.one 3) (.int 1)) .nil)) .nil) .nil))) (.cons (.ret (.lst (.cons (.var 2) (.cons (.var 3) .nil)))) .nil))))
def f_L_moved : DefI := ⟨"_law_moved", ["_law_place", "_law_text"], ["_law_place", "_law_text", "_law_row", "_law_column", "_law_char"], defArgs (top 26), defBody (top 26), defScope (top 26), i_f_L_moved⟩
def i_f_L_same : Ss := (.cons (.ife (.or (.cons (.not (.isi (.var 0) .list)) (.cons (.cmp .ne (.blt .len (.cons (.var 0) .nil)) (.blt .len (.cons (.var 1) .nil))) .nil))) (.cons (.ret (.bl false)) .nil) .nil) (.cons (.for_ (.one 2) (.rng1 (.blt .len (.cons (.var 1) .nil))) (.cons (.asg (.one 3) (.ix (.var 0) (.var 2))) (.cons (.ife (.or (.cons (.not (.isi (.var 3) .tuple)) (.cons (.cmp .ne (.blt .len (.cons (.var 3) .nil)) (.int 4)) .nil))) (.cons (.ret (.bl false)) .nil) .nil) (.cons (.ife (.or (.cons (.not (.isi (.ix (.var 3) (.int 0)) .str)) (.cons (.not (.isi (.ix (.var 3) (.int 1)) .str)) .nil))) (.cons (.ret (.bl false)) .nil) .nil) (.cons (.ife (.or (.cons (.not (.call 9 (.cons (.ix (.var 3) (.int 2)) .nil))) (.cons (.not (.call 9 (.cons (.ix (.var 3) (.int 3)) .nil))) (.cons (.cmp .ne (.var 3) (.ix (.var 1) (.var 2))) .nil)))) (.cons (.ret (.bl false)) .nil) .nil) .nil))))) (.cons (.ret (.bl true)) .nil)))
def f_L_same : DefI := ⟨"_law_same", ["_law_actual", "_law_expected"], ["_law_actual", "_law_expected", "_law_k", "_law_token_here"], defArgs (top 27), defBody (top 27), defScope (top 27), i_f_L_same⟩
def i_f_L_bad : Ss := (.cons (.asg (.one 3) (.str "!\"$&':?@ABCDEFGHIJKLMNOPQRSTUVWXYZ[\\]^_`|~\t")) (.cons (.asg (.one 4) (.blt .int (.cons (.bin .fdiv (.var 1) (.int 6)) .nil))) (.cons (.asg (.one 5) (.bin .mod (.blt .int (.cons (.var 1) .nil)) (.int 6))) (.cons (.asg (.one 6) (.call 13 (.cons (.var 2) (.cons (.var 4) .nil)))) (.cons (.ife (.cmp .eq (.var 5) (.int 0)) (.cons (.ret (.ix (.var 3) (.bin .mod (.blt .int (.cons (.bin .add (.bin .fdiv (.var 2) (.int 7)) (.var 4)) .nil)) (.int 43)))) .nil) .nil) (.cons (.ife (.cmp .eq (.var 5) (.int 1)) (.cons (.ret (.sll (.call 14 (.cons (.var 0) (.cons (.var 4) .nil))) (.bin .add (.int 13) (.bin .mod (.blt .int (.cons (.var 4) .nil)) (.int 8))))) .nil) .nil) (.cons (.ife (.cmp .eq (.var 5) (.int 2)) (.cons (.ret (.bin .add (.str "0") (.blt .str (.cons (.var 6) .nil)))) .nil) .nil) (.cons (.ife (.cmp .eq (.var 5) (.int 3)) (.cons (.ret (.bin .add (.blt .str (.cons (.bin .add (.int 1000000000) (.var 6)) .nil)) (.sll (.str "90876") (.bin .mod (.blt .int (.cons (.var 4) .nil)) (.int 5))))) .nil) .nil) (.cons (.ife (.cmp .eq (.var 5) (.int 4)) (.cons (.ret (.bin .add (.blt .str (.cons (.var 6) .nil)) (.ix (.var 0) (.bin .mod (.blt .int (.cons (.var 4) .nil)) (.int 30))))) .nil) .nil) (.cons (.ret (.ix (.var 3) (.bin .mod (.blt .int (.cons (.var 4) .nil)) (.int 43)))) .nil))))))))))
def f_L_bad : DefI := ⟨"_law_bad", ["_law_names_here", "_law_draw", "_law_cell_here"], ["_law_names_here", "_law_draw", "_law_cell_here", "_law_others", "_law_pick", "_law_kind", "_law_number_here"], defArgs (top 28), defBody (top 28), defScope (top 28), i_f_L_bad⟩
def i_f_L_tokens : Ss := (.cons (.asg (.one 6) (.str "")) (.cons (.asg (.one 7) (.lst (.cons (.int 1) (.cons (.int 1) .nil)))) (.cons (.asg (.one 8) (.str "")) (.cons (.asgN 9 (.lst .nil)) (.cons (.for_ (.one 10) (.rng1 (.var 1)) (.cons (.asg (.one 11) (.call 15 (.cons (.var 0) (.cons (.ix (.var 2) (.var 10)) (.cons (.var 3) .nil))))) (.cons (.asg (.one 12) (.call 17 (.cons (.ix (.var 4) (.var 10)) (.cons (.ix (.var 5) (.var 10)) .nil)))) (.cons (.ife (.and (.cons (.cmp .eq (.var 12) (.str "")) (.cons (.call 18 (.cons (.var 8) (.cons (.ix (.var 11) (.int 1)) .nil))) .nil))) (.cons (.asg (.one 12) (.str " ")) .nil) .nil) (.cons (.asg (.one 7) (.call 19 (.cons (.var 7) (.cons (.var 12) .nil)))) (.cons (.app 9 (.tup (.cons (.ix (.var 11) (.int 0)) (.cons (.ix (.var 11) (.int 1)) (.cons (.ix (.var 7) (.int 0)) (.cons (.ix (.var 7) (.int 1)) .nil)))))) (.cons (.asg (.one 6) (.bin .add (.bin .add (.var 6) (.var 12)) (.ix (.var 11) (.int 1)))) (.cons (.asg (.one 7) (.call 19 (.cons (.var 7) (.cons (.ix (.var 11) (.int 1)) .nil)))) (.cons (.asg (.one 8) (.ix (.var 11) (.int 1))) .nil))))))))) (.cons (.frz 9) (.cons (.ret (.lst (.cons (.var 6) (.cons (.var 7) (.cons (.var 8) (.cons (.var 9) .nil)))))) .nil)))))))
def f_L_tokens : DefI := ⟨"_law_tokens", ["_law_names_here", "_law_many", "_law_picks", "_law_cell_here", "_law_gaps", "_law_remarks"], ["_law_names_here", "_law_many", "_law_picks", "_law_cell_here", "_law_gaps", "_law_remarks", "_law_text", "_law_place", "_law_before", "_law_expected", "_law_k", "_law_token_here", "_law_gap_here"], defArgs (top 29), defBody (top 29), defScope (top 29), i_f_L_tokens⟩
def i_f_law : Ss := (.cons (.asg (.one 1) (.call 8 (.cons (.call 7 (.cons (.var 0) (.cons (.int 0) .nil))) (.cons (.int 6) .nil)))) (.cons (.asg (.one 2) (.call 10 (.cons (.ix (.var 1) (.int 0)) (.cons (.ix (.var 1) (.int 1)) .nil)))) (.cons (.asg (.one 3) (.bin .mod (.blt .int (.cons (.ix (.var 1) (.int 2)) .nil)) (.int 6))) (.cons (.asg (.one 4) (.call 8 (.cons (.call 7 (.cons (.var 0) (.cons (.int 2) .nil))) (.cons (.int 11) .nil)))) (.cons (.asg (.one 5) (.call 8 (.cons (.call 7 (.cons (.var 0) (.cons (.int 4) .nil))) (.cons (.int 11) .nil)))) (.cons (.asg (.one 6) (.call 7 (.cons (.var 0) (.cons (.int 3) .nil)))) (.cons (.asg (.one 7) (.call 22 (.cons (.var 2) (.cons (.var 3) (.cons (.call 8 (.cons (.call 7 (.cons (.var 0) (.cons (.int 1) .nil))) (.cons (.int 5) .nil))) (.cons (.var 6) (.cons (.var 4) (.cons (.var 5) .nil)))))))) (.cons (.asg (.one 8) (.ix (.var 7) (.int 2))) (.cons (.asg (.one 9) (.ix (.var 7) (.int 3))) (.cons (.asg (.one 10) (.call 21 (.cons (.var 2) (.cons (.ix (.var 1) (.int 3)) (.cons (.call 7 (.cons (.var 0) (.cons (.int 5) .nil))) .nil))))) (.cons (.asg (.one 11) (.call 17 (.cons (.ix (.var 4) (.int 5)) (.cons (.ix (.var 5) (.int 5)) .nil)))) (.cons (.ife (.and (.cons (.cmp .eq (.var 11) (.str "")) (.cons (.call 18 (.cons (.var 8) (.cons (.var 10) .nil))) .nil))) (.cons (.asg (.one 11) (.str " ")) .nil) .nil) (.cons (.asg (.one 12) (.bin .add (.ix (.var 7) (.int 0)) (.var 11))) (.cons (.asg (.one 13) (.call 19 (.cons (.ix (.var 7) (.int 1)) (.cons (.var 11) .nil)))) (.cons (.asg (.one 14) (.call 22 (.cons (.var 2) (.cons (.bin .mod (.blt .int (.cons (.ix (.var 1) (.int 4)) .nil)) (.int 4)) (.cons (.call 8 (.cons (.call 7 (.cons (.var 0) (.cons (.int 6) .nil))) (.cons (.int 3) .nil))) (.cons (.var 6) (.cons (.slo (.var 4) (.int 6)) (.cons (.slo (.var 5) (.int 6)) .nil)))))))) (.cons (.asg (.one 15) (.ix (.lst (.cons (.ix (.var 14) (.int 0)) (.cons (.ix (.var 14) (.int 0)) (.cons (.bin .add (.str "~") (.ix (.var 14) (.int 0))) .nil)))) (.bin .mod (.blt .int (.cons (.ix (.var 1) (.int 5)) .nil)) (.int 3)))) (.cons (.ife (.and (.cons (.cmp .ne (.var 15) (.str "")) (.cons (.call 18 (.cons (.var 10) (.cons (.var 15) .nil))) .nil))) (.cons (.asg (.one 15) (.bin .add (.str " ") (.var 15))) .nil) .nil) (.cons (.asg (.one 16) (.bin .add (.var 9) (.lst (.cons (.tup (.cons (.str "bad") (.cons (.var 10) (.cons (.ix (.var 13) (.int 0)) (.cons (.ix (.var 13) (.int 1)) .nil))))) .nil)))) (.cons (.asgN 17 (.call 0 (.cons (.bin .add (.bin .add (.var 12) (.var 10)) (.var 15)) .nil))) (.cons (.ife (.not (.cab 20 (.cons (.bor 17) (.cons (.var 16) .nil)))) (.cons (.ret (.bl false)) .nil) .nil) (.cons (.clr 17) (.cons (.ife (.not (.call 20 (.cons (.call 0 (.cons (.var 12) .nil)) (.cons (.bin .add (.var 9) (.lst (.cons (.tup (.cons (.str "end") (.cons (.str "") (.cons (.ix (.var 13) (.int 0)) (.cons (.ix (.var 13) (.int 1)) .nil))))) .nil))) .nil)))) (.cons (.ret (.bl false)) .nil) .nil) (.cons (.ret (.and (.cons (.call 20 (.cons (.call 0 (.cons (.bin .add (.bin .add (.var 12) (.var 10)) (.var 15)) .nil)) (.cons (.var 16) .nil))) (.cons (.call 20 (.cons (.call 0 (.cons (.bin .add (.var 12) (.var 10)) .nil)) (.cons (.var 16) .nil))) .nil)))) .nil)))))))))))))))))))))))
def f_law : DefI := ⟨"law", ["_law_script"], ["_law_script", "_law_heads", "_law_names_here", "_law_many", "_law_gaps", "_law_remarks", "_law_number_here", "_law_made", "_law_before", "_law_expected", "_law_bad_here", "_law_gap_here", "_law_good", "_law_place", "_law_tail", "_law_behind", "_law_found", "_law_actual"], defArgs (top 30), defBody (top 30), defScope (top 30), i_f_law⟩
def mods : List DefI := [f_token_list, f_end_of_row, f_token_at, f_in_run, f_end_of_run, f_run_kind, f_word_kind, f_L_cell, f_L_draws, f_L_is_integer, f_L_names, f_L_keywords, f_L_signs, f_L_number, f_L_long, f_L_token, f_L_remark, f_L_gap, f_L_joined, f_L_moved, f_L_same, f_L_bad, f_L_tokens, f_law]
def gls : List Str := ["KEYWORDS", "LONG_SIGNS", "SHORT_SIGNS", "MOST_LETTERS", "MOST_DIGITS"]
def gs : Nat → Option D
  | 0 => some (.tuple [.str "cell", .str "line", .str "store", .str "gate", .str "wheel", .str "mark", .str "class", .str "within", .str "var", .str "deed", .str "life", .str "start", .str "at", .str "asleep", .str "open", .str "shut", .str "set", .str "tell", .str "if", .str "else", .str "while", .str "do", .str "inner", .str "hold", .str "sleep", .str "wake", .str "after", .str "stop", .str "seize", .str "of", .str "free", .str "wait", .str "put", .str "into", .str "take", .str "from", .str "make", .str "leave", .str "or", .str "and", .str "not", .str "mod", .str "none", .str "me", .str "now", .str "length", .str "first", .str "spare", .str "waiting", .str "isopen", .str "stand"])
  | 1 => some (.tuple [.str "==", .str "!=", .str "<=", .str ">="])
  | 2 => some (.tuple [.str "{", .str "}", .str "(", .str ")", .str ",", .str ";", .str ".", .str "+", .str "-", .str "*", .str "/", .str "=", .str "<", .str ">"])
  | 3 => some (.int 12)
  | 4 => some (.int 9)
  | _ => none
theorem chk_all : mods.all (chkD (mods.map (·.name)) gls) = true := by decide +kernel
theorem b_f_token_list : BndOk f_token_list := fun _ _ _ _ _ _ us hl => match us, hl with | [_], _ => rfl
theorem b_f_end_of_row : BndOk f_end_of_row := fun _ _ _ _ _ _ us hl => match us, hl with | [_, _], _ => rfl
theorem b_f_token_at : BndOk f_token_at := fun _ _ _ _ _ _ us hl => match us, hl with | [_, _], _ => rfl
theorem b_f_in_run : BndOk f_in_run := fun _ _ _ _ _ _ us hl => match us, hl with | [_], _ => rfl
theorem b_f_end_of_run : BndOk f_end_of_run := fun _ _ _ _ _ _ us hl => match us, hl with | [_, _], _ => rfl
theorem b_f_run_kind : BndOk f_run_kind := fun _ _ _ _ _ _ us hl => match us, hl with | [_], _ => rfl
theorem b_f_word_kind : BndOk f_word_kind := fun _ _ _ _ _ _ us hl => match us, hl with | [_], _ => rfl
theorem b_f_L_cell : BndOk f_L_cell := fun _ _ _ _ _ _ us hl => match us, hl with | [_, _], _ => rfl
theorem b_f_L_draws : BndOk f_L_draws := fun _ _ _ _ _ _ us hl => match us, hl with | [_, _], _ => rfl
theorem b_f_L_is_integer : BndOk f_L_is_integer := fun _ _ _ _ _ _ us hl => match us, hl with | [_], _ => rfl
theorem b_f_L_names : BndOk f_L_names := fun _ _ _ _ _ _ us hl => match us, hl with | [_, _], _ => rfl
theorem b_f_L_keywords : BndOk f_L_keywords := fun _ _ _ _ _ _ us hl => match us, hl with | [], _ => rfl
theorem b_f_L_signs : BndOk f_L_signs := fun _ _ _ _ _ _ us hl => match us, hl with | [], _ => rfl
theorem b_f_L_number : BndOk f_L_number := fun _ _ _ _ _ _ us hl => match us, hl with | [_, _], _ => rfl
theorem b_f_L_long : BndOk f_L_long := fun _ _ _ _ _ _ us hl => match us, hl with | [_, _], _ => rfl
theorem b_f_L_token : BndOk f_L_token := fun _ _ _ _ _ _ us hl => match us, hl with | [_, _, _], _ => rfl
theorem b_f_L_remark : BndOk f_L_remark := fun _ _ _ _ _ _ us hl => match us, hl with | [_], _ => rfl
theorem b_f_L_gap : BndOk f_L_gap := fun _ _ _ _ _ _ us hl => match us, hl with | [_, _], _ => rfl
theorem b_f_L_joined : BndOk f_L_joined := fun _ _ _ _ _ _ us hl => match us, hl with | [_, _], _ => rfl
theorem b_f_L_moved : BndOk f_L_moved := fun _ _ _ _ _ _ us hl => match us, hl with | [_, _], _ => rfl
theorem b_f_L_same : BndOk f_L_same := fun _ _ _ _ _ _ us hl => match us, hl with | [_, _], _ => rfl
theorem b_f_L_bad : BndOk f_L_bad := fun _ _ _ _ _ _ us hl => match us, hl with | [_, _, _], _ => rfl
theorem b_f_L_tokens : BndOk f_L_tokens := fun _ _ _ _ _ _ us hl => match us, hl with | [_, _, _, _, _, _], _ => rfl
theorem b_f_law : BndOk f_law := fun _ _ _ _ _ _ us hl => match us, hl with | [_], _ => rfl
theorem b_all : ∀ d ∈ mods, BndOk d := List.forall_mem_cons.2 ⟨b_f_token_list, List.forall_mem_cons.2 ⟨b_f_end_of_row, List.forall_mem_cons.2 ⟨b_f_token_at, List.forall_mem_cons.2 ⟨b_f_in_run, List.forall_mem_cons.2 ⟨b_f_end_of_run, List.forall_mem_cons.2 ⟨b_f_run_kind, List.forall_mem_cons.2 ⟨b_f_word_kind, List.forall_mem_cons.2 ⟨b_f_L_cell, List.forall_mem_cons.2 ⟨b_f_L_draws, List.forall_mem_cons.2 ⟨b_f_L_is_integer, List.forall_mem_cons.2 ⟨b_f_L_names, List.forall_mem_cons.2 ⟨b_f_L_keywords, List.forall_mem_cons.2 ⟨b_f_L_signs, List.forall_mem_cons.2 ⟨b_f_L_number, List.forall_mem_cons.2 ⟨b_f_L_long, List.forall_mem_cons.2 ⟨b_f_L_token, List.forall_mem_cons.2 ⟨b_f_L_remark, List.forall_mem_cons.2 ⟨b_f_L_gap, List.forall_mem_cons.2 ⟨b_f_L_joined, List.forall_mem_cons.2 ⟨b_f_L_moved, List.forall_mem_cons.2 ⟨b_f_L_same, List.forall_mem_cons.2 ⟨b_f_L_bad, List.forall_mem_cons.2 ⟨b_f_L_tokens, List.forall_mem_cons.2 ⟨b_f_law, fun _ h => (List.not_mem_nil h).elim⟩⟩⟩⟩⟩⟩⟩⟩⟩⟩⟩⟩⟩⟩⟩⟩⟩⟩⟩⟩⟩⟩⟩⟩
abbrev iz : List (Str × Int) := [("MOST_LETTERS", 12), ("MOST_DIGITS", 9)]
abbrev tu : List (Str × List D) := [("KEYWORDS", [.str "cell", .str "line", .str "store", .str "gate", .str "wheel", .str "mark", .str "class", .str "within", .str "var", .str "deed", .str "life", .str "start", .str "at", .str "asleep", .str "open", .str "shut", .str "set", .str "tell", .str "if", .str "else", .str "while", .str "do", .str "inner", .str "hold", .str "sleep", .str "wake", .str "after", .str "stop", .str "seize", .str "of", .str "free", .str "wait", .str "put", .str "into", .str "take", .str "from", .str "make", .str "leave", .str "or", .str "and", .str "not", .str "mod", .str "none", .str "me", .str "now", .str "length", .str "first", .str "spare", .str "waiting", .str "isopen", .str "stand"]), ("LONG_SIGNS", [.str "==", .str "!=", .str "<=", .str ">="]), ("SHORT_SIGNS", [.str "{", .str "}", .str "(", .str ")", .str ",", .str ";", .str ".", .str "+", .str "-", .str "*", .str "/", .str "=", .str "<", .str ">"])]
theorem hg : GlE gls gs iz tu
  | 0, x, d, h1, h2 => by
    cases h1
    cases h2
    exact .inr ⟨_, rfl, by decide +kernel, .head _⟩
  | 1, x, d, h1, h2 => by
    cases h1
    cases h2
    exact .inr ⟨_, rfl, by decide +kernel, .tail _ (.head _)⟩
  | 2, x, d, h1, h2 => by
    cases h1
    cases h2
    exact .inr ⟨_, rfl, by decide +kernel, .tail _ (.tail _ (.head _))⟩
  | 3, x, d, h1, h2 => by
    cases h1
    cases h2
    exact .inl ⟨_, rfl, .head _⟩
  | 4, x, d, h1, h2 => by
    cases h1
    cases h2
    exact .inl ⟨_, rfl, .tail _ (.head _)⟩
  | _ + 5, _, _, _, h2 => by cases h2
abbrev fn : List He.DefD := mods.map dOf
abbrev fa : List He.Fa := faE mods iz tu
abbrev R : PySem.W.OpenRow := PySem.W.OpenLaw.row PySem.Challenge.rw_wokenlives_k02_first_bad_token
abbrev hk : PySem.W.Hook := hookE 4 fa fn tu
def ob (s : PySem.W.SharedT) : AlE := obsEG 4 fa fn tu (HandSHeadRun.getT s)
theorem ob_eq (s : PySem.W.SharedT) : ob s = hk.obs s.abs := obsEG_eq (HandSHeadRun.getT_eq s)
def pureLaw : Prop := ∃ fu, ∀ ns : List Int, ns.length ≤ 63 → callF gs (fnT mods) fu 20 23 [klD (ns.map .int)] = some (false, .bool true)
theorem run (w : World) : HandSHeadRun.RunEq R (PySem.W.view R.prog [30]) hk ob 3000 ["__name__", "KEYWORDS", "LONG_SIGNS", "SHORT_SIGNS", "MOST_LETTERS", "MOST_DIGITS", "token_list", "end_of_row", "token_at", "in_run", "end_of_run", "run_kind", "word_kind", "_law_cell", "_law_draws", "_law_is_integer", "_law_names", "_law_keywords", "_law_signs", "_law_number", "_law_long", "_law_token", "_law_remark", "_law_gap", "_law_joined", "_law_moved", "_law_same", "_law_bad", "_law_tokens"] w := by
  intro os
  kernel_rfl
end K02
open PySem PySem.W PySem.Calls PyProof.Rows
theorem k02_holds_of (hp : K02.pureLaw) : PySem.Challenge.rw_wokenlives_k02_first_bad_token.Holds := by
  w_on; o_law
  refine HandSHeadRun.head_any (r := OpenLaw.row PySem.Challenge.rw_wokenlives_k02_first_bad_token) (q := view (OpenLaw.row PySem.Challenge.rw_wokenlives_k02_first_bad_token).prog [30]) (H := K02.hk) (ob := K02.ob) (M := 3000) (loose := ["__name__", "KEYWORDS", "LONG_SIGNS", "SHORT_SIGNS", "MOST_LETTERS", "MOST_DIGITS", "token_list", "end_of_row", "token_at", "in_run", "end_of_run", "run_kind", "word_kind", "_law_cell", "_law_draws", "_law_is_integer", "_law_names", "_law_keywords", "_law_signs", "_law_number", "_law_long", "_law_token", "_law_remark", "_law_gap", "_law_joined", "_law_moved", "_law_same", "_law_bad", "_law_tokens"]) (d := HandSHeadRun.topDef (OpenLaw.row PySem.Challenge.rw_wokenlives_k02_first_bad_token).prog 30) (kwd := []) K02.ob_eq
    (by kernel_rfl) (fun s => by kernel_rfl) K02.run (by kernel_rfl) (by kernel_rfl) (by kernel_rfl) (by rfl) (by first | assumption | decide +kernel) (by decide +kernel) ⟨rfl, rfl, rfl, rfl, rfl, by decide +kernel⟩ ?hw ?hc
  case hw => w_witness2
  case hc =>
    refine L2.walk_ofE (l := PySem.Challenge.rw_wokenlives_k02_first_bad_token) (n := 63) (k := 20) (x := "_law_script") (CX := L2.CX0) rfl (by decide) (by kernel_rfl) ⟨rfl, by decide, by decide⟩ ?F (fun _ _ _ _ z => z)
    intro w mg fa h Y G hmg0
    obtain ⟨K, KX, c⟩ := Y
    have hmg : mg ("law" : PySem.Str) = some (.ref fa) := by
      have e : (HandSHeadRun.topDef (OpenLaw.row PySem.Challenge.rw_wokenlives_k02_first_bad_token).prog 30).name = ("law" : PySem.Str) := by kernel_rfl
      rw [← e]
      exact hmg0
    obtain ⟨fu, hp⟩ := hp
    obtain ⟨fd, sp, b, s, o⟩ := Ev.law_ofE (P := (PySem.Challenge.rw_wokenlives_k02_first_bad_token).prog) (w := w) (fu := fu) (k := 20) (n := 63) (d := K02.f_law) (x := "_law_script") KX G hmg c K02.b_all K02.chk_all K02.hg rfl rfl hp
    exact ⟨K, fd, sp, KX, b, s, o⟩
end
section
namespace K02
open PySem PySem.Spec L2 Ev
noncomputable abbrev C (k : Nat) : Cf := callF gs (fnT mods) 5000 k
theorem c9 {k ds} (h : ds.length = 1) : C (k + 1) 9 ds = outD (exSs gs (C k) 5000 i_f_L_is_integer (startD 1 ds)) := call_step (fn := ⟨1, 1, i_f_L_is_integer⟩) rfl h (by decide)
theorem isint_int (k : Nat) (v : Int) : C (k + 1) 9 [.int v] = some (false, .bool true) := by
  rw [c9 rfl]
  simp only [exSs, x_asg, x_asgN, x_aug, x_app, x_set, x_clr, x_frz, x_ife, x_ret, x_retO, x_retN, x_brk, x_cnt, x_pass, asgD, evE, evEs, evAnd, evOr, evI, evO, evN, getS, getB, ownL, asgD, outD_rt, outD_nx, binD, addD, intD, augD, ordD, cmpD, asC, isD, isnotD, isnD, isiD, lenD, biD, asB, asI, asL, startD, ixD, seqO_nx, seqO_rt, seqO_bk, seqO_ct, seqO_non, Option.bind_some, Option.bind_none, Option.map_some, Option.map_none, List.getElem?_cons_zero, List.getElem?_cons_succ, List.length_cons, List.length_nil, List.map_cons, List.map_nil, List.set_cons_zero, List.set_cons_succ, List.replicate_succ, List.replicate_zero, List.cons_append, List.nil_append, Nat.reduceAdd, Nat.reduceSub, Nat.reduceLeDiff, Nat.zero_add, Nat.sub_self, Nat.reduceLT, sz, decide_eq_true_eq, decide_true, decide_false, if_true, if_false, ite_true, ite_false, Bool.false_eq_true, Bool.true_eq_false, Bool.not_true, Bool.not_false, not_true_eq_false, not_false_eq_true, eqD_int, eqD_ni, List.foldl_cons, List.foldl_nil, List.zip_cons_cons, List.zip_nil_left, Bool.not_eq_true', decide_eq_false_iff_not, reduceCtorEq, and_true, true_and, and_self, Int.cast_ofNat_Int, Int.natCast_add, Int.natCast_zero, Int.natCast_one, Int.reduceEq, Int.reduceNe, Int.reduceLT, Int.reduceLE, Int.reduceAdd, Int.reduceSub, Int.reduceMul, Int.reduceNeg, ne_eq, i_f_L_is_integer]
theorem fm {a b : Int} (h : 0 < b) : 0 ≤ a.fmod b ∧ a.fmod b < b := ⟨Int.fmod_nonneg_of_pos _ h, Int.fmod_lt_of_pos _ h⟩
theorem c8 {k ds} (h : ds.length = 2) : C (k + 1) 8 ds = outD (exSs gs (C k) 5000 i_f_L_draws (startD 7 ds)) := call_step (fn := ⟨2, 7, i_f_L_draws⟩) rfl h (by decide)
structure DrI (c n : Int) (i : Nat) (ρ : Env') : Prop where
  ex : ∃ (ys : List Int) (r : Int) (dg : Bool) (a b : SV), ρ = [some (false, .int c), some (false, .int n), some (true, .list (ys.map .int)), some (false, .int r), some (false, .bool dg), a, b] ∧ ys.length = i ∧ (∀ y ∈ ys, 0 ≤ y ∧ y < 1000) ∧ 0 ≤ r
theorem snoc_int (ys : List Int) (y : Int) : ys.map PyData.int ++ [PyData.int y] = (ys ++ [y]).map .int := by simp
theorem all_snoc {ys : List Int} {y : Int} (h : ∀ y ∈ ys, 0 ≤ y ∧ y < 1000) (g : 0 ≤ y ∧ y < 1000) : ∀ z ∈ ys ++ [y], 0 ≤ z ∧ z < 1000 := by
  intro z hz
  rcases List.mem_append.mp hz with hz | hz
  · exact h z hz
  · cases List.mem_singleton.mp hz
    exact g
def lbody : Ss := match i_f_L_draws with
  | .cons _ (.cons _ (.cons _ (.cons (.for_ _ _ b) _))) => b
  | _ => .nil
theorem d_step1 {cf : Cf} (c n : Int) (i : Nat) (hi : i < 100) (ys : List Int) (r : Int) (a b : SV) (hl : ys.length = i) (h1 : 0 < r) :
    exSs gs cf 5000 lbody [some (false, .int c), some (false, .int n), some (true, .list (ys.map .int)), some (false, .int r), some (false, .bool true), some (false, .int i), b] = some (.nx [some (false, .int c), some (false, .int n), some (true, .list ((ys ++ [r.fmod 1000]).map .int)), some (false, .int (r.fdiv 1000)), some (false, .bool true), some (false, .int i), b]) := by
  have d1 : divI r 1000 = some (r.fdiv 1000) := div_ok (by decide)
  have m1 : modI r 1000 = some (r.fmod 1000) := mod_ok (by decide)
  simp only [lbody, i_f_L_draws]
  simp only [exSs, x_asg, x_asgN, x_aug, x_app, x_set, x_clr, x_frz, x_ife, x_ret, x_retO, x_retN, x_brk, x_cnt, x_pass, asgD, evE, evEs, evAnd, evOr, evI, evO, evN, getS, getB, ownL, asgD, outD_rt, outD_nx, binD, addD, intD, augD, ordD, cmpD, asC, isD, isnotD, isnD, isiD, lenD, biD, asB, asI, asL, startD, ixD, seqO_nx, seqO_rt, seqO_bk, seqO_ct, seqO_non, Option.bind_some, Option.bind_none, Option.map_some, Option.map_none, List.getElem?_cons_zero, List.getElem?_cons_succ, List.length_cons, List.length_nil, List.map_cons, List.map_nil, List.set_cons_zero, List.set_cons_succ, List.replicate_succ, List.replicate_zero, List.cons_append, List.nil_append, Nat.reduceAdd, Nat.reduceSub, Nat.reduceLeDiff, Nat.zero_add, Nat.sub_self, Nat.reduceLT, sz, decide_eq_true_eq, decide_true, decide_false, if_true, if_false, ite_true, ite_false, Bool.false_eq_true, Bool.true_eq_false, Bool.not_true, Bool.not_false, not_true_eq_false, not_false_eq_true, eqD_int, eqD_ni, List.foldl_cons, List.foldl_nil, List.zip_cons_cons, List.zip_nil_left, Bool.not_eq_true', decide_eq_false_iff_not, reduceCtorEq, and_true, true_and, and_self, Int.cast_ofNat_Int, Int.natCast_add, Int.natCast_zero, Int.natCast_one, Int.reduceEq, Int.reduceNe, Int.reduceLT, Int.reduceLE, Int.reduceAdd, Int.reduceSub, Int.reduceMul, Int.reduceNeg, ne_eq, h1, d1, m1, List.length_map, hl, show i < 16777216 by omega, snoc_int]
theorem d_step2 {cf : Cf} (c n : Int) (i : Nat) (hi : i < 100) (ys : List Int) (r : Int) (dg : Bool) (a b : SV) (hl : ys.length = i) (h1 : dg = true → ¬ 0 < r) :
    ∃ F, exSs gs cf 5000 lbody [some (false, .int c), some (false, .int n), some (true, .list (ys.map .int)), some (false, .int r), some (false, .bool dg), some (false, .int i), b] = some (.nx [some (false, .int c), some (false, .int n), some (true, .list ((ys ++ [(Int.fdiv F 9).fmod 1000]).map .int)), some (false, .int r), some (false, .bool dg), some (false, .int i), some (false, .int F)]) := by
  generalize hA : (if c < 0 then -c else c) = A
  have m2 : mulI 7919 (i : Int) = some (7919 * (i : Int)) := mul_ok' (by decide)
  have m3 : ∀ a, modI a 2147483647 = some (a.fmod 2147483647) := fun a => mod_ok (by decide)
  have m4 : ∀ a, modI a 2147483629 = some (a.fmod 2147483629) := fun a => mod_ok (by decide)
  have m5 : ∀ a, modI a 1000 = some (a.fmod 1000) := fun a => mod_ok (by decide)
  have m6 : mulI 31 (i : Int) = some (31 * (i : Int)) := mul_ok' (by decide)
  have d2 : ∀ a, divI a 9 = some (a.fdiv 9) := fun a => div_ok (by decide)
  have q1 := fm (a := A + 7919 * (i : Int) + 13) (b := 2147483647) (by decide)
  generalize hB : (A + 7919 * (i : Int) + 13).fmod 2147483647 = B at q1
  have m7 : mulI B (B + 48271) = some (B * (B + 48271)) := mul_ok' (by omega)
  have q2 := fm (a := B * (B + 48271)) (b := 2147483629) (by decide)
  generalize hE : (B * (B + 48271)).fmod 2147483629 = E at q2
  have m8 : mulI E (E + 69621) = some (E * (E + 69621)) := mul_ok' (by omega)
  generalize hF : (E * (E + 69621) + 31 * (i : Int)).fmod 2147483647 = F
  refine ⟨F, ?_⟩
  simp only [lbody, i_f_L_draws]
  cases dg with
  | false => simp only [exSs, x_asg, x_asgN, x_aug, x_app, x_set, x_clr, x_frz, x_ife, x_ret, x_retO, x_retN, x_brk, x_cnt, x_pass, asgD, evE, evEs, evAnd, evOr, evI, evO, evN, getS, getB, ownL, asgD, outD_rt, outD_nx, binD, addD, intD, augD, ordD, cmpD, asC, isD, isnotD, isnD, isiD, lenD, biD, asB, asI, asL, startD, ixD, seqO_nx, seqO_rt, seqO_bk, seqO_ct, seqO_non, Option.bind_some, Option.bind_none, Option.map_some, Option.map_none, List.getElem?_cons_zero, List.getElem?_cons_succ, List.length_cons, List.length_nil, List.map_cons, List.map_nil, List.set_cons_zero, List.set_cons_succ, List.replicate_succ, List.replicate_zero, List.cons_append, List.nil_append, Nat.reduceAdd, Nat.reduceSub, Nat.reduceLeDiff, Nat.zero_add, Nat.sub_self, Nat.reduceLT, sz, decide_eq_true_eq, decide_true, decide_false, if_true, if_false, ite_true, ite_false, Bool.false_eq_true, Bool.true_eq_false, Bool.not_true, Bool.not_false, not_true_eq_false, not_false_eq_true, eqD_int, eqD_ni, List.foldl_cons, List.foldl_nil, List.zip_cons_cons, List.zip_nil_left, Bool.not_eq_true', decide_eq_false_iff_not, reduceCtorEq, and_true, true_and, and_self, Int.cast_ofNat_Int, Int.natCast_add, Int.natCast_zero, Int.natCast_one, Int.reduceEq, Int.reduceNe, Int.reduceLT, Int.reduceLE, Int.reduceAdd, Int.reduceSub, Int.reduceMul, Int.reduceNeg, ne_eq, m2, m3, m4, m5, m6, d2, hA, hB, m7, hE, m8, hF, List.length_map, hl, show i < 16777216 by omega, snoc_int]
  | true => simp only [exSs, x_asg, x_asgN, x_aug, x_app, x_set, x_clr, x_frz, x_ife, x_ret, x_retO, x_retN, x_brk, x_cnt, x_pass, asgD, evE, evEs, evAnd, evOr, evI, evO, evN, getS, getB, ownL, asgD, outD_rt, outD_nx, binD, addD, intD, augD, ordD, cmpD, asC, isD, isnotD, isnD, isiD, lenD, biD, asB, asI, asL, startD, ixD, seqO_nx, seqO_rt, seqO_bk, seqO_ct, seqO_non, Option.bind_some, Option.bind_none, Option.map_some, Option.map_none, List.getElem?_cons_zero, List.getElem?_cons_succ, List.length_cons, List.length_nil, List.map_cons, List.map_nil, List.set_cons_zero, List.set_cons_succ, List.replicate_succ, List.replicate_zero, List.cons_append, List.nil_append, Nat.reduceAdd, Nat.reduceSub, Nat.reduceLeDiff, Nat.zero_add, Nat.sub_self, Nat.reduceLT, sz, decide_eq_true_eq, decide_true, decide_false, if_true, if_false, ite_true, ite_false, Bool.false_eq_true, Bool.true_eq_false, Bool.not_true, Bool.not_false, not_true_eq_false, not_false_eq_true, eqD_int, eqD_ni, List.foldl_cons, List.foldl_nil, List.zip_cons_cons, List.zip_nil_left, Bool.not_eq_true', decide_eq_false_iff_not, reduceCtorEq, and_true, true_and, and_self, Int.cast_ofNat_Int, Int.natCast_add, Int.natCast_zero, Int.natCast_one, Int.reduceEq, Int.reduceNe, Int.reduceLT, Int.reduceLE, Int.reduceAdd, Int.reduceSub, Int.reduceMul, Int.reduceNeg, ne_eq, h1 rfl, m2, m3, m4, m5, m6, d2, hA, hB, m7, hE, m8, hF, List.length_map, hl, show i < 16777216 by omega, snoc_int]
theorem d_init {cf : Cf} (c n : Int) : ∃ dg : Bool, exSs gs cf 5000 i_f_L_draws (startD 7 [.int c, .int n]) = seqO (exS gs cf 5000 (.for_ (.one 5) (.rng1 (.var 1)) lbody) [some (false, .int c), some (false, .int n), some (true, .list []), some (false, .int (if c < 0 then -c else c)), some (false, .bool dg), none, none]) fun ρ => exSs gs cf 5000 (.cons (.retO 2) .nil) ρ := by
  obtain ⟨p, h0⟩ : ∃ p, powI 10 18 = some p := ⟨_, pow_ok ⟨by omega, by omega, by omega⟩⟩
  refine ⟨decide (p ≤ (if c < 0 then -c else c)), ?_⟩
  simp only [i_f_L_draws]
  simp only [exSs, x_asg, x_asgN, x_aug, x_app, x_set, x_clr, x_frz, x_ife, x_ret, x_retO, x_retN, x_brk, x_cnt, x_pass, asgD, evE, evEs, evAnd, evOr, evI, evO, evN, getS, getB, ownL, asgD, outD_rt, outD_nx, binD, addD, intD, augD, ordD, cmpD, asC, isD, isnotD, isnD, isiD, lenD, biD, asB, asI, asL, startD, ixD, seqO_nx, seqO_rt, seqO_bk, seqO_ct, seqO_non, Option.bind_some, Option.bind_none, Option.map_some, Option.map_none, List.getElem?_cons_zero, List.getElem?_cons_succ, List.length_cons, List.length_nil, List.map_cons, List.map_nil, List.set_cons_zero, List.set_cons_succ, List.replicate_succ, List.replicate_zero, List.cons_append, List.nil_append, Nat.reduceAdd, Nat.reduceSub, Nat.reduceLeDiff, Nat.zero_add, Nat.sub_self, Nat.reduceLT, sz, decide_eq_true_eq, decide_true, decide_false, if_true, if_false, ite_true, ite_false, Bool.false_eq_true, Bool.true_eq_false, Bool.not_true, Bool.not_false, not_true_eq_false, not_false_eq_true, eqD_int, eqD_ni, List.foldl_cons, List.foldl_nil, List.zip_cons_cons, List.zip_nil_left, Bool.not_eq_true', decide_eq_false_iff_not, reduceCtorEq, and_true, true_and, and_self, Int.cast_ofNat_Int, Int.natCast_add, Int.natCast_zero, Int.natCast_one, Int.reduceEq, Int.reduceNe, Int.reduceLT, Int.reduceLE, Int.reduceAdd, Int.reduceSub, Int.reduceMul, Int.reduceNeg, ne_eq, h0]
  rfl
theorem draws (k : Nat) (c : Int) (n : Nat) (hn : n ≤ 100) : ∃ x : Nat → Int, (∀ j, 0 ≤ x j ∧ x j < 1000) ∧ C (k + 1) 8 [.int c, .int n] = some (true, .list (drL x n)) := by
  rw [c8 rfl]
  obtain ⟨dg0, h0⟩ := d_init (cf := C k) c n
  rw [h0]
  refine for_goal (fun o => ∃ x : Nat → Int, (∀ j, 0 ≤ x j ∧ x j < 1000) ∧ outD o = some (true, .list (drL x n))) (ds := (List.range n).map fun (k : Nat) => .int (k : Int)) (DrI c n) ?_ ⟨[], _, _, _, _, rfl, rfl, fun _ h => absurd h List.not_mem_nil, ?_⟩ (fun i d ρ hd hp => ?_) ?_
  · exact evI_rng (by simp only [exSs, x_asg, x_asgN, x_aug, x_app, x_set, x_clr, x_frz, x_ife, x_ret, x_retO, x_retN, x_brk, x_cnt, x_pass, asgD, evE, evEs, evAnd, evOr, evI, evO, evN, getS, getB, ownL, asgD, outD_rt, outD_nx, binD, addD, intD, augD, ordD, cmpD, asC, isD, isnotD, isnD, isiD, lenD, biD, asB, asI, asL, startD, ixD, seqO_nx, seqO_rt, seqO_bk, seqO_ct, seqO_non, Option.bind_some, Option.bind_none, Option.map_some, Option.map_none, List.getElem?_cons_zero, List.getElem?_cons_succ, List.length_cons, List.length_nil, List.map_cons, List.map_nil, List.set_cons_zero, List.set_cons_succ, List.replicate_succ, List.replicate_zero, List.cons_append, List.nil_append, Nat.reduceAdd, Nat.reduceSub, Nat.reduceLeDiff, Nat.zero_add, Nat.sub_self, Nat.reduceLT, sz, decide_eq_true_eq, decide_true, decide_false, if_true, if_false, ite_true, ite_false, Bool.false_eq_true, Bool.true_eq_false, Bool.not_true, Bool.not_false, not_true_eq_false, not_false_eq_true, eqD_int, eqD_ni, List.foldl_cons, List.foldl_nil, List.zip_cons_cons, List.zip_nil_left, Bool.not_eq_true', decide_eq_false_iff_not, reduceCtorEq, and_true, true_and, and_self, Int.cast_ofNat_Int, Int.natCast_add, Int.natCast_zero, Int.natCast_one, Int.reduceEq, Int.reduceNe, Int.reduceLT, Int.reduceLE, Int.reduceAdd, Int.reduceSub, Int.reduceMul, Int.reduceNeg, ne_eq]) (by omega)
  · split <;> omega
  · obtain ⟨hi, rfl⟩ := rng_at hd
    obtain ⟨ys, r, dg, a, b, rfl, hl, hy, hr⟩ := hp
    by_cases hc : dg = true ∧ 0 < r
    · obtain ⟨rfl, h1⟩ := hc
      exact ⟨_, _, rfl, .inl (d_step1 c n i (by omega) ys r a b hl h1), ⟨ys ++ [r.fmod 1000], r.fdiv 1000, true, _, _, rfl, by simp [hl], all_snoc hy (fm (by decide)), Int.fdiv_nonneg hr (by decide)⟩⟩
    · obtain ⟨F, h⟩ := d_step2 (cf := C k) c n i (by omega) ys r dg a b hl fun h1 h2 => hc ⟨h1, h2⟩
      exact ⟨_, _, rfl, .inl h, ⟨ys ++ [(F.fdiv 9).fmod 1000], r, dg, _, _, rfl, by simp [hl], all_snoc hy (fm (by decide)), hr⟩⟩
  · rintro ρ ⟨ys, r, dg, a, b, rfl, hl, hy, hr⟩
    rw [List.length_map, List.length_range] at hl
    refine ⟨fun j => ys.getD j 0, fun j => ?_, ?_⟩
    · by_cases h : j < ys.length
      · have := hy ys[j] (List.getElem_mem h)
        simpa [List.getD, h] using this
      · simp [List.getD, List.getElem?_eq_none (Nat.le_of_not_lt h)]
    · have e : ys.map PyData.int = drL (fun j => ys.getD j 0) n := by
        subst hl
        apply List.ext_getElem
        · simp
        · intro i h1 h2
          simp only [List.length_map] at h1
          simp [List.getD, h1]
      rw [← e]
      simp only [exSs, x_asg, x_asgN, x_aug, x_app, x_set, x_clr, x_frz, x_ife, x_ret, x_retO, x_retN, x_brk, x_cnt, x_pass, asgD, evE, evEs, evAnd, evOr, evI, evO, evN, getS, getB, ownL, asgD, outD_rt, outD_nx, binD, addD, intD, augD, ordD, cmpD, asC, isD, isnotD, isnD, isiD, lenD, biD, asB, asI, asL, startD, ixD, seqO_nx, seqO_rt, seqO_bk, seqO_ct, seqO_non, Option.bind_some, Option.bind_none, Option.map_some, Option.map_none, List.getElem?_cons_zero, List.getElem?_cons_succ, List.length_cons, List.length_nil, List.map_cons, List.map_nil, List.set_cons_zero, List.set_cons_succ, List.replicate_succ, List.replicate_zero, List.cons_append, List.nil_append, Nat.reduceAdd, Nat.reduceSub, Nat.reduceLeDiff, Nat.zero_add, Nat.sub_self, Nat.reduceLT, sz, decide_eq_true_eq, decide_true, decide_false, if_true, if_false, ite_true, ite_false, Bool.false_eq_true, Bool.true_eq_false, Bool.not_true, Bool.not_false, not_true_eq_false, not_false_eq_true, eqD_int, eqD_ni, List.foldl_cons, List.foldl_nil, List.zip_cons_cons, List.zip_nil_left, Bool.not_eq_true', decide_eq_false_iff_not, reduceCtorEq, and_true, true_and, and_self, Int.cast_ofNat_Int, Int.natCast_add, Int.natCast_zero, Int.natCast_one, Int.reduceEq, Int.reduceNe, Int.reduceLT, Int.reduceLE, Int.reduceAdd, Int.reduceSub, Int.reduceMul, Int.reduceNeg, ne_eq]
theorem c7 {k ds} (h : ds.length = 2) : C (k + 1) 7 ds = outD (exSs gs (C k) 5000 i_f_L_cell (startD 2 ds)) := call_step (fn := ⟨2, 2, i_f_L_cell⟩) rfl h (by decide)
theorem cell (k : Nat) (ns : List Int) (j : Nat) : ∃ c : Int, C (k + 1) 7 [klD (ns.map .int), .int (j : Int)] = some (false, .int c) := by
  rw [c7 rfl]
  by_cases h : j < ns.length
  · have h1 : (j : Int) < (ns.length : Int) := by exact_mod_cast h
    have h2 : atI (ns.map PyData.int) (j : Int) = some (.int ns[j]) := by
      rw [atI_ok (by simpa using h)]
      simp
    exact ⟨ns[j], by simp only [exSs, x_asg, x_asgN, x_aug, x_app, x_set, x_clr, x_frz, x_ife, x_ret, x_retO, x_retN, x_brk, x_cnt, x_pass, asgD, evE, evEs, evAnd, evOr, evI, evO, evN, getS, getB, ownL, asgD, outD_rt, outD_nx, binD, addD, intD, augD, ordD, cmpD, asC, isD, isnotD, isnD, isiD, lenD, biD, asB, asI, asL, startD, ixD, seqO_nx, seqO_rt, seqO_bk, seqO_ct, seqO_non, Option.bind_some, Option.bind_none, Option.map_some, Option.map_none, List.getElem?_cons_zero, List.getElem?_cons_succ, List.length_cons, List.length_nil, List.map_cons, List.map_nil, List.set_cons_zero, List.set_cons_succ, List.replicate_succ, List.replicate_zero, List.cons_append, List.nil_append, Nat.reduceAdd, Nat.reduceSub, Nat.reduceLeDiff, Nat.zero_add, Nat.sub_self, Nat.reduceLT, sz, decide_eq_true_eq, decide_true, decide_false, if_true, if_false, ite_true, ite_false, Bool.false_eq_true, Bool.true_eq_false, Bool.not_true, Bool.not_false, not_true_eq_false, not_false_eq_true, eqD_int, eqD_ni, List.foldl_cons, List.foldl_nil, List.zip_cons_cons, List.zip_nil_left, Bool.not_eq_true', decide_eq_false_iff_not, reduceCtorEq, and_true, true_and, and_self, Int.cast_ofNat_Int, Int.natCast_add, Int.natCast_zero, Int.natCast_one, Int.reduceEq, Int.reduceNe, Int.reduceLT, Int.reduceLE, Int.reduceAdd, Int.reduceSub, Int.reduceMul, Int.reduceNeg, ne_eq, i_f_L_cell, List.length_map, h1, h2]⟩
  · have h1 : ¬ (j : Int) < (ns.length : Int) := by
      intro h2
      exact h (by exact_mod_cast h2)
    exact ⟨0, by simp only [exSs, x_asg, x_asgN, x_aug, x_app, x_set, x_clr, x_frz, x_ife, x_ret, x_retO, x_retN, x_brk, x_cnt, x_pass, asgD, evE, evEs, evAnd, evOr, evI, evO, evN, getS, getB, ownL, asgD, outD_rt, outD_nx, binD, addD, intD, augD, ordD, cmpD, asC, isD, isnotD, isnD, isiD, lenD, biD, asB, asI, asL, startD, ixD, seqO_nx, seqO_rt, seqO_bk, seqO_ct, seqO_non, Option.bind_some, Option.bind_none, Option.map_some, Option.map_none, List.getElem?_cons_zero, List.getElem?_cons_succ, List.length_cons, List.length_nil, List.map_cons, List.map_nil, List.set_cons_zero, List.set_cons_succ, List.replicate_succ, List.replicate_zero, List.cons_append, List.nil_append, Nat.reduceAdd, Nat.reduceSub, Nat.reduceLeDiff, Nat.zero_add, Nat.sub_self, Nat.reduceLT, sz, decide_eq_true_eq, decide_true, decide_false, if_true, if_false, ite_true, ite_false, Bool.false_eq_true, Bool.true_eq_false, Bool.not_true, Bool.not_false, not_true_eq_false, not_false_eq_true, eqD_int, eqD_ni, List.foldl_cons, List.foldl_nil, List.zip_cons_cons, List.zip_nil_left, Bool.not_eq_true', decide_eq_false_iff_not, reduceCtorEq, and_true, true_and, and_self, Int.cast_ofNat_Int, Int.natCast_add, Int.natCast_zero, Int.natCast_one, Int.reduceEq, Int.reduceNe, Int.reduceLT, Int.reduceLE, Int.reduceAdd, Int.reduceSub, Int.reduceMul, Int.reduceNeg, ne_eq, i_f_L_cell, List.length_map, h1]⟩
theorem str_ext {a b : Str} (h : a.cps.toList = b.cps.toList) : a = b := by
  cases a with
  | mk a => cases b with
    | mk b =>
      congr
      exact Array.toList_inj.mp h
abbrev mkS (s : List Nat) : Str := ⟨s.toArray⟩
theorem mk_len (s : List Nat) : (mkS s).length = s.length := by
  show s.toArray.size = _
  simp
theorem mk_ok {s : List Nat} (h : ∀ c ∈ s, c < 128) : PyData.strOk (mkS s) = true := by
  unfold PyData.strOk
  simp only [mkS, List.all_toArray, List.all_eq_true, decide_eq_true_eq]
  intro c hc
  have := h c hc
  omega
theorem mk_app (c : Nat) (s : List Nat) : (⟨#[c]⟩ : Str) ++ mkS s = mkS (c :: s) := by
  show Str.mk (#[c] ++ s.toArray) = _
  simp [mkS]
theorem one_len (c : Nat) : (⟨#[c]⟩ : Str).length = 1 := rfl
end K02
end
section
namespace K02
open PySem PySem.Spec L2 Ev
/-! the module's defs over texts as lists of code points below 128 -/
def islet (c : Nat) : Bool := decide (97 ≤ c) && decide (c ≤ 122)
def isdig (c : Nat) : Bool := decide (48 ≤ c) && decide (c ≤ 57)
def isrun (c : Nat) : Bool := islet c || isdig c
theorem mk_inj (a b : List Nat) : (mkS a = mkS b) = (a = b) := by
  apply propext
  constructor
  · intro h
    have := congrArg (fun s : Str => s.cps.toList) h
    simpa using this
  · rintro rfl
    rfl
theorem eq_mk {a b : List Nat} (ha : ∀ c ∈ a, c < 128) (hb : ∀ c ∈ b, c < 128) : eqD (.str (mkS a)) (.str (mkS b)) = some (decide (a = b)) := by
  rw [eqD_str (mk_ok ha) (mk_ok hb)]
  simp only [mk_inj]
theorem s_a : ("a" : Str).cps.toList = [97] := by decide +kernel
theorem s_z : ("z" : Str).cps.toList = [122] := by decide +kernel
theorem s_0 : ("0" : Str).cps.toList = [48] := by decide +kernel
theorem s_9 : ("9" : Str).cps.toList = [57] := by decide +kernel
theorem lt1 (a b : Nat) : decide ([a] < [b]) = decide (a < b) := by
  apply decide_eq_decide.mpr
  rw [List.cons_lt_cons_iff]
  constructor
  · rintro (h | ⟨_, h⟩)
    · exact h
    · exact absurd h (List.not_lt_nil _)
  · exact .inl
theorem c3 {k ds} (h : ds.length = 1) : C (k + 1) 3 ds = outD (exSs gs (C k) 5000 i_f_in_run (startD 1 ds)) := call_step (fn := ⟨1, 1, i_f_in_run⟩) rfl h (by decide)
theorem c4 {k ds} (h : ds.length = 2) : C (k + 1) 4 ds = outD (exSs gs (C k) 5000 i_f_end_of_run (startD 2 ds)) := call_step (fn := ⟨2, 2, i_f_end_of_run⟩) rfl h (by decide)
theorem c5 {k ds} (h : ds.length = 1) : C (k + 1) 5 ds = outD (exSs gs (C k) 5000 i_f_run_kind (startD 1 ds)) := call_step (fn := ⟨1, 1, i_f_run_kind⟩) rfl h (by decide)
theorem c6 {k ds} (h : ds.length = 1) : C (k + 1) 6 ds = outD (exSs gs (C k) 5000 i_f_word_kind (startD 1 ds)) := call_step (fn := ⟨1, 1, i_f_word_kind⟩) rfl h (by decide)
theorem in_run (k c : Nat) : C (k + 1) 3 [.str (mkS [c])] = some (false, .bool (isrun c)) := by
  rw [c3 rfl]
  unfold isrun islet isdig
  by_cases p : c < 97
  · have p0 : decide (97 ≤ c) = false := decide_eq_false (by omega)
    by_cases q : c < 48
    · have q0 : decide (48 ≤ c) = false := decide_eq_false (by omega)
      rw [p0, q0]
      simp only [exSs, x_asg, x_asgN, x_aug, x_app, x_set, x_clr, x_frz, x_ife, x_ret, x_retO, x_retN, x_brk, x_cnt, x_pass, asgD, evE, evEs, evAnd, evOr, evI, evO, evN, getS, getB, ownL, asgD, outD_rt, outD_nx, binD, addD, intD, augD, ordD, cmpD, asC, isD, isnotD, isnD, isiD, lenD, biD, asB, asI, asL, startD, ixD, seqO_nx, seqO_rt, seqO_bk, seqO_ct, seqO_non, Option.bind_some, Option.bind_none, Option.map_some, Option.map_none, List.getElem?_cons_zero, List.getElem?_cons_succ, List.length_cons, List.length_nil, List.map_cons, List.map_nil, List.set_cons_zero, List.set_cons_succ, List.replicate_succ, List.replicate_zero, List.cons_append, List.nil_append, Nat.reduceAdd, Nat.reduceSub, Nat.reduceLeDiff, Nat.zero_add, Nat.sub_self, Nat.reduceLT, sz, decide_eq_true_eq, decide_true, decide_false, if_true, if_false, ite_true, ite_false, Bool.false_eq_true, Bool.true_eq_false, Bool.not_true, Bool.not_false, not_true_eq_false, not_false_eq_true, eqD_int, eqD_ni, List.foldl_cons, List.foldl_nil, List.zip_cons_cons, List.zip_nil_left, Bool.not_eq_true', decide_eq_false_iff_not, reduceCtorEq, and_true, true_and, and_self, Int.cast_ofNat_Int, Int.natCast_add, Int.natCast_zero, Int.natCast_one, Int.reduceEq, Int.reduceNe, Int.reduceLT, Int.reduceLE, Int.reduceAdd, Int.reduceSub, Int.reduceMul, Int.reduceNeg, ne_eq, i_f_in_run, s_a, s_z, s_0, s_9, lt1, p, q]
      rfl
    · have q0 : decide (48 ≤ c) = true := decide_eq_true (by omega)
      rw [p0, q0]
      by_cases q' : 57 < c
      · have q1 : decide (c ≤ 57) = false := decide_eq_false (by omega)
        rw [q1]
        simp only [exSs, x_asg, x_asgN, x_aug, x_app, x_set, x_clr, x_frz, x_ife, x_ret, x_retO, x_retN, x_brk, x_cnt, x_pass, asgD, evE, evEs, evAnd, evOr, evI, evO, evN, getS, getB, ownL, asgD, outD_rt, outD_nx, binD, addD, intD, augD, ordD, cmpD, asC, isD, isnotD, isnD, isiD, lenD, biD, asB, asI, asL, startD, ixD, seqO_nx, seqO_rt, seqO_bk, seqO_ct, seqO_non, Option.bind_some, Option.bind_none, Option.map_some, Option.map_none, List.getElem?_cons_zero, List.getElem?_cons_succ, List.length_cons, List.length_nil, List.map_cons, List.map_nil, List.set_cons_zero, List.set_cons_succ, List.replicate_succ, List.replicate_zero, List.cons_append, List.nil_append, Nat.reduceAdd, Nat.reduceSub, Nat.reduceLeDiff, Nat.zero_add, Nat.sub_self, Nat.reduceLT, sz, decide_eq_true_eq, decide_true, decide_false, if_true, if_false, ite_true, ite_false, Bool.false_eq_true, Bool.true_eq_false, Bool.not_true, Bool.not_false, not_true_eq_false, not_false_eq_true, eqD_int, eqD_ni, List.foldl_cons, List.foldl_nil, List.zip_cons_cons, List.zip_nil_left, Bool.not_eq_true', decide_eq_false_iff_not, reduceCtorEq, and_true, true_and, and_self, Int.cast_ofNat_Int, Int.natCast_add, Int.natCast_zero, Int.natCast_one, Int.reduceEq, Int.reduceNe, Int.reduceLT, Int.reduceLE, Int.reduceAdd, Int.reduceSub, Int.reduceMul, Int.reduceNeg, ne_eq, i_f_in_run, s_a, s_z, s_0, s_9, lt1, p, q, q']
        rfl
      · have q1 : decide (c ≤ 57) = true := decide_eq_true (by omega)
        rw [q1]
        simp only [exSs, x_asg, x_asgN, x_aug, x_app, x_set, x_clr, x_frz, x_ife, x_ret, x_retO, x_retN, x_brk, x_cnt, x_pass, asgD, evE, evEs, evAnd, evOr, evI, evO, evN, getS, getB, ownL, asgD, outD_rt, outD_nx, binD, addD, intD, augD, ordD, cmpD, asC, isD, isnotD, isnD, isiD, lenD, biD, asB, asI, asL, startD, ixD, seqO_nx, seqO_rt, seqO_bk, seqO_ct, seqO_non, Option.bind_some, Option.bind_none, Option.map_some, Option.map_none, List.getElem?_cons_zero, List.getElem?_cons_succ, List.length_cons, List.length_nil, List.map_cons, List.map_nil, List.set_cons_zero, List.set_cons_succ, List.replicate_succ, List.replicate_zero, List.cons_append, List.nil_append, Nat.reduceAdd, Nat.reduceSub, Nat.reduceLeDiff, Nat.zero_add, Nat.sub_self, Nat.reduceLT, sz, decide_eq_true_eq, decide_true, decide_false, if_true, if_false, ite_true, ite_false, Bool.false_eq_true, Bool.true_eq_false, Bool.not_true, Bool.not_false, not_true_eq_false, not_false_eq_true, eqD_int, eqD_ni, List.foldl_cons, List.foldl_nil, List.zip_cons_cons, List.zip_nil_left, Bool.not_eq_true', decide_eq_false_iff_not, reduceCtorEq, and_true, true_and, and_self, Int.cast_ofNat_Int, Int.natCast_add, Int.natCast_zero, Int.natCast_one, Int.reduceEq, Int.reduceNe, Int.reduceLT, Int.reduceLE, Int.reduceAdd, Int.reduceSub, Int.reduceMul, Int.reduceNeg, ne_eq, i_f_in_run, s_a, s_z, s_0, s_9, lt1, p, q, q']
        rfl
  · have p0 : decide (97 ≤ c) = true := decide_eq_true (by omega)
    have q : ¬ c < 48 := by omega
    have q0 : decide (48 ≤ c) = true := decide_eq_true (by omega)
    have q' : 57 < c := by omega
    have q1 : decide (c ≤ 57) = false := decide_eq_false (by omega)
    rw [p0, q0, q1]
    by_cases p' : 122 < c
    · have p1 : decide (c ≤ 122) = false := decide_eq_false (by omega)
      rw [p1]
      simp only [exSs, x_asg, x_asgN, x_aug, x_app, x_set, x_clr, x_frz, x_ife, x_ret, x_retO, x_retN, x_brk, x_cnt, x_pass, asgD, evE, evEs, evAnd, evOr, evI, evO, evN, getS, getB, ownL, asgD, outD_rt, outD_nx, binD, addD, intD, augD, ordD, cmpD, asC, isD, isnotD, isnD, isiD, lenD, biD, asB, asI, asL, startD, ixD, seqO_nx, seqO_rt, seqO_bk, seqO_ct, seqO_non, Option.bind_some, Option.bind_none, Option.map_some, Option.map_none, List.getElem?_cons_zero, List.getElem?_cons_succ, List.length_cons, List.length_nil, List.map_cons, List.map_nil, List.set_cons_zero, List.set_cons_succ, List.replicate_succ, List.replicate_zero, List.cons_append, List.nil_append, Nat.reduceAdd, Nat.reduceSub, Nat.reduceLeDiff, Nat.zero_add, Nat.sub_self, Nat.reduceLT, sz, decide_eq_true_eq, decide_true, decide_false, if_true, if_false, ite_true, ite_false, Bool.false_eq_true, Bool.true_eq_false, Bool.not_true, Bool.not_false, not_true_eq_false, not_false_eq_true, eqD_int, eqD_ni, List.foldl_cons, List.foldl_nil, List.zip_cons_cons, List.zip_nil_left, Bool.not_eq_true', decide_eq_false_iff_not, reduceCtorEq, and_true, true_and, and_self, Int.cast_ofNat_Int, Int.natCast_add, Int.natCast_zero, Int.natCast_one, Int.reduceEq, Int.reduceNe, Int.reduceLT, Int.reduceLE, Int.reduceAdd, Int.reduceSub, Int.reduceMul, Int.reduceNeg, ne_eq, i_f_in_run, s_a, s_z, s_0, s_9, lt1, p, p', q, q']
      rfl
    · have p1 : decide (c ≤ 122) = true := decide_eq_true (by omega)
      rw [p1]
      simp only [exSs, x_asg, x_asgN, x_aug, x_app, x_set, x_clr, x_frz, x_ife, x_ret, x_retO, x_retN, x_brk, x_cnt, x_pass, asgD, evE, evEs, evAnd, evOr, evI, evO, evN, getS, getB, ownL, asgD, outD_rt, outD_nx, binD, addD, intD, augD, ordD, cmpD, asC, isD, isnotD, isnD, isiD, lenD, biD, asB, asI, asL, startD, ixD, seqO_nx, seqO_rt, seqO_bk, seqO_ct, seqO_non, Option.bind_some, Option.bind_none, Option.map_some, Option.map_none, List.getElem?_cons_zero, List.getElem?_cons_succ, List.length_cons, List.length_nil, List.map_cons, List.map_nil, List.set_cons_zero, List.set_cons_succ, List.replicate_succ, List.replicate_zero, List.cons_append, List.nil_append, Nat.reduceAdd, Nat.reduceSub, Nat.reduceLeDiff, Nat.zero_add, Nat.sub_self, Nat.reduceLT, sz, decide_eq_true_eq, decide_true, decide_false, if_true, if_false, ite_true, ite_false, Bool.false_eq_true, Bool.true_eq_false, Bool.not_true, Bool.not_false, not_true_eq_false, not_false_eq_true, eqD_int, eqD_ni, List.foldl_cons, List.foldl_nil, List.zip_cons_cons, List.zip_nil_left, Bool.not_eq_true', decide_eq_false_iff_not, reduceCtorEq, and_true, true_and, and_self, Int.cast_ofNat_Int, Int.natCast_add, Int.natCast_zero, Int.natCast_one, Int.reduceEq, Int.reduceNe, Int.reduceLT, Int.reduceLE, Int.reduceAdd, Int.reduceSub, Int.reduceMul, Int.reduceNeg, ne_eq, i_f_in_run, s_a, s_z, s_0, s_9, lt1, p, p', q, q']
      rfl
def rcond : E := match i_f_end_of_run with
  | .cons (.whl c _) _ => c
  | _ => .non
def rbody : Ss := match i_f_end_of_run with
  | .cons (.whl _ b) _ => b
  | _ => .nil
theorem run_loop (k : Nat) {cs : List Nat} (hl : cs.length ≤ 4000) : ∀ (n i : Nat), i ≤ cs.length → cs.length - i < n →
    whlD (fun ρ => (evE gs (C (k + 1)) rcond ρ).bind asB) (fun ρ => exSs gs (C (k + 1)) 5000 rbody ρ) n [some (false, .str (mkS cs)), some (false, .int (i : Int))] = some (.nx [some (false, .str (mkS cs)), some (false, .int ((i + ((cs.drop i).takeWhile isrun).length : Nat) : Int))])
  | 0, _, _, h => absurd h (Nat.not_lt_zero _)
  | n + 1, i, hi, hn => by
    have g1 : cs.length ≤ 16777216 := by omega
    by_cases he : i < cs.length
    · have he' : (i : Int) < (cs.length : Int) := by exact_mod_cast he
      have g2 : atI cs (i : Int) = some cs[i] := atI_ok he
      have g3 := in_run k cs[i]
      have hd : cs.drop i = cs[i] :: cs.drop (i + 1) := List.drop_eq_getElem_cons he
      have cnd : (evE gs (C (k + 1)) rcond [some (false, .str (mkS cs)), some (false, .int (i : Int))]).bind asB = some (isrun cs[i]) := by
        simp only [rcond, i_f_end_of_run]
        generalize cs[i] = c at g2 g3 ⊢
        simp only [exSs, x_asg, x_asgN, x_aug, x_app, x_set, x_clr, x_frz, x_ife, x_ret, x_retO, x_retN, x_brk, x_cnt, x_pass, asgD, evE, evEs, evAnd, evOr, evI, evO, evN, getS, getB, ownL, asgD, outD_rt, outD_nx, binD, addD, intD, augD, ordD, cmpD, asC, isD, isnotD, isnD, isiD, lenD, biD, asB, asI, asL, startD, ixD, seqO_nx, seqO_rt, seqO_bk, seqO_ct, seqO_non, Option.bind_some, Option.bind_none, Option.map_some, Option.map_none, List.getElem?_cons_zero, List.getElem?_cons_succ, List.length_cons, List.length_nil, List.map_cons, List.map_nil, List.set_cons_zero, List.set_cons_succ, List.replicate_succ, List.replicate_zero, List.cons_append, List.nil_append, Nat.reduceAdd, Nat.reduceSub, Nat.reduceLeDiff, Nat.zero_add, Nat.sub_self, Nat.reduceLT, sz, decide_eq_true_eq, decide_true, decide_false, if_true, if_false, ite_true, ite_false, Bool.false_eq_true, Bool.true_eq_false, Bool.not_true, Bool.not_false, not_true_eq_false, not_false_eq_true, eqD_int, eqD_ni, List.foldl_cons, List.foldl_nil, List.zip_cons_cons, List.zip_nil_left, Bool.not_eq_true', decide_eq_false_iff_not, reduceCtorEq, and_true, true_and, and_self, Int.cast_ofNat_Int, Int.natCast_add, Int.natCast_zero, Int.natCast_one, Int.reduceEq, Int.reduceNe, Int.reduceLT, Int.reduceLE, Int.reduceAdd, Int.reduceSub, Int.reduceMul, Int.reduceNeg, ne_eq, g1, mk_len, he', g2, g3]
      rw [hd]
      generalize cs[i] = c at cnd ⊢
      simp only [whlD, cnd]
      cases hr : isrun c with
      | false =>
        rw [List.takeWhile_cons_of_neg (by rw [hr]; simp)]
        rfl
      | true =>
        have bd : exSs gs (C (k + 1)) 5000 rbody [some (false, .str (mkS cs)), some (false, .int (i : Int))] = some (.nx [some (false, .str (mkS cs)), some (false, .int ((i + 1 : Nat) : Int))]) := by
          rw [Int.natCast_add]
          simp only [rbody, i_f_end_of_run]
          simp only [exSs, x_asg, x_asgN, x_aug, x_app, x_set, x_clr, x_frz, x_ife, x_ret, x_retO, x_retN, x_brk, x_cnt, x_pass, asgD, evE, evEs, evAnd, evOr, evI, evO, evN, getS, getB, ownL, asgD, outD_rt, outD_nx, binD, addD, intD, augD, ordD, cmpD, asC, isD, isnotD, isnD, isiD, lenD, biD, asB, asI, asL, startD, ixD, seqO_nx, seqO_rt, seqO_bk, seqO_ct, seqO_non, Option.bind_some, Option.bind_none, Option.map_some, Option.map_none, List.getElem?_cons_zero, List.getElem?_cons_succ, List.length_cons, List.length_nil, List.map_cons, List.map_nil, List.set_cons_zero, List.set_cons_succ, List.replicate_succ, List.replicate_zero, List.cons_append, List.nil_append, Nat.reduceAdd, Nat.reduceSub, Nat.reduceLeDiff, Nat.zero_add, Nat.sub_self, Nat.reduceLT, sz, decide_eq_true_eq, decide_true, decide_false, if_true, if_false, ite_true, ite_false, Bool.false_eq_true, Bool.true_eq_false, Bool.not_true, Bool.not_false, not_true_eq_false, not_false_eq_true, eqD_int, eqD_ni, List.foldl_cons, List.foldl_nil, List.zip_cons_cons, List.zip_nil_left, Bool.not_eq_true', decide_eq_false_iff_not, reduceCtorEq, and_true, true_and, and_self, Int.cast_ofNat_Int, Int.natCast_add, Int.natCast_zero, Int.natCast_one, Int.reduceEq, Int.reduceNe, Int.reduceLT, Int.reduceLE, Int.reduceAdd, Int.reduceSub, Int.reduceMul, Int.reduceNeg, ne_eq]
        rw [bd, List.takeWhile_cons_of_pos hr]
        simp only
        rw [run_loop k hl n (i + 1) (by omega) (by omega), List.length_cons]
        rw [show i + 1 + ((cs.drop (i + 1)).takeWhile isrun).length = i + (((cs.drop (i + 1)).takeWhile isrun).length + 1) by omega]
    · have he' : ¬ (i : Int) < (cs.length : Int) := by
        intro h
        exact he (by exact_mod_cast h)
      have cnd : (evE gs (C (k + 1)) rcond [some (false, .str (mkS cs)), some (false, .int (i : Int))]).bind asB = some false := by
        simp only [rcond, i_f_end_of_run]
        simp only [exSs, x_asg, x_asgN, x_aug, x_app, x_set, x_clr, x_frz, x_ife, x_ret, x_retO, x_retN, x_brk, x_cnt, x_pass, asgD, evE, evEs, evAnd, evOr, evI, evO, evN, getS, getB, ownL, asgD, outD_rt, outD_nx, binD, addD, intD, augD, ordD, cmpD, asC, isD, isnotD, isnD, isiD, lenD, biD, asB, asI, asL, startD, ixD, seqO_nx, seqO_rt, seqO_bk, seqO_ct, seqO_non, Option.bind_some, Option.bind_none, Option.map_some, Option.map_none, List.getElem?_cons_zero, List.getElem?_cons_succ, List.length_cons, List.length_nil, List.map_cons, List.map_nil, List.set_cons_zero, List.set_cons_succ, List.replicate_succ, List.replicate_zero, List.cons_append, List.nil_append, Nat.reduceAdd, Nat.reduceSub, Nat.reduceLeDiff, Nat.zero_add, Nat.sub_self, Nat.reduceLT, sz, decide_eq_true_eq, decide_true, decide_false, if_true, if_false, ite_true, ite_false, Bool.false_eq_true, Bool.true_eq_false, Bool.not_true, Bool.not_false, not_true_eq_false, not_false_eq_true, eqD_int, eqD_ni, List.foldl_cons, List.foldl_nil, List.zip_cons_cons, List.zip_nil_left, Bool.not_eq_true', decide_eq_false_iff_not, reduceCtorEq, and_true, true_and, and_self, Int.cast_ofNat_Int, Int.natCast_add, Int.natCast_zero, Int.natCast_one, Int.reduceEq, Int.reduceNe, Int.reduceLT, Int.reduceLE, Int.reduceAdd, Int.reduceSub, Int.reduceMul, Int.reduceNeg, ne_eq, g1, mk_len, he']
      simp only [whlD, cnd]
      rw [List.drop_eq_nil_of_le (by omega)]
      rfl
theorem end_of_run (k : Nat) {cs : List Nat} (hl : cs.length ≤ 4000) {i : Nat} (hi : i ≤ cs.length) : C (k + 2) 4 [.str (mkS cs), .int (i : Int)] = some (false, .int ((i + ((cs.drop i).takeWhile isrun).length : Nat) : Int)) := by
  rw [c4 rfl]
  have st : exSs gs (C (k + 1)) 5000 i_f_end_of_run (startD 2 [.str (mkS cs), .int (i : Int)]) = seqO (whlD (fun ρ => (evE gs (C (k + 1)) rcond ρ).bind asB) (fun ρ => exSs gs (C (k + 1)) 5000 rbody ρ) 5000 [some (false, .str (mkS cs)), some (false, .int (i : Int))]) fun ρ => exSs gs (C (k + 1)) 5000 (.cons (.ret (.var 1)) .nil) ρ := by
    simp only [i_f_end_of_run]
    simp only [exSs, x_asg, x_asgN, x_aug, x_app, x_set, x_clr, x_frz, x_ife, x_ret, x_retO, x_retN, x_brk, x_cnt, x_pass, asgD, evE, evEs, evAnd, evOr, evI, evO, evN, getS, getB, ownL, asgD, outD_rt, outD_nx, binD, addD, intD, augD, ordD, cmpD, asC, isD, isnotD, isnD, isiD, lenD, biD, asB, asI, asL, startD, ixD, seqO_nx, seqO_rt, seqO_bk, seqO_ct, seqO_non, Option.bind_some, Option.bind_none, Option.map_some, Option.map_none, List.getElem?_cons_zero, List.getElem?_cons_succ, List.length_cons, List.length_nil, List.map_cons, List.map_nil, List.set_cons_zero, List.set_cons_succ, List.replicate_succ, List.replicate_zero, List.cons_append, List.nil_append, Nat.reduceAdd, Nat.reduceSub, Nat.reduceLeDiff, Nat.zero_add, Nat.sub_self, Nat.reduceLT, sz, decide_eq_true_eq, decide_true, decide_false, if_true, if_false, ite_true, ite_false, Bool.false_eq_true, Bool.true_eq_false, Bool.not_true, Bool.not_false, not_true_eq_false, not_false_eq_true, eqD_int, eqD_ni, List.foldl_cons, List.foldl_nil, List.zip_cons_cons, List.zip_nil_left, Bool.not_eq_true', decide_eq_false_iff_not, reduceCtorEq, and_true, true_and, and_self, Int.cast_ofNat_Int, Int.natCast_add, Int.natCast_zero, Int.natCast_one, Int.reduceEq, Int.reduceNe, Int.reduceLT, Int.reduceLE, Int.reduceAdd, Int.reduceSub, Int.reduceMul, Int.reduceNeg, ne_eq, exS]
    rfl
  rw [st, run_loop k hl 5000 i hi (by omega)]
  simp only [exSs, x_asg, x_asgN, x_aug, x_app, x_set, x_clr, x_frz, x_ife, x_ret, x_retO, x_retN, x_brk, x_cnt, x_pass, asgD, evE, evEs, evAnd, evOr, evI, evO, evN, getS, getB, ownL, asgD, outD_rt, outD_nx, binD, addD, intD, augD, ordD, cmpD, asC, isD, isnotD, isnD, isiD, lenD, biD, asB, asI, asL, startD, ixD, seqO_nx, seqO_rt, seqO_bk, seqO_ct, seqO_non, Option.bind_some, Option.bind_none, Option.map_some, Option.map_none, List.getElem?_cons_zero, List.getElem?_cons_succ, List.length_cons, List.length_nil, List.map_cons, List.map_nil, List.set_cons_zero, List.set_cons_succ, List.replicate_succ, List.replicate_zero, List.cons_append, List.nil_append, Nat.reduceAdd, Nat.reduceSub, Nat.reduceLeDiff, Nat.zero_add, Nat.sub_self, Nat.reduceLT, sz, decide_eq_true_eq, decide_true, decide_false, if_true, if_false, ite_true, ite_false, Bool.false_eq_true, Bool.true_eq_false, Bool.not_true, Bool.not_false, not_true_eq_false, not_false_eq_true, eqD_int, eqD_ni, List.foldl_cons, List.foldl_nil, List.zip_cons_cons, List.zip_nil_left, Bool.not_eq_true', decide_eq_false_iff_not, reduceCtorEq, and_true, true_and, and_self, Int.cast_ofNat_Int, Int.natCast_add, Int.natCast_zero, Int.natCast_one, Int.reduceEq, Int.reduceNe, Int.reduceLT, Int.reduceLE, Int.reduceAdd, Int.reduceSub, Int.reduceMul, Int.reduceNeg, ne_eq]
end K02
end
section
namespace K02
open PySem PySem.Spec L2 Ev
def kwS : List Str := (["cell", "line", "store", "gate", "wheel", "mark", "class", "within", "var", "deed", "life", "start", "at", "asleep", "open", "shut", "set", "tell", "if", "else", "while", "do", "inner", "hold", "sleep", "wake", "after", "stop", "seize", "of", "free", "wait", "put", "into", "take", "from", "make", "leave", "or", "and", "not", "mod", "none", "me", "now", "length", "first", "spare", "waiting", "isopen", "stand"] : List String).map Str.ofString
def shS : List Str := (["{", "}", "(", ")", ",", ";", ".", "+", "-", "*", "/", "=", "<", ">"] : List String).map Str.ofString
def loS : List Str := (["==", "!=", "<=", ">="] : List String).map Str.ofString
theorem in_strs (x : Str) (l : List Str) : inD2 (.str x) (.tuple (l.map .str)) = some (.bool (l.any fun a => decide (a = x))) := by
  have h1 : (l.map PyData.str).all scalD = true := by
    rw [List.all_eq_true]
    intro d hd
    obtain ⟨a, _, rfl⟩ := List.mem_map.mp hd
    rfl
  show (if scalD (.str x) = true ∧ (l.map PyData.str).all scalD = true then some (inL false (.str x) (l.map PyData.str)) else none) = _
  rw [if_pos ⟨rfl, h1⟩]
  unfold inL
  simp only [Bool.false_eq_true, if_false]
  congr 2
  rw [List.any_map]
  rfl
def kw (w : List Nat) : Bool := kwS.any fun a => decide (a = mkS w)
def shB (w : List Nat) : Bool := shS.any fun a => decide (a = mkS w)
def loB (w : List Nat) : Bool := loS.any fun a => decide (a = mkS w)
def KW : D := .tuple (kwS.map .str)
def SH : D := .tuple (shS.map .str)
def LO : D := .tuple (loS.map .str)
theorem g_kw : gs 0 = some KW := rfl
theorem g_lo : gs 1 = some LO := rfl
theorem g_sh : gs 2 = some SH := rfl
theorem in_kw (w : List Nat) : inD2 (.str (mkS w)) KW = some (.bool (kw w)) := in_strs _ _
theorem in_sh (w : List Nat) : inD2 (.str (mkS w)) SH = some (.bool (shB w)) := in_strs _ _
theorem in_lo (w : List Nat) : inD2 (.str (mkS w)) LO = some (.bool (loB w)) := in_strs _ _
theorem g_12 : gs 3 = some (.int 12) := rfl
theorem g_9 : gs 4 = some (.int 9) := rfl
def wk (w : List Nat) : Str := if kw w = true then "keyword" else if 12 < w.length then "bad" else "name"
theorem ev_cmp {gs : Nat → Option D} {cf : Cf} {o : CO} {a b : E} {ρ : Env'} : evE gs cf (.cmp o a b) ρ = (evE gs cf a ρ).bind fun x => (evE gs cf b ρ).bind fun y => cmpD o x y := by simp only [evE]
theorem word_kind (k : Nat) (w : List Nat) (hw : w.length ≤ 4000) : C (k + 1) 6 [.str (mkS w)] = some (false, .str (wk w)) := by
  rw [c6 rfl]
  have g1 : w.length ≤ 16777216 := by omega
  have e : evE gs (C k) (.cmp .inn (.var 0) (.glo 0)) [some (false, .str (mkS w))] = some (.bool (kw w)) := by
    rw [ev_cmp]
    simp only [evE, getS, List.getElem?_cons_zero, Option.bind_some, g_kw]
    exact in_kw w
  have st : i_f_word_kind = .cons (.ife (.cmp .inn (.var 0) (.glo 0)) (.cons (.ret (.str "keyword")) .nil) .nil) (.cons (.ife (.cmp .gt (.blt .len (.cons (.var 0) .nil)) (.glo 3)) (.cons (.ret (.str "bad")) .nil) .nil) (.cons (.ret (.str "name")) .nil)) := rfl
  unfold wk
  have s1 : startD 1 [.str (mkS w)] = [some (false, .str (mkS w))] := rfl
  rw [st, s1]
  generalize (E.cmp .inn (.var 0) (.glo 0)) = q at e ⊢
  by_cases h : kw w = true
  · rw [h] at e
    rw [if_pos h]
    simp only [exSs, x_asg, x_asgN, x_aug, x_app, x_set, x_clr, x_frz, x_ife, x_ret, x_retO, x_retN, x_brk, x_cnt, x_pass, asgD, evE, evEs, evAnd, evOr, evI, evO, evN, getS, getB, ownL, asgD, outD_rt, outD_nx, binD, addD, intD, augD, ordD, cmpD, asC, isD, isnotD, isnD, isiD, lenD, biD, asB, asI, asL, startD, ixD, seqO_nx, seqO_rt, seqO_bk, seqO_ct, seqO_non, Option.bind_some, Option.bind_none, Option.map_some, Option.map_none, List.getElem?_cons_zero, List.getElem?_cons_succ, List.length_cons, List.length_nil, List.map_cons, List.map_nil, List.set_cons_zero, List.set_cons_succ, List.replicate_succ, List.replicate_zero, List.cons_append, List.nil_append, Nat.reduceAdd, Nat.reduceSub, Nat.reduceLeDiff, Nat.zero_add, Nat.sub_self, Nat.reduceLT, sz, decide_eq_true_eq, decide_true, decide_false, if_true, if_false, ite_true, ite_false, Bool.false_eq_true, Bool.true_eq_false, Bool.not_true, Bool.not_false, not_true_eq_false, not_false_eq_true, eqD_int, eqD_ni, List.foldl_cons, List.foldl_nil, List.zip_cons_cons, List.zip_nil_left, Bool.not_eq_true', decide_eq_false_iff_not, reduceCtorEq, and_true, true_and, and_self, Int.cast_ofNat_Int, Int.natCast_add, Int.natCast_zero, Int.natCast_one, Int.reduceEq, Int.reduceNe, Int.reduceLT, Int.reduceLE, Int.reduceAdd, Int.reduceSub, Int.reduceMul, Int.reduceNeg, ne_eq, e]
  · have h' : kw w = false := by simpa using h
    rw [h'] at e
    rw [if_neg h]
    by_cases h2 : 12 < w.length
    · have h3 : (12 : Int) < (w.length : Int) := by exact_mod_cast h2
      rw [if_pos h2]
      simp only [exSs, x_asg, x_asgN, x_aug, x_app, x_set, x_clr, x_frz, x_ife, x_ret, x_retO, x_retN, x_brk, x_cnt, x_pass, asgD, evE, evEs, evAnd, evOr, evI, evO, evN, getS, getB, ownL, asgD, outD_rt, outD_nx, binD, addD, intD, augD, ordD, cmpD, asC, isD, isnotD, isnD, isiD, lenD, biD, asB, asI, asL, startD, ixD, seqO_nx, seqO_rt, seqO_bk, seqO_ct, seqO_non, Option.bind_some, Option.bind_none, Option.map_some, Option.map_none, List.getElem?_cons_zero, List.getElem?_cons_succ, List.length_cons, List.length_nil, List.map_cons, List.map_nil, List.set_cons_zero, List.set_cons_succ, List.replicate_succ, List.replicate_zero, List.cons_append, List.nil_append, Nat.reduceAdd, Nat.reduceSub, Nat.reduceLeDiff, Nat.zero_add, Nat.sub_self, Nat.reduceLT, sz, decide_eq_true_eq, decide_true, decide_false, if_true, if_false, ite_true, ite_false, Bool.false_eq_true, Bool.true_eq_false, Bool.not_true, Bool.not_false, not_true_eq_false, not_false_eq_true, eqD_int, eqD_ni, List.foldl_cons, List.foldl_nil, List.zip_cons_cons, List.zip_nil_left, Bool.not_eq_true', decide_eq_false_iff_not, reduceCtorEq, and_true, true_and, and_self, Int.cast_ofNat_Int, Int.natCast_add, Int.natCast_zero, Int.natCast_one, Int.reduceEq, Int.reduceNe, Int.reduceLT, Int.reduceLE, Int.reduceAdd, Int.reduceSub, Int.reduceMul, Int.reduceNeg, ne_eq, e, g_12, g1, mk_len, h3]
    · have h3 : ¬ (12 : Int) < (w.length : Int) := by
        intro h
        exact h2 (by exact_mod_cast h)
      rw [if_neg h2]
      simp only [exSs, x_asg, x_asgN, x_aug, x_app, x_set, x_clr, x_frz, x_ife, x_ret, x_retO, x_retN, x_brk, x_cnt, x_pass, asgD, evE, evEs, evAnd, evOr, evI, evO, evN, getS, getB, ownL, asgD, outD_rt, outD_nx, binD, addD, intD, augD, ordD, cmpD, asC, isD, isnotD, isnD, isiD, lenD, biD, asB, asI, asL, startD, ixD, seqO_nx, seqO_rt, seqO_bk, seqO_ct, seqO_non, Option.bind_some, Option.bind_none, Option.map_some, Option.map_none, List.getElem?_cons_zero, List.getElem?_cons_succ, List.length_cons, List.length_nil, List.map_cons, List.map_nil, List.set_cons_zero, List.set_cons_succ, List.replicate_succ, List.replicate_zero, List.cons_append, List.nil_append, Nat.reduceAdd, Nat.reduceSub, Nat.reduceLeDiff, Nat.zero_add, Nat.sub_self, Nat.reduceLT, sz, decide_eq_true_eq, decide_true, decide_false, if_true, if_false, ite_true, ite_false, Bool.false_eq_true, Bool.true_eq_false, Bool.not_true, Bool.not_false, not_true_eq_false, not_false_eq_true, eqD_int, eqD_ni, List.foldl_cons, List.foldl_nil, List.zip_cons_cons, List.zip_nil_left, Bool.not_eq_true', decide_eq_false_iff_not, reduceCtorEq, and_true, true_and, and_self, Int.cast_ofNat_Int, Int.natCast_add, Int.natCast_zero, Int.natCast_one, Int.reduceEq, Int.reduceNe, Int.reduceLT, Int.reduceLE, Int.reduceAdd, Int.reduceSub, Int.reduceMul, Int.reduceNeg, ne_eq, e, g_12, g1, mk_len, h3]
def rk (w : List Nat) : Str := match w with
  | [] => ""
  | c :: r => if islet c = true then wk w else if (!(w.all isdig) || decide (9 < w.length)) = true then "bad" else if (c == 48 && decide (1 < w.length)) = true then "bad" else "number"
theorem dig_all : ∀ c : Nat, c < 128 → Unicode.isDigit c = isdig c := by decide +kernel
theorem isdigit_mk (c : Nat) (r : List Nat) (hs : ∀ d ∈ c :: r, d < 128) : Txt.isdigit (mkS (c :: r)) = (c :: r).all isdig := by
  unfold Txt.isdigit
  rw [mk_len]
  have h1 : decide ((c :: r).length > 0) = true := decide_eq_true (by simp)
  rw [h1, Bool.true_and]
  show (c :: r).toArray.all Unicode.isDigit = _
  rw [List.all_toArray]
  rw [Bool.eq_iff_iff, List.all_eq_true, List.all_eq_true]
  constructor
  · intro h d hd
    rw [← dig_all d (hs d hd)]
    exact h d hd
  · intro h d hd
    rw [dig_all d (hs d hd)]
    exact h d hd
def rk2 : Ss := match i_f_run_kind with
  | .cons _ r => r
  | _ => .nil
theorem run_kind (k : Nat) (c : Nat) (r : List Nat) (hs : ∀ d ∈ c :: r, d < 128) (hw : (c :: r).length ≤ 4000) : C (k + 2) 5 [.str (mkS (c :: r))] = some (false, .str (rk (c :: r))) := by
  rw [c5 rfl]
  have g1 : (c :: r).length ≤ 16777216 := by omega
  have g2 : atI (c :: r) 0 = some c := by
    have := atI_ok (xs := c :: r) (k := 0) (by simp)
    exact this
  have w1 := word_kind k (c :: r) hw
  have hd := isdigit_mk c r hs
  have l0 : ("0" : Str) = mkS [48] := by decide +kernel
  have e : eqD (.str (mkS [c])) (.str (mkS [48])) = some (decide (c = 48)) := by
    rw [eq_mk (by intro d h; simp at h; subst h; exact hs _ List.mem_cons_self) (by simp)]
    simp
  have hch : evE gs (C (k + 1)) (.chain .le .le (.str "a") (.ix (.var 0) (.int 0)) (.str "z")) [some (false, .str (mkS (c :: r)))] = some (.bool (islet c)) := by
    unfold islet
    generalize c :: r = W at g1 g2 ⊢
    by_cases p : c < 97
    · rw [decide_eq_false (by omega : ¬ 97 ≤ c)]
      simp only [exSs, x_asg, x_asgN, x_aug, x_app, x_set, x_clr, x_frz, x_ife, x_ret, x_retO, x_retN, x_brk, x_cnt, x_pass, asgD, evE, evEs, evAnd, evOr, evI, evO, evN, getS, getB, ownL, asgD, outD_rt, outD_nx, binD, addD, intD, augD, ordD, cmpD, asC, isD, isnotD, isnD, isiD, lenD, biD, asB, asI, asL, startD, ixD, seqO_nx, seqO_rt, seqO_bk, seqO_ct, seqO_non, Option.bind_some, Option.bind_none, Option.map_some, Option.map_none, List.getElem?_cons_zero, List.getElem?_cons_succ, List.length_cons, List.length_nil, List.map_cons, List.map_nil, List.set_cons_zero, List.set_cons_succ, List.replicate_succ, List.replicate_zero, List.cons_append, List.nil_append, Nat.reduceAdd, Nat.reduceSub, Nat.reduceLeDiff, Nat.zero_add, Nat.sub_self, Nat.reduceLT, sz, decide_eq_true_eq, decide_true, decide_false, if_true, if_false, ite_true, ite_false, Bool.false_eq_true, Bool.true_eq_false, Bool.not_true, Bool.not_false, not_true_eq_false, not_false_eq_true, eqD_int, eqD_ni, List.foldl_cons, List.foldl_nil, List.zip_cons_cons, List.zip_nil_left, Bool.not_eq_true', decide_eq_false_iff_not, reduceCtorEq, and_true, true_and, and_self, Int.cast_ofNat_Int, Int.natCast_add, Int.natCast_zero, Int.natCast_one, Int.reduceEq, Int.reduceNe, Int.reduceLT, Int.reduceLE, Int.reduceAdd, Int.reduceSub, Int.reduceMul, Int.reduceNeg, ne_eq, g1, mk_len, g2, s_a, s_z, lt1, p]
      rfl
    · rw [decide_eq_true (by omega : 97 ≤ c)]
      by_cases p' : 122 < c
      · rw [decide_eq_false (by omega : ¬ c ≤ 122)]
        simp only [exSs, x_asg, x_asgN, x_aug, x_app, x_set, x_clr, x_frz, x_ife, x_ret, x_retO, x_retN, x_brk, x_cnt, x_pass, asgD, evE, evEs, evAnd, evOr, evI, evO, evN, getS, getB, ownL, asgD, outD_rt, outD_nx, binD, addD, intD, augD, ordD, cmpD, asC, isD, isnotD, isnD, isiD, lenD, biD, asB, asI, asL, startD, ixD, seqO_nx, seqO_rt, seqO_bk, seqO_ct, seqO_non, Option.bind_some, Option.bind_none, Option.map_some, Option.map_none, List.getElem?_cons_zero, List.getElem?_cons_succ, List.length_cons, List.length_nil, List.map_cons, List.map_nil, List.set_cons_zero, List.set_cons_succ, List.replicate_succ, List.replicate_zero, List.cons_append, List.nil_append, Nat.reduceAdd, Nat.reduceSub, Nat.reduceLeDiff, Nat.zero_add, Nat.sub_self, Nat.reduceLT, sz, decide_eq_true_eq, decide_true, decide_false, if_true, if_false, ite_true, ite_false, Bool.false_eq_true, Bool.true_eq_false, Bool.not_true, Bool.not_false, not_true_eq_false, not_false_eq_true, eqD_int, eqD_ni, List.foldl_cons, List.foldl_nil, List.zip_cons_cons, List.zip_nil_left, Bool.not_eq_true', decide_eq_false_iff_not, reduceCtorEq, and_true, true_and, and_self, Int.cast_ofNat_Int, Int.natCast_add, Int.natCast_zero, Int.natCast_one, Int.reduceEq, Int.reduceNe, Int.reduceLT, Int.reduceLE, Int.reduceAdd, Int.reduceSub, Int.reduceMul, Int.reduceNeg, ne_eq, g1, mk_len, g2, s_a, s_z, lt1, p, p']
        rfl
      · rw [decide_eq_true (by omega : c ≤ 122)]
        simp only [exSs, x_asg, x_asgN, x_aug, x_app, x_set, x_clr, x_frz, x_ife, x_ret, x_retO, x_retN, x_brk, x_cnt, x_pass, asgD, evE, evEs, evAnd, evOr, evI, evO, evN, getS, getB, ownL, asgD, outD_rt, outD_nx, binD, addD, intD, augD, ordD, cmpD, asC, isD, isnotD, isnD, isiD, lenD, biD, asB, asI, asL, startD, ixD, seqO_nx, seqO_rt, seqO_bk, seqO_ct, seqO_non, Option.bind_some, Option.bind_none, Option.map_some, Option.map_none, List.getElem?_cons_zero, List.getElem?_cons_succ, List.length_cons, List.length_nil, List.map_cons, List.map_nil, List.set_cons_zero, List.set_cons_succ, List.replicate_succ, List.replicate_zero, List.cons_append, List.nil_append, Nat.reduceAdd, Nat.reduceSub, Nat.reduceLeDiff, Nat.zero_add, Nat.sub_self, Nat.reduceLT, sz, decide_eq_true_eq, decide_true, decide_false, if_true, if_false, ite_true, ite_false, Bool.false_eq_true, Bool.true_eq_false, Bool.not_true, Bool.not_false, not_true_eq_false, not_false_eq_true, eqD_int, eqD_ni, List.foldl_cons, List.foldl_nil, List.zip_cons_cons, List.zip_nil_left, Bool.not_eq_true', decide_eq_false_iff_not, reduceCtorEq, and_true, true_and, and_self, Int.cast_ofNat_Int, Int.natCast_add, Int.natCast_zero, Int.natCast_one, Int.reduceEq, Int.reduceNe, Int.reduceLT, Int.reduceLE, Int.reduceAdd, Int.reduceSub, Int.reduceMul, Int.reduceNeg, ne_eq, g1, mk_len, g2, s_a, s_z, lt1, p, p']
        rfl
  have st : i_f_run_kind = .cons (.ife (.chain .le .le (.str "a") (.ix (.var 0) (.int 0)) (.str "z")) (.cons (.ret (.call 6 (.cons (.var 0) .nil))) .nil) .nil) rk2 := rfl
  have s1 : startD 1 [.str (mkS (c :: r))] = [some (false, .str (mkS (c :: r)))] := rfl
  unfold rk
  simp only
  rw [st, s1]
  generalize (E.chain .le .le (.str "a") (.ix (.var 0) (.int 0)) (.str "z")) = q at hch ⊢
  generalize hW : c :: r = W at g1 g2 w1 hd hch ⊢
  cases hi : islet c with
  | true =>
    rw [hi] at hch
    rw [if_pos rfl]
    simp only [exSs, x_asg, x_asgN, x_aug, x_app, x_set, x_clr, x_frz, x_ife, x_ret, x_retO, x_retN, x_brk, x_cnt, x_pass, asgD, evE, evEs, evAnd, evOr, evI, evO, evN, getS, getB, ownL, asgD, outD_rt, outD_nx, binD, addD, intD, augD, ordD, cmpD, asC, isD, isnotD, isnD, isiD, lenD, biD, asB, asI, asL, startD, ixD, seqO_nx, seqO_rt, seqO_bk, seqO_ct, seqO_non, Option.bind_some, Option.bind_none, Option.map_some, Option.map_none, List.getElem?_cons_zero, List.getElem?_cons_succ, List.length_cons, List.length_nil, List.map_cons, List.map_nil, List.set_cons_zero, List.set_cons_succ, List.replicate_succ, List.replicate_zero, List.cons_append, List.nil_append, Nat.reduceAdd, Nat.reduceSub, Nat.reduceLeDiff, Nat.zero_add, Nat.sub_self, Nat.reduceLT, sz, decide_eq_true_eq, decide_true, decide_false, if_true, if_false, ite_true, ite_false, Bool.false_eq_true, Bool.true_eq_false, Bool.not_true, Bool.not_false, not_true_eq_false, not_false_eq_true, eqD_int, eqD_ni, List.foldl_cons, List.foldl_nil, List.zip_cons_cons, List.zip_nil_left, Bool.not_eq_true', decide_eq_false_iff_not, reduceCtorEq, and_true, true_and, and_self, Int.cast_ofNat_Int, Int.natCast_add, Int.natCast_zero, Int.natCast_one, Int.reduceEq, Int.reduceNe, Int.reduceLT, Int.reduceLE, Int.reduceAdd, Int.reduceSub, Int.reduceMul, Int.reduceNeg, ne_eq, hch, w1]
  | false =>
    rw [hi] at hch
    rw [if_neg (by simp)]
    cases ha : W.all isdig with
    | false =>
      rw [ha] at hd
      rw [if_pos (by simp)]
      simp only [exSs, x_asg, x_asgN, x_aug, x_app, x_set, x_clr, x_frz, x_ife, x_ret, x_retO, x_retN, x_brk, x_cnt, x_pass, asgD, evE, evEs, evAnd, evOr, evI, evO, evN, getS, getB, ownL, asgD, outD_rt, outD_nx, binD, addD, intD, augD, ordD, cmpD, asC, isD, isnotD, isnD, isiD, lenD, biD, asB, asI, asL, startD, ixD, seqO_nx, seqO_rt, seqO_bk, seqO_ct, seqO_non, Option.bind_some, Option.bind_none, Option.map_some, Option.map_none, List.getElem?_cons_zero, List.getElem?_cons_succ, List.length_cons, List.length_nil, List.map_cons, List.map_nil, List.set_cons_zero, List.set_cons_succ, List.replicate_succ, List.replicate_zero, List.cons_append, List.nil_append, Nat.reduceAdd, Nat.reduceSub, Nat.reduceLeDiff, Nat.zero_add, Nat.sub_self, Nat.reduceLT, sz, decide_eq_true_eq, decide_true, decide_false, if_true, if_false, ite_true, ite_false, Bool.false_eq_true, Bool.true_eq_false, Bool.not_true, Bool.not_false, not_true_eq_false, not_false_eq_true, eqD_int, eqD_ni, List.foldl_cons, List.foldl_nil, List.zip_cons_cons, List.zip_nil_left, Bool.not_eq_true', decide_eq_false_iff_not, reduceCtorEq, and_true, true_and, and_self, Int.cast_ofNat_Int, Int.natCast_add, Int.natCast_zero, Int.natCast_one, Int.reduceEq, Int.reduceNe, Int.reduceLT, Int.reduceLE, Int.reduceAdd, Int.reduceSub, Int.reduceMul, Int.reduceNeg, ne_eq, hch]
      simp only [rk2, i_f_run_kind, l0]
      simp only [exSs, x_asg, x_asgN, x_aug, x_app, x_set, x_clr, x_frz, x_ife, x_ret, x_retO, x_retN, x_brk, x_cnt, x_pass, asgD, evE, evEs, evAnd, evOr, evI, evO, evN, getS, getB, ownL, asgD, outD_rt, outD_nx, binD, addD, intD, augD, ordD, cmpD, asC, isD, isnotD, isnD, isiD, lenD, biD, asB, asI, asL, startD, ixD, seqO_nx, seqO_rt, seqO_bk, seqO_ct, seqO_non, Option.bind_some, Option.bind_none, Option.map_some, Option.map_none, List.getElem?_cons_zero, List.getElem?_cons_succ, List.length_cons, List.length_nil, List.map_cons, List.map_nil, List.set_cons_zero, List.set_cons_succ, List.replicate_succ, List.replicate_zero, List.cons_append, List.nil_append, Nat.reduceAdd, Nat.reduceSub, Nat.reduceLeDiff, Nat.zero_add, Nat.sub_self, Nat.reduceLT, sz, decide_eq_true_eq, decide_true, decide_false, if_true, if_false, ite_true, ite_false, Bool.false_eq_true, Bool.true_eq_false, Bool.not_true, Bool.not_false, not_true_eq_false, not_false_eq_true, eqD_int, eqD_ni, List.foldl_cons, List.foldl_nil, List.zip_cons_cons, List.zip_nil_left, Bool.not_eq_true', decide_eq_false_iff_not, reduceCtorEq, and_true, true_and, and_self, Int.cast_ofNat_Int, Int.natCast_add, Int.natCast_zero, Int.natCast_one, Int.reduceEq, Int.reduceNe, Int.reduceLT, Int.reduceLE, Int.reduceAdd, Int.reduceSub, Int.reduceMul, Int.reduceNeg, ne_eq, meD, hd]
    | true =>
      rw [ha] at hd
      by_cases h9 : 9 < W.length
      · have h9' : (9 : Int) < (W.length : Int) := by exact_mod_cast h9
        rw [if_pos (by simp [h9])]
        simp only [exSs, x_asg, x_asgN, x_aug, x_app, x_set, x_clr, x_frz, x_ife, x_ret, x_retO, x_retN, x_brk, x_cnt, x_pass, asgD, evE, evEs, evAnd, evOr, evI, evO, evN, getS, getB, ownL, asgD, outD_rt, outD_nx, binD, addD, intD, augD, ordD, cmpD, asC, isD, isnotD, isnD, isiD, lenD, biD, asB, asI, asL, startD, ixD, seqO_nx, seqO_rt, seqO_bk, seqO_ct, seqO_non, Option.bind_some, Option.bind_none, Option.map_some, Option.map_none, List.getElem?_cons_zero, List.getElem?_cons_succ, List.length_cons, List.length_nil, List.map_cons, List.map_nil, List.set_cons_zero, List.set_cons_succ, List.replicate_succ, List.replicate_zero, List.cons_append, List.nil_append, Nat.reduceAdd, Nat.reduceSub, Nat.reduceLeDiff, Nat.zero_add, Nat.sub_self, Nat.reduceLT, sz, decide_eq_true_eq, decide_true, decide_false, if_true, if_false, ite_true, ite_false, Bool.false_eq_true, Bool.true_eq_false, Bool.not_true, Bool.not_false, not_true_eq_false, not_false_eq_true, eqD_int, eqD_ni, List.foldl_cons, List.foldl_nil, List.zip_cons_cons, List.zip_nil_left, Bool.not_eq_true', decide_eq_false_iff_not, reduceCtorEq, and_true, true_and, and_self, Int.cast_ofNat_Int, Int.natCast_add, Int.natCast_zero, Int.natCast_one, Int.reduceEq, Int.reduceNe, Int.reduceLT, Int.reduceLE, Int.reduceAdd, Int.reduceSub, Int.reduceMul, Int.reduceNeg, ne_eq, hch]
        simp only [rk2, i_f_run_kind, l0]
        simp only [exSs, x_asg, x_asgN, x_aug, x_app, x_set, x_clr, x_frz, x_ife, x_ret, x_retO, x_retN, x_brk, x_cnt, x_pass, asgD, evE, evEs, evAnd, evOr, evI, evO, evN, getS, getB, ownL, asgD, outD_rt, outD_nx, binD, addD, intD, augD, ordD, cmpD, asC, isD, isnotD, isnD, isiD, lenD, biD, asB, asI, asL, startD, ixD, seqO_nx, seqO_rt, seqO_bk, seqO_ct, seqO_non, Option.bind_some, Option.bind_none, Option.map_some, Option.map_none, List.getElem?_cons_zero, List.getElem?_cons_succ, List.length_cons, List.length_nil, List.map_cons, List.map_nil, List.set_cons_zero, List.set_cons_succ, List.replicate_succ, List.replicate_zero, List.cons_append, List.nil_append, Nat.reduceAdd, Nat.reduceSub, Nat.reduceLeDiff, Nat.zero_add, Nat.sub_self, Nat.reduceLT, sz, decide_eq_true_eq, decide_true, decide_false, if_true, if_false, ite_true, ite_false, Bool.false_eq_true, Bool.true_eq_false, Bool.not_true, Bool.not_false, not_true_eq_false, not_false_eq_true, eqD_int, eqD_ni, List.foldl_cons, List.foldl_nil, List.zip_cons_cons, List.zip_nil_left, Bool.not_eq_true', decide_eq_false_iff_not, reduceCtorEq, and_true, true_and, and_self, Int.cast_ofNat_Int, Int.natCast_add, Int.natCast_zero, Int.natCast_one, Int.reduceEq, Int.reduceNe, Int.reduceLT, Int.reduceLE, Int.reduceAdd, Int.reduceSub, Int.reduceMul, Int.reduceNeg, ne_eq, g1, mk_len, meD, hd, h9', g_9]
      · have h9' : ¬ (9 : Int) < (W.length : Int) := by
          intro h
          exact h9 (by exact_mod_cast h)
        rw [if_neg (by simp [h9])]
        by_cases h0 : c = 48
        · subst h0
          have e' : eqD (.str (mkS [48])) (.str (mkS [48])) = some true := by
            rw [e]
            rfl
          by_cases h1 : 1 < W.length
          · have h1' : (1 : Int) < (W.length : Int) := by exact_mod_cast h1
            rw [if_pos (by simp [h1])]
            simp only [exSs, x_asg, x_asgN, x_aug, x_app, x_set, x_clr, x_frz, x_ife, x_ret, x_retO, x_retN, x_brk, x_cnt, x_pass, asgD, evE, evEs, evAnd, evOr, evI, evO, evN, getS, getB, ownL, asgD, outD_rt, outD_nx, binD, addD, intD, augD, ordD, cmpD, asC, isD, isnotD, isnD, isiD, lenD, biD, asB, asI, asL, startD, ixD, seqO_nx, seqO_rt, seqO_bk, seqO_ct, seqO_non, Option.bind_some, Option.bind_none, Option.map_some, Option.map_none, List.getElem?_cons_zero, List.getElem?_cons_succ, List.length_cons, List.length_nil, List.map_cons, List.map_nil, List.set_cons_zero, List.set_cons_succ, List.replicate_succ, List.replicate_zero, List.cons_append, List.nil_append, Nat.reduceAdd, Nat.reduceSub, Nat.reduceLeDiff, Nat.zero_add, Nat.sub_self, Nat.reduceLT, sz, decide_eq_true_eq, decide_true, decide_false, if_true, if_false, ite_true, ite_false, Bool.false_eq_true, Bool.true_eq_false, Bool.not_true, Bool.not_false, not_true_eq_false, not_false_eq_true, eqD_int, eqD_ni, List.foldl_cons, List.foldl_nil, List.zip_cons_cons, List.zip_nil_left, Bool.not_eq_true', decide_eq_false_iff_not, reduceCtorEq, and_true, true_and, and_self, Int.cast_ofNat_Int, Int.natCast_add, Int.natCast_zero, Int.natCast_one, Int.reduceEq, Int.reduceNe, Int.reduceLT, Int.reduceLE, Int.reduceAdd, Int.reduceSub, Int.reduceMul, Int.reduceNeg, ne_eq, hch]
            simp only [rk2, i_f_run_kind, l0]
            simp only [exSs, x_asg, x_asgN, x_aug, x_app, x_set, x_clr, x_frz, x_ife, x_ret, x_retO, x_retN, x_brk, x_cnt, x_pass, asgD, evE, evEs, evAnd, evOr, evI, evO, evN, getS, getB, ownL, asgD, outD_rt, outD_nx, binD, addD, intD, augD, ordD, cmpD, asC, isD, isnotD, isnD, isiD, lenD, biD, asB, asI, asL, startD, ixD, seqO_nx, seqO_rt, seqO_bk, seqO_ct, seqO_non, Option.bind_some, Option.bind_none, Option.map_some, Option.map_none, List.getElem?_cons_zero, List.getElem?_cons_succ, List.length_cons, List.length_nil, List.map_cons, List.map_nil, List.set_cons_zero, List.set_cons_succ, List.replicate_succ, List.replicate_zero, List.cons_append, List.nil_append, Nat.reduceAdd, Nat.reduceSub, Nat.reduceLeDiff, Nat.zero_add, Nat.sub_self, Nat.reduceLT, sz, decide_eq_true_eq, decide_true, decide_false, if_true, if_false, ite_true, ite_false, Bool.false_eq_true, Bool.true_eq_false, Bool.not_true, Bool.not_false, not_true_eq_false, not_false_eq_true, eqD_int, eqD_ni, List.foldl_cons, List.foldl_nil, List.zip_cons_cons, List.zip_nil_left, Bool.not_eq_true', decide_eq_false_iff_not, reduceCtorEq, and_true, true_and, and_self, Int.cast_ofNat_Int, Int.natCast_add, Int.natCast_zero, Int.natCast_one, Int.reduceEq, Int.reduceNe, Int.reduceLT, Int.reduceLE, Int.reduceAdd, Int.reduceSub, Int.reduceMul, Int.reduceNeg, ne_eq, g1, mk_len, g2, meD, hd, h9', g_9, e', h1']
          · have h1' : ¬ (1 : Int) < (W.length : Int) := by
              intro h
              exact h1 (by exact_mod_cast h)
            rw [if_neg (by simp [h1])]
            simp only [exSs, x_asg, x_asgN, x_aug, x_app, x_set, x_clr, x_frz, x_ife, x_ret, x_retO, x_retN, x_brk, x_cnt, x_pass, asgD, evE, evEs, evAnd, evOr, evI, evO, evN, getS, getB, ownL, asgD, outD_rt, outD_nx, binD, addD, intD, augD, ordD, cmpD, asC, isD, isnotD, isnD, isiD, lenD, biD, asB, asI, asL, startD, ixD, seqO_nx, seqO_rt, seqO_bk, seqO_ct, seqO_non, Option.bind_some, Option.bind_none, Option.map_some, Option.map_none, List.getElem?_cons_zero, List.getElem?_cons_succ, List.length_cons, List.length_nil, List.map_cons, List.map_nil, List.set_cons_zero, List.set_cons_succ, List.replicate_succ, List.replicate_zero, List.cons_append, List.nil_append, Nat.reduceAdd, Nat.reduceSub, Nat.reduceLeDiff, Nat.zero_add, Nat.sub_self, Nat.reduceLT, sz, decide_eq_true_eq, decide_true, decide_false, if_true, if_false, ite_true, ite_false, Bool.false_eq_true, Bool.true_eq_false, Bool.not_true, Bool.not_false, not_true_eq_false, not_false_eq_true, eqD_int, eqD_ni, List.foldl_cons, List.foldl_nil, List.zip_cons_cons, List.zip_nil_left, Bool.not_eq_true', decide_eq_false_iff_not, reduceCtorEq, and_true, true_and, and_self, Int.cast_ofNat_Int, Int.natCast_add, Int.natCast_zero, Int.natCast_one, Int.reduceEq, Int.reduceNe, Int.reduceLT, Int.reduceLE, Int.reduceAdd, Int.reduceSub, Int.reduceMul, Int.reduceNeg, ne_eq, hch]
            simp only [rk2, i_f_run_kind, l0]
            simp only [exSs, x_asg, x_asgN, x_aug, x_app, x_set, x_clr, x_frz, x_ife, x_ret, x_retO, x_retN, x_brk, x_cnt, x_pass, asgD, evE, evEs, evAnd, evOr, evI, evO, evN, getS, getB, ownL, asgD, outD_rt, outD_nx, binD, addD, intD, augD, ordD, cmpD, asC, isD, isnotD, isnD, isiD, lenD, biD, asB, asI, asL, startD, ixD, seqO_nx, seqO_rt, seqO_bk, seqO_ct, seqO_non, Option.bind_some, Option.bind_none, Option.map_some, Option.map_none, List.getElem?_cons_zero, List.getElem?_cons_succ, List.length_cons, List.length_nil, List.map_cons, List.map_nil, List.set_cons_zero, List.set_cons_succ, List.replicate_succ, List.replicate_zero, List.cons_append, List.nil_append, Nat.reduceAdd, Nat.reduceSub, Nat.reduceLeDiff, Nat.zero_add, Nat.sub_self, Nat.reduceLT, sz, decide_eq_true_eq, decide_true, decide_false, if_true, if_false, ite_true, ite_false, Bool.false_eq_true, Bool.true_eq_false, Bool.not_true, Bool.not_false, not_true_eq_false, not_false_eq_true, eqD_int, eqD_ni, List.foldl_cons, List.foldl_nil, List.zip_cons_cons, List.zip_nil_left, Bool.not_eq_true', decide_eq_false_iff_not, reduceCtorEq, and_true, true_and, and_self, Int.cast_ofNat_Int, Int.natCast_add, Int.natCast_zero, Int.natCast_one, Int.reduceEq, Int.reduceNe, Int.reduceLT, Int.reduceLE, Int.reduceAdd, Int.reduceSub, Int.reduceMul, Int.reduceNeg, ne_eq, g1, mk_len, g2, meD, hd, h9', g_9, e', h1']
        · rw [if_neg (by simp [h0])]
          simp only [exSs, x_asg, x_asgN, x_aug, x_app, x_set, x_clr, x_frz, x_ife, x_ret, x_retO, x_retN, x_brk, x_cnt, x_pass, asgD, evE, evEs, evAnd, evOr, evI, evO, evN, getS, getB, ownL, asgD, outD_rt, outD_nx, binD, addD, intD, augD, ordD, cmpD, asC, isD, isnotD, isnD, isiD, lenD, biD, asB, asI, asL, startD, ixD, seqO_nx, seqO_rt, seqO_bk, seqO_ct, seqO_non, Option.bind_some, Option.bind_none, Option.map_some, Option.map_none, List.getElem?_cons_zero, List.getElem?_cons_succ, List.length_cons, List.length_nil, List.map_cons, List.map_nil, List.set_cons_zero, List.set_cons_succ, List.replicate_succ, List.replicate_zero, List.cons_append, List.nil_append, Nat.reduceAdd, Nat.reduceSub, Nat.reduceLeDiff, Nat.zero_add, Nat.sub_self, Nat.reduceLT, sz, decide_eq_true_eq, decide_true, decide_false, if_true, if_false, ite_true, ite_false, Bool.false_eq_true, Bool.true_eq_false, Bool.not_true, Bool.not_false, not_true_eq_false, not_false_eq_true, eqD_int, eqD_ni, List.foldl_cons, List.foldl_nil, List.zip_cons_cons, List.zip_nil_left, Bool.not_eq_true', decide_eq_false_iff_not, reduceCtorEq, and_true, true_and, and_self, Int.cast_ofNat_Int, Int.natCast_add, Int.natCast_zero, Int.natCast_one, Int.reduceEq, Int.reduceNe, Int.reduceLT, Int.reduceLE, Int.reduceAdd, Int.reduceSub, Int.reduceMul, Int.reduceNeg, ne_eq, hch]
          simp only [rk2, i_f_run_kind, l0]
          simp only [exSs, x_asg, x_asgN, x_aug, x_app, x_set, x_clr, x_frz, x_ife, x_ret, x_retO, x_retN, x_brk, x_cnt, x_pass, asgD, evE, evEs, evAnd, evOr, evI, evO, evN, getS, getB, ownL, asgD, outD_rt, outD_nx, binD, addD, intD, augD, ordD, cmpD, asC, isD, isnotD, isnD, isiD, lenD, biD, asB, asI, asL, startD, ixD, seqO_nx, seqO_rt, seqO_bk, seqO_ct, seqO_non, Option.bind_some, Option.bind_none, Option.map_some, Option.map_none, List.getElem?_cons_zero, List.getElem?_cons_succ, List.length_cons, List.length_nil, List.map_cons, List.map_nil, List.set_cons_zero, List.set_cons_succ, List.replicate_succ, List.replicate_zero, List.cons_append, List.nil_append, Nat.reduceAdd, Nat.reduceSub, Nat.reduceLeDiff, Nat.zero_add, Nat.sub_self, Nat.reduceLT, sz, decide_eq_true_eq, decide_true, decide_false, if_true, if_false, ite_true, ite_false, Bool.false_eq_true, Bool.true_eq_false, Bool.not_true, Bool.not_false, not_true_eq_false, not_false_eq_true, eqD_int, eqD_ni, List.foldl_cons, List.foldl_nil, List.zip_cons_cons, List.zip_nil_left, Bool.not_eq_true', decide_eq_false_iff_not, reduceCtorEq, and_true, true_and, and_self, Int.cast_ofNat_Int, Int.natCast_add, Int.natCast_zero, Int.natCast_one, Int.reduceEq, Int.reduceNe, Int.reduceLT, Int.reduceLE, Int.reduceAdd, Int.reduceSub, Int.reduceMul, Int.reduceNeg, ne_eq, g1, mk_len, g2, meD, hd, h9', g_9, e, h0]
end K02
end
section
namespace K02
open PySem PySem.Spec L2 Ev
theorem c2 {k ds} (h : ds.length = 2) : C (k + 1) 2 ds = outD (exSs gs (C k) 5000 i_f_token_at (startD 3 ds)) := call_step (fn := ⟨2, 3, i_f_token_at⟩) rfl h (by decide)
theorem c1 {k ds} (h : ds.length = 2) : C (k + 1) 1 ds = outD (exSs gs (C k) 5000 i_f_end_of_row (startD 3 ds)) := call_step (fn := ⟨2, 3, i_f_end_of_row⟩) rfl h (by decide)
theorem cut_to {cs : List Nat} {i j : Nat} (hi : i ≤ cs.length) : cutS (mkS cs) (some (i : Int)) (some (j : Int)) = mkS ((cs.drop i).take (j - i)) := by
  have hl : (mkS cs).length = cs.length := mk_len cs
  unfold cutS
  rw [hl]
  have e1 : HT.sIx cs.length 0 (some (i : Int)) = i := by
    unfold HT.sIx
    simp only
    rw [if_neg (by omega)]
    omega
  have e2 : HT.sIx cs.length cs.length (some (j : Int)) = min j cs.length := by
    unfold HT.sIx
    simp only
    rw [if_neg (by omega)]
    omega
  rw [e1, e2]
  congr 2
  apply List.ext_getElem?
  intro x
  simp only [List.getElem?_take, List.getElem?_drop]
  by_cases h : x < j - i
  · rw [if_pos h]
    by_cases h' : x < min j cs.length - i
    · rw [if_pos h']
    · rw [if_neg h', List.getElem?_eq_none (by omega)]
  · rw [if_neg h, if_neg (by omega)]
theorem take_while_take (p : Nat → Bool) : ∀ (l : List Nat), l.take (l.takeWhile p).length = l.takeWhile p
  | [] => rfl
  | c :: r => by
    cases h : p c with
    | true => rw [List.takeWhile_cons_of_pos h, List.length_cons, List.take_succ_cons, take_while_take p r]
    | false => rw [List.takeWhile_cons_of_neg (by rw [h]; simp)]; rfl
def tka (l : List Nat) : Str × List Nat := match l with
  | [] => ("", [])
  | c :: r => if isrun c = true then (rk ((c :: r).takeWhile isrun), (c :: r).takeWhile isrun) else if loB ((c :: r).take 2) = true then ("sign", (c :: r).take 2) else if shB [c] = true then ("sign", [c]) else ("bad", [c])
def ta2 : Ss := match i_f_token_at with
  | .cons _ r => r
  | _ => .nil
theorem token_at (k : Nat) {cs : List Nat} (hl : cs.length ≤ 4000) (hs : ∀ c ∈ cs, c < 128) {i : Nat} (hi : i < cs.length) : C (k + 3) 2 [.str (mkS cs), .int (i : Int)] = some (false, .tuple [.str (tka (cs.drop i)).1, .str (mkS (tka (cs.drop i)).2)]) := by
  rw [c2 rfl]
  have g1 : cs.length ≤ 16777216 := by omega
  have hd : cs.drop i = cs[i] :: cs.drop (i + 1) := List.drop_eq_getElem_cons hi
  have g2 : atI cs (i : Int) = some cs[i] := atI_ok hi
  have g3 : C (k + 2) 3 [.str (mkS [cs[i]])] = some (false, .bool (isrun cs[i])) := in_run (k + 1) cs[i]
  have g4 := end_of_run k hl (Nat.le_of_lt hi)
  have g5 := cut_to (cs := cs) (i := i) (j := i + ((cs.drop i).takeWhile isrun).length) (Nat.le_of_lt hi)
  rw [show i + ((cs.drop i).takeWhile isrun).length - i = ((cs.drop i).takeWhile isrun).length by omega, take_while_take] at g5
  have g6 := cut_to (cs := cs) (i := i) (j := i + 2) (Nat.le_of_lt hi)
  rw [show i + 2 - i = 2 by omega, show ((i + 2 : Nat) : Int) = (i : Int) + 2 by simp] at g6
  have hdl : (cs.drop i).length ≤ 4000 := by simp; omega
  have hds : ∀ c ∈ cs.drop i, c < 128 := fun c h => hs c (List.mem_of_mem_drop h)
  generalize cs[i] = c at hd g2 g3
  generalize cs.drop (i + 1) = r at hd
  rw [hd] at g4 g5 g6 hdl hds ⊢
  unfold tka
  simp only
  cases hr : isrun c with
  | true =>
    rw [hr] at g3
    have hw : ∃ r', (c :: r).takeWhile isrun = c :: r' := ⟨_, List.takeWhile_cons_of_pos hr⟩
    have hsub : ∀ d ∈ (c :: r).takeWhile isrun, d < 128 := fun d h => hds d (List.takeWhile_subset _ h)
    have hlen : ((c :: r).takeWhile isrun).length ≤ 4000 := Nat.le_trans (List.takeWhile_sublist isrun).length_le hdl
    rw [if_pos rfl]
    generalize (c :: r).takeWhile isrun = w at hw hsub hlen g4 g5 ⊢
    obtain ⟨r', rfl⟩ := hw
    have g7 : C (k + 2) 5 [.str (mkS (c :: r'))] = some (false, .str (rk (c :: r'))) := run_kind k c r' hsub hlen
    generalize c :: r' = w at g4 g5 g7 ⊢
    generalize ((i + w.length : Nat) : Int) = j at g4 g5
    simp only [i_f_token_at]
    simp only [exSs, x_asg, x_asgN, x_aug, x_app, x_set, x_clr, x_frz, x_ife, x_ret, x_retO, x_retN, x_brk, x_cnt, x_pass, asgD, evE, evEs, evAnd, evOr, evI, evO, evN, getS, getB, ownL, asgD, outD_rt, outD_nx, binD, addD, intD, augD, ordD, cmpD, asC, isD, isnotD, isnD, isiD, lenD, biD, asB, asI, asL, startD, ixD, seqO_nx, seqO_rt, seqO_bk, seqO_ct, seqO_non, Option.bind_some, Option.bind_none, Option.map_some, Option.map_none, List.getElem?_cons_zero, List.getElem?_cons_succ, List.length_cons, List.length_nil, List.map_cons, List.map_nil, List.set_cons_zero, List.set_cons_succ, List.replicate_succ, List.replicate_zero, List.cons_append, List.nil_append, Nat.reduceAdd, Nat.reduceSub, Nat.reduceLeDiff, Nat.zero_add, Nat.sub_self, Nat.reduceLT, sz, decide_eq_true_eq, decide_true, decide_false, if_true, if_false, ite_true, ite_false, Bool.false_eq_true, Bool.true_eq_false, Bool.not_true, Bool.not_false, not_true_eq_false, not_false_eq_true, eqD_int, eqD_ni, List.foldl_cons, List.foldl_nil, List.zip_cons_cons, List.zip_nil_left, Bool.not_eq_true', decide_eq_false_iff_not, reduceCtorEq, and_true, true_and, and_self, Int.cast_ofNat_Int, Int.natCast_add, Int.natCast_zero, Int.natCast_one, Int.reduceEq, Int.reduceNe, Int.reduceLT, Int.reduceLE, Int.reduceAdd, Int.reduceSub, Int.reduceMul, Int.reduceNeg, ne_eq, g1, mk_len, g2, g3, g4, slD, g5, g7]
  | false =>
    rw [hr] at g3
    rw [if_neg (by simp)]
    have q1 := in_lo ((c :: r).take 2)
    have q2 := in_sh [c]
    have e1 : evE gs (C (k + 2)) (.cmp .inn (.sl (.var 0) (.var 1) (.bin .add (.var 1) (.int 2))) (.glo 1)) [some (false, .str (mkS cs)), some (false, .int (i : Int)), none] = some (.bool (loB ((c :: r).take 2))) := by
      rw [ev_cmp]
      have : evE gs (C (k + 2)) (.sl (.var 0) (.var 1) (.bin .add (.var 1) (.int 2))) [some (false, .str (mkS cs)), some (false, .int (i : Int)), none] = some (.str (mkS ((c :: r).take 2))) := by
        generalize (c :: r).take 2 = w at g6 ⊢
        simp only [exSs, x_asg, x_asgN, x_aug, x_app, x_set, x_clr, x_frz, x_ife, x_ret, x_retO, x_retN, x_brk, x_cnt, x_pass, asgD, evE, evEs, evAnd, evOr, evI, evO, evN, getS, getB, ownL, asgD, outD_rt, outD_nx, binD, addD, intD, augD, ordD, cmpD, asC, isD, isnotD, isnD, isiD, lenD, biD, asB, asI, asL, startD, ixD, seqO_nx, seqO_rt, seqO_bk, seqO_ct, seqO_non, Option.bind_some, Option.bind_none, Option.map_some, Option.map_none, List.getElem?_cons_zero, List.getElem?_cons_succ, List.length_cons, List.length_nil, List.map_cons, List.map_nil, List.set_cons_zero, List.set_cons_succ, List.replicate_succ, List.replicate_zero, List.cons_append, List.nil_append, Nat.reduceAdd, Nat.reduceSub, Nat.reduceLeDiff, Nat.zero_add, Nat.sub_self, Nat.reduceLT, sz, decide_eq_true_eq, decide_true, decide_false, if_true, if_false, ite_true, ite_false, Bool.false_eq_true, Bool.true_eq_false, Bool.not_true, Bool.not_false, not_true_eq_false, not_false_eq_true, eqD_int, eqD_ni, List.foldl_cons, List.foldl_nil, List.zip_cons_cons, List.zip_nil_left, Bool.not_eq_true', decide_eq_false_iff_not, reduceCtorEq, and_true, true_and, and_self, Int.cast_ofNat_Int, Int.natCast_add, Int.natCast_zero, Int.natCast_one, Int.reduceEq, Int.reduceNe, Int.reduceLT, Int.reduceLE, Int.reduceAdd, Int.reduceSub, Int.reduceMul, Int.reduceNeg, ne_eq, g1, mk_len, slD, g6]
      rw [this, Option.bind_some, evE, g_lo, Option.bind_some]
      exact q1
    have e2 : evE gs (C (k + 2)) (.cmp .inn (.ix (.var 0) (.var 1)) (.glo 2)) [some (false, .str (mkS cs)), some (false, .int (i : Int)), none] = some (.bool (shB [c])) := by
      rw [ev_cmp]
      have : evE gs (C (k + 2)) (.ix (.var 0) (.var 1)) [some (false, .str (mkS cs)), some (false, .int (i : Int)), none] = some (.str (mkS [c])) := by
        simp only [exSs, x_asg, x_asgN, x_aug, x_app, x_set, x_clr, x_frz, x_ife, x_ret, x_retO, x_retN, x_brk, x_cnt, x_pass, asgD, evE, evEs, evAnd, evOr, evI, evO, evN, getS, getB, ownL, asgD, outD_rt, outD_nx, binD, addD, intD, augD, ordD, cmpD, asC, isD, isnotD, isnD, isiD, lenD, biD, asB, asI, asL, startD, ixD, seqO_nx, seqO_rt, seqO_bk, seqO_ct, seqO_non, Option.bind_some, Option.bind_none, Option.map_some, Option.map_none, List.getElem?_cons_zero, List.getElem?_cons_succ, List.length_cons, List.length_nil, List.map_cons, List.map_nil, List.set_cons_zero, List.set_cons_succ, List.replicate_succ, List.replicate_zero, List.cons_append, List.nil_append, Nat.reduceAdd, Nat.reduceSub, Nat.reduceLeDiff, Nat.zero_add, Nat.sub_self, Nat.reduceLT, sz, decide_eq_true_eq, decide_true, decide_false, if_true, if_false, ite_true, ite_false, Bool.false_eq_true, Bool.true_eq_false, Bool.not_true, Bool.not_false, not_true_eq_false, not_false_eq_true, eqD_int, eqD_ni, List.foldl_cons, List.foldl_nil, List.zip_cons_cons, List.zip_nil_left, Bool.not_eq_true', decide_eq_false_iff_not, reduceCtorEq, and_true, true_and, and_self, Int.cast_ofNat_Int, Int.natCast_add, Int.natCast_zero, Int.natCast_one, Int.reduceEq, Int.reduceNe, Int.reduceLT, Int.reduceLE, Int.reduceAdd, Int.reduceSub, Int.reduceMul, Int.reduceNeg, ne_eq, g1, mk_len, g2]
      rw [this, Option.bind_some, evE, g_sh, Option.bind_some]
      exact q2
    have st : i_f_token_at = .cons (.ife (.call 3 (.cons (.ix (.var 0) (.var 1)) .nil)) (.cons (.asg (.one 2) (.sl (.var 0) (.var 1) (.call 4 (.cons (.var 0) (.cons (.var 1) .nil))))) (.cons (.ret (.tup (.cons (.call 5 (.cons (.var 2) .nil)) (.cons (.var 2) .nil)))) .nil)) .nil)
      (.cons (.ife (.cmp .inn (.sl (.var 0) (.var 1) (.bin .add (.var 1) (.int 2))) (.glo 1)) (.cons (.ret (.tup (.cons (.str "sign") (.cons (.sl (.var 0) (.var 1) (.bin .add (.var 1) (.int 2))) .nil)))) .nil) .nil)
      (.cons (.ife (.cmp .inn (.ix (.var 0) (.var 1)) (.glo 2)) (.cons (.ret (.tup (.cons (.str "sign") (.cons (.ix (.var 0) (.var 1)) .nil)))) .nil) .nil) (.cons (.ret (.tup (.cons (.str "bad") (.cons (.ix (.var 0) (.var 1)) .nil)))) .nil))) := rfl
    rw [st]
    generalize (E.cmp .inn (.sl (.var 0) (.var 1) (.bin .add (.var 1) (.int 2))) (.glo 1)) = p1 at e1 ⊢
    generalize (E.cmp .inn (.ix (.var 0) (.var 1)) (.glo 2)) = p2 at e2 ⊢
    generalize (c :: r).take 2 = w at g6 e1 ⊢
    cases h1 : loB w with
    | true =>
      rw [h1] at e1
      rw [if_pos rfl]
      simp only [exSs, x_asg, x_asgN, x_aug, x_app, x_set, x_clr, x_frz, x_ife, x_ret, x_retO, x_retN, x_brk, x_cnt, x_pass, asgD, evE, evEs, evAnd, evOr, evI, evO, evN, getS, getB, ownL, asgD, outD_rt, outD_nx, binD, addD, intD, augD, ordD, cmpD, asC, isD, isnotD, isnD, isiD, lenD, biD, asB, asI, asL, startD, ixD, seqO_nx, seqO_rt, seqO_bk, seqO_ct, seqO_non, Option.bind_some, Option.bind_none, Option.map_some, Option.map_none, List.getElem?_cons_zero, List.getElem?_cons_succ, List.length_cons, List.length_nil, List.map_cons, List.map_nil, List.set_cons_zero, List.set_cons_succ, List.replicate_succ, List.replicate_zero, List.cons_append, List.nil_append, Nat.reduceAdd, Nat.reduceSub, Nat.reduceLeDiff, Nat.zero_add, Nat.sub_self, Nat.reduceLT, sz, decide_eq_true_eq, decide_true, decide_false, if_true, if_false, ite_true, ite_false, Bool.false_eq_true, Bool.true_eq_false, Bool.not_true, Bool.not_false, not_true_eq_false, not_false_eq_true, eqD_int, eqD_ni, List.foldl_cons, List.foldl_nil, List.zip_cons_cons, List.zip_nil_left, Bool.not_eq_true', decide_eq_false_iff_not, reduceCtorEq, and_true, true_and, and_self, Int.cast_ofNat_Int, Int.natCast_add, Int.natCast_zero, Int.natCast_one, Int.reduceEq, Int.reduceNe, Int.reduceLT, Int.reduceLE, Int.reduceAdd, Int.reduceSub, Int.reduceMul, Int.reduceNeg, ne_eq, g1, mk_len, g2, g3, e1, slD, g6]
    | false =>
      rw [h1] at e1
      rw [if_neg (by simp)]
      cases h2 : shB [c] with
      | true =>
        rw [h2] at e2
        rw [if_pos rfl]
        simp only [exSs, x_asg, x_asgN, x_aug, x_app, x_set, x_clr, x_frz, x_ife, x_ret, x_retO, x_retN, x_brk, x_cnt, x_pass, asgD, evE, evEs, evAnd, evOr, evI, evO, evN, getS, getB, ownL, asgD, outD_rt, outD_nx, binD, addD, intD, augD, ordD, cmpD, asC, isD, isnotD, isnD, isiD, lenD, biD, asB, asI, asL, startD, ixD, seqO_nx, seqO_rt, seqO_bk, seqO_ct, seqO_non, Option.bind_some, Option.bind_none, Option.map_some, Option.map_none, List.getElem?_cons_zero, List.getElem?_cons_succ, List.length_cons, List.length_nil, List.map_cons, List.map_nil, List.set_cons_zero, List.set_cons_succ, List.replicate_succ, List.replicate_zero, List.cons_append, List.nil_append, Nat.reduceAdd, Nat.reduceSub, Nat.reduceLeDiff, Nat.zero_add, Nat.sub_self, Nat.reduceLT, sz, decide_eq_true_eq, decide_true, decide_false, if_true, if_false, ite_true, ite_false, Bool.false_eq_true, Bool.true_eq_false, Bool.not_true, Bool.not_false, not_true_eq_false, not_false_eq_true, eqD_int, eqD_ni, List.foldl_cons, List.foldl_nil, List.zip_cons_cons, List.zip_nil_left, Bool.not_eq_true', decide_eq_false_iff_not, reduceCtorEq, and_true, true_and, and_self, Int.cast_ofNat_Int, Int.natCast_add, Int.natCast_zero, Int.natCast_one, Int.reduceEq, Int.reduceNe, Int.reduceLT, Int.reduceLE, Int.reduceAdd, Int.reduceSub, Int.reduceMul, Int.reduceNeg, ne_eq, g1, mk_len, g2, g3, e1, e2]
      | false =>
        rw [h2] at e2
        rw [if_neg (by simp)]
        simp only [exSs, x_asg, x_asgN, x_aug, x_app, x_set, x_clr, x_frz, x_ife, x_ret, x_retO, x_retN, x_brk, x_cnt, x_pass, asgD, evE, evEs, evAnd, evOr, evI, evO, evN, getS, getB, ownL, asgD, outD_rt, outD_nx, binD, addD, intD, augD, ordD, cmpD, asC, isD, isnotD, isnD, isiD, lenD, biD, asB, asI, asL, startD, ixD, seqO_nx, seqO_rt, seqO_bk, seqO_ct, seqO_non, Option.bind_some, Option.bind_none, Option.map_some, Option.map_none, List.getElem?_cons_zero, List.getElem?_cons_succ, List.length_cons, List.length_nil, List.map_cons, List.map_nil, List.set_cons_zero, List.set_cons_succ, List.replicate_succ, List.replicate_zero, List.cons_append, List.nil_append, Nat.reduceAdd, Nat.reduceSub, Nat.reduceLeDiff, Nat.zero_add, Nat.sub_self, Nat.reduceLT, sz, decide_eq_true_eq, decide_true, decide_false, if_true, if_false, ite_true, ite_false, Bool.false_eq_true, Bool.true_eq_false, Bool.not_true, Bool.not_false, not_true_eq_false, not_false_eq_true, eqD_int, eqD_ni, List.foldl_cons, List.foldl_nil, List.zip_cons_cons, List.zip_nil_left, Bool.not_eq_true', decide_eq_false_iff_not, reduceCtorEq, and_true, true_and, and_self, Int.cast_ofNat_Int, Int.natCast_add, Int.natCast_zero, Int.natCast_one, Int.reduceEq, Int.reduceNe, Int.reduceLT, Int.reduceLE, Int.reduceAdd, Int.reduceSub, Int.reduceMul, Int.reduceNeg, ne_eq, g1, mk_len, g2, g3, e1, e2]
end K02
end
section
namespace K02
open PySem PySem.Spec L2 Ev
open PySem.StrLaws PySem.Builtin.Str in
theorem occ_full (s sub : Str) (hi : Nat) (x : Nat) : ∀ (l : List Nat) (f : Nat), (forIn l ((#[x] : Array Nat), f) (occBody s sub hi 1)).run.fst = #[x]
  | [], f => rfl
  | a :: l, f => by
    rw [List.forIn_cons]
    unfold occBody
    rw [if_neg (by simp)]
    exact occ_full s sub hi x l f
def toNl (l : List Nat) : Nat := (l.takeWhile fun c => !(c == 10)).length
open PySem.StrLaws PySem.Builtin.Str in
theorem occ_nl (cs : List Nat) : ∀ (m i f : Nat), i + m = cs.length + 1 → f ≤ i → (forIn (List.range' i m) ((#[] : Array Nat), f) (occBody (mkS cs) ⟨#[10]⟩ cs.length 1)).run.fst.toList = if i + toNl (cs.drop i) < cs.length then [i + toNl (cs.drop i)] else []
  | 0, i, f, h, _ => by
    rw [List.drop_eq_nil_of_le (by omega)]
    rw [if_neg (by simp [toNl]; omega)]
    rfl
  | m + 1, i, f, h, hf => by
    have hl : (mkS cs).length = cs.length := mk_len cs
    rw [List.range'_succ, List.forIn_cons]
    have sa := subAt_one (mkS cs) 10 i
    rw [hl] at sa
    by_cases hc : cs[i]? = some 10
    · have hi := (List.getElem?_eq_some_iff.mp hc).1
      have hs := sa.mpr (by simpa using hc)
      unfold occBody
      rw [if_pos ⟨⟨⟨by simp, hf⟩, hs.1⟩, hs.2⟩]
      have := occ_full (mkS cs) ⟨#[10]⟩ cs.length i (List.range' (i + 1) m) (i + (⟨#[10]⟩ : Str).length)
      have e : toNl (cs.drop i) = 0 := by
        rw [List.drop_eq_getElem_cons hi, (List.getElem?_eq_some_iff.mp hc).2]
        rfl
      rw [e, if_pos (by omega)]
      show (forIn (List.range' (i + 1) m) ((#[i] : Array Nat), _) (occBody (mkS cs) ⟨#[10]⟩ cs.length 1)).run.fst.toList = _
      rw [this]
      rfl
    · have hn : ¬ (i + (⟨#[10]⟩ : Str).length ≤ cs.length ∧ subAt (mkS cs) ⟨#[10]⟩ i = true) := fun h => hc (by simpa using sa.mp h)
      unfold occBody
      rw [if_neg (fun h => hn ⟨h.1.2, h.2⟩)]
      have ih := occ_nl cs m (i + 1) f (by omega) (by omega)
      show (forIn (List.range' (i + 1) m) ((#[] : Array Nat), f) (occBody (mkS cs) ⟨#[10]⟩ cs.length 1)).run.fst.toList = _
      rw [ih]
      by_cases hi : i < cs.length
      · have e : toNl (cs.drop i) = toNl (cs.drop (i + 1)) + 1 := by
          rw [List.drop_eq_getElem_cons hi]
          have hne : cs[i] ≠ 10 := fun e => hc (by rw [List.getElem?_eq_getElem hi, e])
          unfold toNl
          rw [List.takeWhile_cons_of_pos (by simpa using hne)]
          rfl
        rw [e, show i + (toNl (cs.drop (i + 1)) + 1) = i + 1 + toNl (cs.drop (i + 1)) by omega]
      · rw [List.drop_eq_nil_of_le (by omega), List.drop_eq_nil_of_le (by omega)]
        rw [if_neg (by simp [toNl]; omega), if_neg (by simp [toNl]; omega)]
theorem toNl_le (l : List Nat) : toNl l ≤ l.length := (List.takeWhile_sublist _).length_le
theorem lnl : ("\n" : Str) = mkS [10] := by decide +kernel
theorem find_nl {cs : List Nat} {i : Nat} (hi : i ≤ cs.length) : Txt.find3 (mkS cs) "\n" (i : Int) = if i + toNl (cs.drop i) < cs.length then ((i + toNl (cs.drop i) : Nat) : Int) else -1 := by
  have hl : (mkS cs).length = cs.length := mk_len cs
  unfold Txt.find3
  have hf : PySem.fromIndex (mkS cs).length (i : Int) = i := by
    rw [hl]
    unfold PySem.fromIndex
    rw [if_neg (by omega)]
    omega
  rw [hf, lnl]
  have h := occ_nl cs (cs.length + 1 - i) i i (by omega) (Nat.le_refl i)
  have e := PySem.StrLaws.occ_eq (mkS cs) ⟨#[10]⟩ i cs.length 1
  rw [h] at e
  rw [hl]
  have e' : Builtin.Str.occurrences (mkS cs) (mkS [10]) i cs.length 1 = if i + toNl (cs.drop i) < cs.length then [i + toNl (cs.drop i)] else [] := e
  rw [e']
  by_cases h : i + toNl (cs.drop i) < cs.length
  · rw [if_pos h, if_pos h]
  · rw [if_neg h, if_neg h]
theorem end_of_row (k : Nat) {cs : List Nat} (hl : cs.length ≤ 4000) {i : Nat} (hi : i ≤ cs.length) : C (k + 1) 1 [.str (mkS cs), .int (i : Int)] = some (false, .int ((i + toNl (cs.drop i) : Nat) : Int)) := by
  rw [c1 rfl]
  have g1 : cs.length ≤ 16777216 := by omega
  have f := find_nl hi
  have hle : i + toNl (cs.drop i) ≤ cs.length := by
    have := toNl_le (cs.drop i)
    rw [List.length_drop] at this
    omega
  by_cases h : i + toNl (cs.drop i) < cs.length
  · rw [if_pos h] at f
    have h0 : ¬ ((i + toNl (cs.drop i) : Nat) : Int) < 0 := by omega
    generalize ((i + toNl (cs.drop i) : Nat) : Int) = q at f h0 ⊢
    simp only [exSs, x_asg, x_asgN, x_aug, x_app, x_set, x_clr, x_frz, x_ife, x_ret, x_retO, x_retN, x_brk, x_cnt, x_pass, asgD, evE, evEs, evAnd, evOr, evI, evO, evN, getS, getB, ownL, asgD, outD_rt, outD_nx, binD, addD, intD, augD, ordD, cmpD, asC, isD, isnotD, isnD, isiD, lenD, biD, asB, asI, asL, startD, ixD, seqO_nx, seqO_rt, seqO_bk, seqO_ct, seqO_non, Option.bind_some, Option.bind_none, Option.map_some, Option.map_none, List.getElem?_cons_zero, List.getElem?_cons_succ, List.length_cons, List.length_nil, List.map_cons, List.map_nil, List.set_cons_zero, List.set_cons_succ, List.replicate_succ, List.replicate_zero, List.cons_append, List.nil_append, Nat.reduceAdd, Nat.reduceSub, Nat.reduceLeDiff, Nat.zero_add, Nat.sub_self, Nat.reduceLT, sz, decide_eq_true_eq, decide_true, decide_false, if_true, if_false, ite_true, ite_false, Bool.false_eq_true, Bool.true_eq_false, Bool.not_true, Bool.not_false, not_true_eq_false, not_false_eq_true, eqD_int, eqD_ni, List.foldl_cons, List.foldl_nil, List.zip_cons_cons, List.zip_nil_left, Bool.not_eq_true', decide_eq_false_iff_not, reduceCtorEq, and_true, true_and, and_self, Int.cast_ofNat_Int, Int.natCast_add, Int.natCast_zero, Int.natCast_one, Int.reduceEq, Int.reduceNe, Int.reduceLT, Int.reduceLE, Int.reduceAdd, Int.reduceSub, Int.reduceMul, Int.reduceNeg, ne_eq, i_f_end_of_row, meD, f, h0]
  · rw [if_neg h] at f
    have e : i + toNl (cs.drop i) = cs.length := by omega
    rw [e]
    simp only [exSs, x_asg, x_asgN, x_aug, x_app, x_set, x_clr, x_frz, x_ife, x_ret, x_retO, x_retN, x_brk, x_cnt, x_pass, asgD, evE, evEs, evAnd, evOr, evI, evO, evN, getS, getB, ownL, asgD, outD_rt, outD_nx, binD, addD, intD, augD, ordD, cmpD, asC, isD, isnotD, isnD, isiD, lenD, biD, asB, asI, asL, startD, ixD, seqO_nx, seqO_rt, seqO_bk, seqO_ct, seqO_non, Option.bind_some, Option.bind_none, Option.map_some, Option.map_none, List.getElem?_cons_zero, List.getElem?_cons_succ, List.length_cons, List.length_nil, List.map_cons, List.map_nil, List.set_cons_zero, List.set_cons_succ, List.replicate_succ, List.replicate_zero, List.cons_append, List.nil_append, Nat.reduceAdd, Nat.reduceSub, Nat.reduceLeDiff, Nat.zero_add, Nat.sub_self, Nat.reduceLT, sz, decide_eq_true_eq, decide_true, decide_false, if_true, if_false, ite_true, ite_false, Bool.false_eq_true, Bool.true_eq_false, Bool.not_true, Bool.not_false, not_true_eq_false, not_false_eq_true, eqD_int, eqD_ni, List.foldl_cons, List.foldl_nil, List.zip_cons_cons, List.zip_nil_left, Bool.not_eq_true', decide_eq_false_iff_not, reduceCtorEq, and_true, true_and, and_self, Int.cast_ofNat_Int, Int.natCast_add, Int.natCast_zero, Int.natCast_one, Int.reduceEq, Int.reduceNe, Int.reduceLT, Int.reduceLE, Int.reduceAdd, Int.reduceSub, Int.reduceMul, Int.reduceNeg, ne_eq, i_f_end_of_row, meD, f, g1, mk_len]
end K02
end
section
namespace K02
open PySem PySem.Spec L2 Ev
abbrev tk (kd : Str) (w : List Nat) (row col : Int) : D := .tuple [.str kd, .str (mkS w), .int row, .int col]
/-- the tokens of a text: s signs are left of what has been told -/
def tl : List Nat → Nat → Int → Int → List D
  | [], _, row, col => [tk "end" [] row col]
  | _ :: r, s + 1, row, col => tl r s row (col + 1)
  | c :: r, 0, row, col =>
    if c = 10 then tl r 0 (row + 1) 1
    else if c = 32 then tl r 0 row (col + 1)
    else if c = 35 then tl r (toNl r) row (col + 1)
    else if (tka (c :: r)).1 = "bad" then [tk "bad" (tka (c :: r)).2 row col]
    else tk (tka (c :: r)).1 (tka (c :: r)).2 row col :: tl r ((tka (c :: r)).2.length - 1) row (col + 1)
theorem tl_skip : ∀ (s : Nat) (l : List Nat) (row col : Int), s ≤ l.length → tl l s row col = tl (l.drop s) 0 row (col + (s : Int))
  | 0, l, row, col, _ => by simp
  | s + 1, [], row, col, h => by simp at h
  | s + 1, c :: r, row, col, h => by
    rw [tl, tl_skip s r row (col + 1) (by simpa using h), List.drop_succ_cons]
    rw [show col + 1 + (s : Int) = col + ((s + 1 : Nat) : Int) by omega]
theorem ok_kw : PyData.strOk "keyword" = true := by decide +kernel
theorem ok_bad : PyData.strOk "bad" = true := by decide +kernel
theorem ok_name : PyData.strOk "name" = true := by decide +kernel
theorem ok_num : PyData.strOk "number" = true := by decide +kernel
theorem ok_sign : PyData.strOk "sign" = true := by decide +kernel
theorem ok_nil : PyData.strOk "" = true := by decide +kernel
theorem wk_ok (w : List Nat) : PyData.strOk (wk w) = true := by
  unfold wk
  split
  · exact ok_kw
  · split
    · exact ok_bad
    · exact ok_name
theorem rk_ok (w : List Nat) : PyData.strOk (rk w) = true := by
  unfold rk
  split
  · exact ok_nil
  · split
    · exact wk_ok _
    · split
      · exact ok_bad
      · split
        · exact ok_bad
        · exact ok_num
theorem tka_ok (c : Nat) (r : List Nat) : PyData.strOk (tka (c :: r)).1 = true ∧ 0 < (tka (c :: r)).2.length ∧ (tka (c :: r)).2.length ≤ (c :: r).length := by
  unfold tka
  simp only
  split
  · rename_i h
    refine ⟨rk_ok _, ?_, (List.takeWhile_sublist isrun).length_le⟩
    rw [List.takeWhile_cons_of_pos h]
    simp
  · split
    · refine ⟨ok_sign, ?_, ?_⟩
      · simp
      · simp
        omega
    · split
      · exact ⟨ok_sign, by simp, by simp⟩
      · exact ⟨ok_bad, by simp, by simp⟩
def wcond : E := match i_f_token_list with
  | .cons _ (.cons _ (.cons _ (.cons _ (.cons (.whl c _) _)))) => c
  | _ => .non
def wbody : Ss := match i_f_token_list with
  | .cons _ (.cons _ (.cons _ (.cons _ (.cons (.whl _ b) _)))) => b
  | _ => .nil
def wrest : Ss := match i_f_token_list with
  | .cons _ (.cons _ (.cons _ (.cons _ (.cons _ r)))) => r
  | _ => .nil
abbrev ST (cs : List Nat) (ts : List D) (row rs i : Int) (a b c : SV) : Env' := [some (false, .str (mkS cs)), some (true, .list ts), some (false, .int row), some (false, .int rs), some (false, .int i), a, b, c]
theorem lsp : (" " : Str) = mkS [32] := by decide +kernel
theorem lha : ("#" : Str) = mkS [35] := by decide +kernel
theorem e_one (c d : Nat) (hc : c < 128) (hd : d < 128) : eqD (.str (mkS [c])) (.str (mkS [d])) = some (decide (c = d)) := by
  rw [eq_mk (by simpa using hc) (by simpa using hd)]
  simp
section
variable {k : Nat} {cs : List Nat} {i c : Nat}
theorem w_pre (hl : cs.length ≤ 4000) (h : cs[i]? = some c) : (mkS cs).length ≤ 16777216 ∧ atI cs (i : Int) = some c := by
  have hi := (List.getElem?_eq_some_iff.mp h).1
  refine ⟨by rw [mk_len]; omega, ?_⟩
  rw [atI_ok hi, (List.getElem?_eq_some_iff.mp h).2]
theorem w_nl (hl : cs.length ≤ 4000) (h : cs[i]? = some 10) (ts : List D) (row rs : Int) (a b d : SV) : exSs gs (C (k + 3)) 5000 wbody (ST cs ts row rs i a b d) = some (.nx (ST cs ts (row + 1) ((i : Int) + 1) ((i : Int) + 1) (some (false, .str (mkS [10]))) b d)) := by
  obtain ⟨g1, g2⟩ := w_pre hl h
  have e := e_one 10 10 (by decide) (by decide)
  simp only [wbody, i_f_token_list, lnl]
  simp only [exSs, x_asg, x_asgN, x_aug, x_app, x_set, x_clr, x_frz, x_ife, x_ret, x_retO, x_retN, x_brk, x_cnt, x_pass, asgD, evE, evEs, evAnd, evOr, evI, evO, evN, getS, getB, ownL, asgD, outD_rt, outD_nx, binD, addD, intD, augD, ordD, cmpD, asC, isD, isnotD, isnD, isiD, lenD, biD, asB, asI, asL, startD, ixD, seqO_nx, seqO_rt, seqO_bk, seqO_ct, seqO_non, Option.bind_some, Option.bind_none, Option.map_some, Option.map_none, List.getElem?_cons_zero, List.getElem?_cons_succ, List.length_cons, List.length_nil, List.map_cons, List.map_nil, List.set_cons_zero, List.set_cons_succ, List.replicate_succ, List.replicate_zero, List.cons_append, List.nil_append, Nat.reduceAdd, Nat.reduceSub, Nat.reduceLeDiff, Nat.zero_add, Nat.sub_self, Nat.reduceLT, sz, decide_eq_true_eq, decide_true, decide_false, if_true, if_false, ite_true, ite_false, Bool.false_eq_true, Bool.true_eq_false, Bool.not_true, Bool.not_false, not_true_eq_false, not_false_eq_true, eqD_int, eqD_ni, List.foldl_cons, List.foldl_nil, List.zip_cons_cons, List.zip_nil_left, Bool.not_eq_true', decide_eq_false_iff_not, reduceCtorEq, and_true, true_and, and_self, Int.cast_ofNat_Int, Int.natCast_add, Int.natCast_zero, Int.natCast_one, Int.reduceEq, Int.reduceNe, Int.reduceLT, Int.reduceLE, Int.reduceAdd, Int.reduceSub, Int.reduceMul, Int.reduceNeg, ne_eq, g1, g2, e]
theorem w_sp (hl : cs.length ≤ 4000) (h : cs[i]? = some 32) (ts : List D) (row rs : Int) (a b d : SV) : exSs gs (C (k + 3)) 5000 wbody (ST cs ts row rs i a b d) = some (.nx (ST cs ts row rs ((i : Int) + 1) (some (false, .str (mkS [32]))) b d)) := by
  obtain ⟨g1, g2⟩ := w_pre hl h
  have e := e_one 32 10 (by decide) (by decide)
  have e2 := e_one 32 32 (by decide) (by decide)
  simp only [wbody, i_f_token_list, lnl, lsp]
  simp only [exSs, x_asg, x_asgN, x_aug, x_app, x_set, x_clr, x_frz, x_ife, x_ret, x_retO, x_retN, x_brk, x_cnt, x_pass, asgD, evE, evEs, evAnd, evOr, evI, evO, evN, getS, getB, ownL, asgD, outD_rt, outD_nx, binD, addD, intD, augD, ordD, cmpD, asC, isD, isnotD, isnD, isiD, lenD, biD, asB, asI, asL, startD, ixD, seqO_nx, seqO_rt, seqO_bk, seqO_ct, seqO_non, Option.bind_some, Option.bind_none, Option.map_some, Option.map_none, List.getElem?_cons_zero, List.getElem?_cons_succ, List.length_cons, List.length_nil, List.map_cons, List.map_nil, List.set_cons_zero, List.set_cons_succ, List.replicate_succ, List.replicate_zero, List.cons_append, List.nil_append, Nat.reduceAdd, Nat.reduceSub, Nat.reduceLeDiff, Nat.zero_add, Nat.sub_self, Nat.reduceLT, sz, decide_eq_true_eq, decide_true, decide_false, if_true, if_false, ite_true, ite_false, Bool.false_eq_true, Bool.true_eq_false, Bool.not_true, Bool.not_false, not_true_eq_false, not_false_eq_true, eqD_int, eqD_ni, List.foldl_cons, List.foldl_nil, List.zip_cons_cons, List.zip_nil_left, Bool.not_eq_true', decide_eq_false_iff_not, reduceCtorEq, and_true, true_and, and_self, Int.cast_ofNat_Int, Int.natCast_add, Int.natCast_zero, Int.natCast_one, Int.reduceEq, Int.reduceNe, Int.reduceLT, Int.reduceLE, Int.reduceAdd, Int.reduceSub, Int.reduceMul, Int.reduceNeg, ne_eq, g1, g2, e, e2, Nat.reduceEqDiff]
theorem w_rem (hl : cs.length ≤ 4000) (h : cs[i]? = some 35) (ts : List D) (row rs : Int) (a b d : SV) : exSs gs (C (k + 3)) 5000 wbody (ST cs ts row rs i a b d) = some (.nx (ST cs ts row rs ((i + toNl (cs.drop i) : Nat) : Int) (some (false, .str (mkS [35]))) b d)) := by
  obtain ⟨g1, g2⟩ := w_pre hl h
  have hi := (List.getElem?_eq_some_iff.mp h).1
  have e := e_one 35 10 (by decide) (by decide)
  have e2 := e_one 35 32 (by decide) (by decide)
  have e3 := e_one 35 35 (by decide) (by decide)
  have r : C (k + 3) 1 [.str (mkS cs), .int (i : Int)] = some (false, .int ((i + toNl (cs.drop i) : Nat) : Int)) := end_of_row (k + 2) hl (Nat.le_of_lt hi)
  generalize ((i + toNl (cs.drop i) : Nat) : Int) = q at r ⊢
  simp only [wbody, i_f_token_list, lnl, lsp, lha]
  simp only [exSs, x_asg, x_asgN, x_aug, x_app, x_set, x_clr, x_frz, x_ife, x_ret, x_retO, x_retN, x_brk, x_cnt, x_pass, asgD, evE, evEs, evAnd, evOr, evI, evO, evN, getS, getB, ownL, asgD, outD_rt, outD_nx, binD, addD, intD, augD, ordD, cmpD, asC, isD, isnotD, isnD, isiD, lenD, biD, asB, asI, asL, startD, ixD, seqO_nx, seqO_rt, seqO_bk, seqO_ct, seqO_non, Option.bind_some, Option.bind_none, Option.map_some, Option.map_none, List.getElem?_cons_zero, List.getElem?_cons_succ, List.length_cons, List.length_nil, List.map_cons, List.map_nil, List.set_cons_zero, List.set_cons_succ, List.replicate_succ, List.replicate_zero, List.cons_append, List.nil_append, Nat.reduceAdd, Nat.reduceSub, Nat.reduceLeDiff, Nat.zero_add, Nat.sub_self, Nat.reduceLT, sz, decide_eq_true_eq, decide_true, decide_false, if_true, if_false, ite_true, ite_false, Bool.false_eq_true, Bool.true_eq_false, Bool.not_true, Bool.not_false, not_true_eq_false, not_false_eq_true, eqD_int, eqD_ni, List.foldl_cons, List.foldl_nil, List.zip_cons_cons, List.zip_nil_left, Bool.not_eq_true', decide_eq_false_iff_not, reduceCtorEq, and_true, true_and, and_self, Int.cast_ofNat_Int, Int.natCast_add, Int.natCast_zero, Int.natCast_one, Int.reduceEq, Int.reduceNe, Int.reduceLT, Int.reduceLE, Int.reduceAdd, Int.reduceSub, Int.reduceMul, Int.reduceNeg, ne_eq, g1, g2, e, e2, e3, r, Nat.reduceEqDiff]
theorem w_tok (hl : cs.length ≤ 4000) (hs : ∀ c ∈ cs, c < 128) (h : cs[i]? = some c) (s2 : c ≠ 10) (s3 : c ≠ 32) (s4 : c ≠ 35) (ts : List D) (ht : ts.length ≤ 4000) (row rs : Int) (a b d : SV) (kd : Str) (w : List Nat) (hw : tka (cs.drop i) = (kd, w)) (hk : PyData.strOk kd = true) (hwl : w.length ≤ 4000) :
    exSs gs (C (k + 3)) 5000 wbody (ST cs ts row rs i a b d) = if kd = "bad" then some (.rt true (.list (ts ++ [tk kd w row ((i : Int) - rs + 1)]))) else some (.nx (ST cs (ts ++ [tk kd w row ((i : Int) - rs + 1)]) row rs ((i : Int) + (w.length : Int)) (some (false, .str (mkS [c]))) (some (false, .str kd)) (some (false, .str (mkS w))))) := by
  obtain ⟨g1, g2⟩ := w_pre hl h
  have hi := (List.getElem?_eq_some_iff.mp h).1
  have s1 := hs c (List.mem_of_getElem? h)
  have e := e_one c 10 s1 (by decide)
  have e2 := e_one c 32 s1 (by decide)
  have e3 := e_one c 35 s1 (by decide)
  have tt := token_at k hl hs hi
  rw [hw] at tt
  have g3 : ts.length < 16777216 := by omega
  have g4 : w.length ≤ 16777216 := by omega
  have g1' : cs.length ≤ 16777216 := by omega
  have sb := eqD_str hk ok_bad
  by_cases hb : kd = "bad"
  · subst hb
    rw [if_pos rfl]
    have sb' : eqD (.str "bad") (.str "bad") = some true := by
      rw [sb]
      simp
    simp only [wbody, i_f_token_list, lnl, lsp, lha]
    simp only [exSs, x_asg, x_asgN, x_aug, x_app, x_set, x_clr, x_frz, x_ife, x_ret, x_retO, x_retN, x_brk, x_cnt, x_pass, asgD, evE, evEs, evAnd, evOr, evI, evO, evN, getS, getB, ownL, asgD, outD_rt, outD_nx, binD, addD, intD, augD, ordD, cmpD, asC, isD, isnotD, isnD, isiD, lenD, biD, asB, asI, asL, startD, ixD, seqO_nx, seqO_rt, seqO_bk, seqO_ct, seqO_non, Option.bind_some, Option.bind_none, Option.map_some, Option.map_none, List.getElem?_cons_zero, List.getElem?_cons_succ, List.length_cons, List.length_nil, List.map_cons, List.map_nil, List.set_cons_zero, List.set_cons_succ, List.replicate_succ, List.replicate_zero, List.cons_append, List.nil_append, Nat.reduceAdd, Nat.reduceSub, Nat.reduceLeDiff, Nat.zero_add, Nat.sub_self, Nat.reduceLT, sz, decide_eq_true_eq, decide_true, decide_false, if_true, if_false, ite_true, ite_false, Bool.false_eq_true, Bool.true_eq_false, Bool.not_true, Bool.not_false, not_true_eq_false, not_false_eq_true, eqD_int, eqD_ni, List.foldl_cons, List.foldl_nil, List.zip_cons_cons, List.zip_nil_left, Bool.not_eq_true', decide_eq_false_iff_not, reduceCtorEq, and_true, true_and, and_self, Int.cast_ofNat_Int, Int.natCast_add, Int.natCast_zero, Int.natCast_one, Int.reduceEq, Int.reduceNe, Int.reduceLT, Int.reduceLE, Int.reduceAdd, Int.reduceSub, Int.reduceMul, Int.reduceNeg, ne_eq, g1, g2, e, e2, e3, s2, s3, s4, tt, g3, sb', g4, g1', mk_len, tk]
  · rw [if_neg hb]
    simp only [wbody, i_f_token_list, lnl, lsp, lha]
    simp only [exSs, x_asg, x_asgN, x_aug, x_app, x_set, x_clr, x_frz, x_ife, x_ret, x_retO, x_retN, x_brk, x_cnt, x_pass, asgD, evE, evEs, evAnd, evOr, evI, evO, evN, getS, getB, ownL, asgD, outD_rt, outD_nx, binD, addD, intD, augD, ordD, cmpD, asC, isD, isnotD, isnD, isiD, lenD, biD, asB, asI, asL, startD, ixD, seqO_nx, seqO_rt, seqO_bk, seqO_ct, seqO_non, Option.bind_some, Option.bind_none, Option.map_some, Option.map_none, List.getElem?_cons_zero, List.getElem?_cons_succ, List.length_cons, List.length_nil, List.map_cons, List.map_nil, List.set_cons_zero, List.set_cons_succ, List.replicate_succ, List.replicate_zero, List.cons_append, List.nil_append, Nat.reduceAdd, Nat.reduceSub, Nat.reduceLeDiff, Nat.zero_add, Nat.sub_self, Nat.reduceLT, sz, decide_eq_true_eq, decide_true, decide_false, if_true, if_false, ite_true, ite_false, Bool.false_eq_true, Bool.true_eq_false, Bool.not_true, Bool.not_false, not_true_eq_false, not_false_eq_true, eqD_int, eqD_ni, List.foldl_cons, List.foldl_nil, List.zip_cons_cons, List.zip_nil_left, Bool.not_eq_true', decide_eq_false_iff_not, reduceCtorEq, and_true, true_and, and_self, Int.cast_ofNat_Int, Int.natCast_add, Int.natCast_zero, Int.natCast_one, Int.reduceEq, Int.reduceNe, Int.reduceLT, Int.reduceLE, Int.reduceAdd, Int.reduceSub, Int.reduceMul, Int.reduceNeg, ne_eq, g1, g2, e, e2, e3, s2, s3, s4, tt, g3, sb, hb, g4, g1', mk_len, tk]
end
theorem lem : ("" : Str) = mkS [] := by decide +kernel
theorem drop_at {cs : List Nat} {i c : Nat} (h : cs[i]? = some c) : cs.drop i = c :: cs.drop (i + 1) := by
  have hi := (List.getElem?_eq_some_iff.mp h).1
  rw [List.drop_eq_getElem_cons hi, (List.getElem?_eq_some_iff.mp h).2]
theorem tl_loop (k : Nat) {cs : List Nat} (hl : cs.length ≤ 3900) (hs : ∀ c ∈ cs, c < 128) : ∀ (n i : Nat) (ts : List D) (row rs : Int) (a b d : SV), i ≤ cs.length → cs.length - i < n → ts.length ≤ i →
    outD (seqO (whlD (fun ρ => (evE gs (C (k + 3)) wcond ρ).bind asB) (fun ρ => exSs gs (C (k + 3)) 5000 wbody ρ) n (ST cs ts row rs i a b d)) fun ρ => exSs gs (C (k + 3)) 5000 wrest ρ) = some (true, .list (ts ++ tl (cs.drop i) 0 row ((i : Int) - rs + 1)))
  | 0, i, _, _, _, _, _, _, _, h, _ => absurd h (Nat.not_lt_zero _)
  | n + 1, i, ts, row, rs, a, b, d, hi, hn, ht => by
    have cnd : (evE gs (C (k + 3)) wcond (ST cs ts row rs i a b d)).bind asB = some (decide ((i : Int) < (cs.length : Int))) := by
      have g1' : cs.length ≤ 16777216 := by omega
      simp only [wcond, i_f_token_list]
      simp only [exSs, x_asg, x_asgN, x_aug, x_app, x_set, x_clr, x_frz, x_ife, x_ret, x_retO, x_retN, x_brk, x_cnt, x_pass, asgD, evE, evEs, evAnd, evOr, evI, evO, evN, getS, getB, ownL, asgD, outD_rt, outD_nx, binD, addD, intD, augD, ordD, cmpD, asC, isD, isnotD, isnD, isiD, lenD, biD, asB, asI, asL, startD, ixD, seqO_nx, seqO_rt, seqO_bk, seqO_ct, seqO_non, Option.bind_some, Option.bind_none, Option.map_some, Option.map_none, List.getElem?_cons_zero, List.getElem?_cons_succ, List.length_cons, List.length_nil, List.map_cons, List.map_nil, List.set_cons_zero, List.set_cons_succ, List.replicate_succ, List.replicate_zero, List.cons_append, List.nil_append, Nat.reduceAdd, Nat.reduceSub, Nat.reduceLeDiff, Nat.zero_add, Nat.sub_self, Nat.reduceLT, sz, decide_eq_true_eq, decide_true, decide_false, if_true, if_false, ite_true, ite_false, Bool.false_eq_true, Bool.true_eq_false, Bool.not_true, Bool.not_false, not_true_eq_false, not_false_eq_true, eqD_int, eqD_ni, List.foldl_cons, List.foldl_nil, List.zip_cons_cons, List.zip_nil_left, Bool.not_eq_true', decide_eq_false_iff_not, reduceCtorEq, and_true, true_and, and_self, Int.cast_ofNat_Int, Int.natCast_add, Int.natCast_zero, Int.natCast_one, Int.reduceEq, Int.reduceNe, Int.reduceLT, Int.reduceLE, Int.reduceAdd, Int.reduceSub, Int.reduceMul, Int.reduceNeg, ne_eq, mk_len, g1']
    simp only [whlD, cnd]
    by_cases he : i < cs.length
    · have he' : (i : Int) < (cs.length : Int) := by exact_mod_cast he
      obtain ⟨c, h⟩ : ∃ c, cs[i]? = some c := ⟨_, List.getElem?_eq_getElem he⟩
      simp only [he', decide_true]
      have hd := drop_at h
      by_cases s2 : c = 10
      · subst s2
        rw [w_nl (by omega) h]
        have ih := tl_loop k hl hs n (i + 1) ts (row + 1) ((i : Int) + 1) (some (false, .str (mkS [10]))) b d (by omega) (by omega) (by omega)
        simp only
        rw [show (((i + 1 : Nat) : Int)) = (i : Int) + 1 by simp] at ih
        rw [ih, hd, tl, if_pos rfl]
        rw [show (i : Int) + 1 - ((i : Int) + 1) + 1 = 1 by omega]
      · by_cases s3 : c = 32
        · subst s3
          rw [w_sp (by omega) h]
          have ih := tl_loop k hl hs n (i + 1) ts row rs (some (false, .str (mkS [32]))) b d (by omega) (by omega) (by omega)
          simp only
          rw [show (((i + 1 : Nat) : Int)) = (i : Int) + 1 by simp] at ih
          rw [ih, hd, tl, if_neg s2, if_pos rfl]
          rw [show (i : Int) + 1 - rs + 1 = (i : Int) - rs + 1 + 1 by omega]
        · by_cases s4 : c = 35
          · subst s4
            have e : toNl (cs.drop i) = toNl (cs.drop (i + 1)) + 1 := by
              rw [hd]
              rfl
            have hle := toNl_le (cs.drop (i + 1))
            rw [List.length_drop] at hle
            rw [w_rem (by omega) h]
            have ih := tl_loop k hl hs n (i + toNl (cs.drop i)) ts row rs (some (false, .str (mkS [35]))) b d (by omega) (by omega) (by omega)
            simp only
            rw [ih, hd, tl, if_neg s2, if_neg s3, if_pos rfl, tl_skip (toNl (cs.drop (i + 1))) (cs.drop (i + 1)) row _ (by rw [List.length_drop]; exact hle), List.drop_drop]
            have e' : toNl (35 :: cs.drop (i + 1)) = toNl (cs.drop (i + 1)) + 1 := rfl
            rw [e']
            rw [show i + 1 + toNl (cs.drop (i + 1)) = i + (toNl (cs.drop (i + 1)) + 1) by omega]
            rw [show ((i + (toNl (cs.drop (i + 1)) + 1) : Nat) : Int) - rs + 1 = (i : Int) - rs + 1 + 1 + (toNl (cs.drop (i + 1)) : Int) by omega]
          · obtain ⟨k1, k2, k3⟩ := tka_ok c (cs.drop (i + 1))
            have hlen : (c :: cs.drop (i + 1)).length = cs.length - i := by
              rw [← hd, List.length_drop]
            rw [hlen] at k3
            rw [← hd] at k1 k2 k3
            have wt := w_tok (k := k) (by omega) hs h s2 s3 s4 ts (by omega) row rs a b d (tka (cs.drop i)).1 (tka (cs.drop i)).2 rfl k1 (by omega)
            rw [wt]
            rw [show tl (cs.drop i) 0 row ((i : Int) - rs + 1) = tl (c :: cs.drop (i + 1)) 0 row ((i : Int) - rs + 1) by rw [hd]]
            rw [tl, if_neg s2, if_neg s3, if_neg s4, ← hd]
            by_cases hb : (tka (cs.drop i)).1 = "bad"
            · rw [if_pos hb, if_pos hb, hb]
              rfl
            · rw [if_neg hb, if_neg hb]
              have ih := tl_loop k hl hs n (i + (tka (cs.drop i)).2.length) (ts ++ [tk (tka (cs.drop i)).1 (tka (cs.drop i)).2 row ((i : Int) - rs + 1)]) row rs (some (false, .str (mkS [c]))) (some (false, .str (tka (cs.drop i)).1)) (some (false, .str (mkS (tka (cs.drop i)).2))) (by omega) (by omega) (by simp; omega)
              generalize tka (cs.drop i) = p at k2 k3 ih ⊢
              rw [Int.natCast_add] at ih
              simp only
              rw [ih, List.append_assoc]
              rw [tl_skip (p.2.length - 1) (cs.drop (i + 1)) row _ (by rw [List.length_drop]; omega), List.drop_drop]
              rw [show i + 1 + (p.2.length - 1) = i + p.2.length by omega]
              rw [show (i : Int) + (p.2.length : Int) - rs + 1 = (i : Int) - rs + 1 + 1 + ((p.2.length - 1 : Nat) : Int) by omega]
              rfl
    · have he' : ¬ (i : Int) < (cs.length : Int) := by
        intro h
        exact he (by exact_mod_cast h)
      have hx : i = cs.length := by omega
      subst hx
      have g3 : ts.length < 16777216 := by omega
      rw [List.drop_length]
      simp only [he', decide_false, tl, tk, ← lem]
      simp only [wrest, i_f_token_list]
      simp only [exSs, x_asg, x_asgN, x_aug, x_app, x_set, x_clr, x_frz, x_ife, x_ret, x_retO, x_retN, x_brk, x_cnt, x_pass, asgD, evE, evEs, evAnd, evOr, evI, evO, evN, getS, getB, ownL, asgD, outD_rt, outD_nx, binD, addD, intD, augD, ordD, cmpD, asC, isD, isnotD, isnD, isiD, lenD, biD, asB, asI, asL, startD, ixD, seqO_nx, seqO_rt, seqO_bk, seqO_ct, seqO_non, Option.bind_some, Option.bind_none, Option.map_some, Option.map_none, List.getElem?_cons_zero, List.getElem?_cons_succ, List.length_cons, List.length_nil, List.map_cons, List.map_nil, List.set_cons_zero, List.set_cons_succ, List.replicate_succ, List.replicate_zero, List.cons_append, List.nil_append, Nat.reduceAdd, Nat.reduceSub, Nat.reduceLeDiff, Nat.zero_add, Nat.sub_self, Nat.reduceLT, sz, decide_eq_true_eq, decide_true, decide_false, if_true, if_false, ite_true, ite_false, Bool.false_eq_true, Bool.true_eq_false, Bool.not_true, Bool.not_false, not_true_eq_false, not_false_eq_true, eqD_int, eqD_ni, List.foldl_cons, List.foldl_nil, List.zip_cons_cons, List.zip_nil_left, Bool.not_eq_true', decide_eq_false_iff_not, reduceCtorEq, and_true, true_and, and_self, Int.cast_ofNat_Int, Int.natCast_add, Int.natCast_zero, Int.natCast_one, Int.reduceEq, Int.reduceNe, Int.reduceLT, Int.reduceLE, Int.reduceAdd, Int.reduceSub, Int.reduceMul, Int.reduceNeg, ne_eq, g3]
theorem c0 {k ds} (h : ds.length = 1) : C (k + 1) 0 ds = outD (exSs gs (C k) 5000 i_f_token_list (startD 8 ds)) := call_step (fn := ⟨1, 8, i_f_token_list⟩) rfl h (by decide)
/-- what the program tells of a text -/
theorem token_list (k : Nat) {cs : List Nat} (hl : cs.length ≤ 3900) (hs : ∀ c ∈ cs, c < 128) : C (k + 4) 0 [.str (mkS cs)] = some (true, .list (tl cs 0 1 1)) := by
  rw [c0 rfl]
  have st : exSs gs (C (k + 3)) 5000 i_f_token_list (startD 8 [.str (mkS cs)]) = seqO (whlD (fun ρ => (evE gs (C (k + 3)) wcond ρ).bind asB) (fun ρ => exSs gs (C (k + 3)) 5000 wbody ρ) 5000 (ST cs [] 1 0 ((0 : Nat) : Int) none none none)) fun ρ => exSs gs (C (k + 3)) 5000 wrest ρ := by
    simp only [i_f_token_list]
    simp only [exSs, x_asg, x_asgN, x_aug, x_app, x_set, x_clr, x_frz, x_ife, x_ret, x_retO, x_retN, x_brk, x_cnt, x_pass, asgD, evE, evEs, evAnd, evOr, evI, evO, evN, getS, getB, ownL, asgD, outD_rt, outD_nx, binD, addD, intD, augD, ordD, cmpD, asC, isD, isnotD, isnD, isiD, lenD, biD, asB, asI, asL, startD, ixD, seqO_nx, seqO_rt, seqO_bk, seqO_ct, seqO_non, Option.bind_some, Option.bind_none, Option.map_some, Option.map_none, List.getElem?_cons_zero, List.getElem?_cons_succ, List.length_cons, List.length_nil, List.map_cons, List.map_nil, List.set_cons_zero, List.set_cons_succ, List.replicate_succ, List.replicate_zero, List.cons_append, List.nil_append, Nat.reduceAdd, Nat.reduceSub, Nat.reduceLeDiff, Nat.zero_add, Nat.sub_self, Nat.reduceLT, sz, decide_eq_true_eq, decide_true, decide_false, if_true, if_false, ite_true, ite_false, Bool.false_eq_true, Bool.true_eq_false, Bool.not_true, Bool.not_false, not_true_eq_false, not_false_eq_true, eqD_int, eqD_ni, List.foldl_cons, List.foldl_nil, List.zip_cons_cons, List.zip_nil_left, Bool.not_eq_true', decide_eq_false_iff_not, reduceCtorEq, and_true, true_and, and_self, Int.cast_ofNat_Int, Int.natCast_add, Int.natCast_zero, Int.natCast_one, Int.reduceEq, Int.reduceNe, Int.reduceLT, Int.reduceLE, Int.reduceAdd, Int.reduceSub, Int.reduceMul, Int.reduceNeg, ne_eq, exS]
    rfl
  rw [st, tl_loop k hl hs 5000 0 [] 1 0 none none none (by omega) (by omega) (by simp)]
  rfl
end K02
end
section
namespace K02
open PySem PySem.Spec L2 Ev
/-- the place behind a text -/
def mv : List Nat → Int → Int → Int × Int
  | [], row, col => (row, col)
  | c :: r, row, col => if c = 10 then mv r (row + 1) 1 else mv r row (col + 1)
/-- a gap between tokens: spaces, line feeds, remarks to their line feed -/
inductive Gp : List Nat → Prop
  | nil : Gp []
  | sp {g : List Nat} : Gp g → Gp (32 :: g)
  | nl {g : List Nat} : Gp g → Gp (10 :: g)
  | rem {b g : List Nat} : (∀ c ∈ b, c ≠ 10) → Gp g → Gp (35 :: (b ++ 10 :: g))
theorem toNl_app {b : List Nat} (h : ∀ c ∈ b, c ≠ 10) (r : List Nat) : toNl (b ++ 10 :: r) = b.length := by
  induction b with
  | nil => rfl
  | cons c b ih =>
    have h1 := h c List.mem_cons_self
    have := ih fun d hd => h d (List.mem_cons_of_mem _ hd)
    unfold toNl at this ⊢
    rw [List.cons_append, List.takeWhile_cons_of_pos (by simpa using h1), List.length_cons, this, List.length_cons]
theorem mv_app : ∀ (a b : List Nat) (row col : Int), mv (a ++ b) row col = mv b (mv a row col).1 (mv a row col).2
  | [], b, row, col => rfl
  | c :: a, b, row, col => by
    rw [List.cons_append, mv, mv]
    split
    · exact mv_app a b _ _
    · exact mv_app a b _ _
theorem mv_flat : ∀ (a : List Nat) (row col : Int), (∀ c ∈ a, c ≠ 10) → mv a row col = (row, col + (a.length : Int))
  | [], row, col, _ => by simp [mv]
  | c :: a, row, col, h => by
    rw [mv, if_neg (h c List.mem_cons_self), mv_flat a row (col + 1) fun d hd => h d (List.mem_cons_of_mem _ hd)]
    simp
    omega
theorem tl_gap {g : List Nat} (h : Gp g) : ∀ (r : List Nat) (row col : Int), tl (g ++ r) 0 row col = tl r 0 (mv g row col).1 (mv g row col).2 := by
  induction h with
  | nil => intro r row col; rfl
  | sp _ ih =>
    intro r row col
    rw [List.cons_append, tl, if_neg (by decide), if_pos rfl, mv, if_neg (by decide), ih]
  | nl _ ih =>
    intro r row col
    rw [List.cons_append, tl, if_pos rfl, mv, if_pos rfl, ih]
  | @rem b g hb _ ih =>
    intro r row col
    have e1 : (35 :: (b ++ 10 :: g)) ++ r = 35 :: (b ++ 10 :: (g ++ r)) := by simp
    rw [e1, tl, if_neg (by decide), if_neg (by decide), if_pos rfl, toNl_app hb]
    rw [tl_skip b.length (b ++ 10 :: (g ++ r)) row (col + 1) (by simp), List.drop_left, tl, if_pos rfl, ih]
    rw [mv, if_neg (by decide), mv_app b (10 :: g), mv, if_pos rfl, mv_flat b row (col + 1) hb]
/-- a token, where nothing behind it joins -/
theorem tl_word {w : List Nat} {kd : Str} (hw : w ≠ []) (h1 : ∀ c ∈ w, c ≠ 10 ∧ c ≠ 32 ∧ c ≠ 35) (r : List Nat) (hk : tka (w ++ r) = (kd, w)) (hb : kd ≠ "bad") (row col : Int) : tl (w ++ r) 0 row col = tk kd w row col :: tl r 0 row (col + (w.length : Int)) := by
  cases w with
  | nil => exact absurd rfl hw
  | cons c w =>
    obtain ⟨a1, a2, a3⟩ := h1 c List.mem_cons_self
    rw [List.cons_append] at hk ⊢
    rw [tl, if_neg a1, if_neg a2, if_neg a3, hk]
    simp only
    rw [if_neg hb]
    congr 1
    rw [tl_skip _ (w ++ r) row (col + 1) (by simp)]
    simp only [List.length_cons, Nat.add_sub_cancel]
    rw [List.drop_left]
    rw [show col + 1 + (w.length : Int) = col + ((w.length + 1 : Nat) : Int) by omega]
/-- a run of letters and digits -/
theorem tka_run {w : List Nat} (hw : w ≠ []) (h : ∀ c ∈ w, isrun c = true) (r : List Nat) (hr : ∀ d, r.head? = some d → isrun d = false) : tka (w ++ r) = (rk w, w) := by
  have e : (w ++ r).takeWhile isrun = w := by
    rw [List.takeWhile_append_of_pos h]
    cases r with
    | nil => simp
    | cons d r =>
      rw [List.takeWhile_cons_of_neg (by rw [hr d rfl]; simp)]
      simp
  cases w with
  | nil => exact absurd rfl hw
  | cons c w =>
    rw [List.cons_append] at e ⊢
    unfold tka
    simp only
    rw [if_pos (h c List.mem_cons_self), e]
end K02
end
section
namespace K02
open PySem PySem.Spec L2 Ev
theorem tka_sign2 {c d : Nat} (h1 : isrun c = false) (h2 : loB [c, d] = true) (r : List Nat) : tka (c :: d :: r) = (("sign" : Str), [c, d]) := by
  unfold tka
  simp only
  rw [if_neg (by rw [h1]; simp)]
  show (if loB [c, d] = true then _ else _) = _
  rw [if_pos h2]
  rfl
theorem tka_sign1 {c : Nat} (h1 : isrun c = false) (h2 : loB [c] = false) (h3 : shB [c] = true) (r : List Nat) (hr : ∀ d, r.head? = some d → loB [c, d] = false) : tka (c :: r) = (("sign" : Str), [c]) := by
  unfold tka
  simp only
  rw [if_neg (by rw [h1]; simp)]
  have : loB ((c :: r).take 2) = false := by
    cases r with
    | nil => exact h2
    | cons d r => exact hr d rfl
  rw [if_neg (by rw [this]; simp), if_pos h3]
/-! the law's defs -/
theorem c19 {k ds} (h : ds.length = 2) : C (k + 1) 19 ds = outD (exSs gs (C k) 5000 i_f_L_moved (startD 5 ds)) := call_step (fn := ⟨2, 5, i_f_L_moved⟩) rfl h (by decide)
theorem c18 {k ds} (h : ds.length = 2) : C (k + 1) 18 ds = outD (exSs gs (C k) 5000 i_f_L_joined (startD 3 ds)) := call_step (fn := ⟨2, 3, i_f_L_joined⟩) rfl h (by decide)
theorem c16 {k ds} (h : ds.length = 1) : C (k + 1) 16 ds = outD (exSs gs (C k) 5000 i_f_L_remark (startD 3 ds)) := call_step (fn := ⟨1, 3, i_f_L_remark⟩) rfl h (by decide)
theorem c17 {k ds} (h : ds.length = 2) : C (k + 1) 17 ds = outD (exSs gs (C k) 5000 i_f_L_gap (startD 3 ds)) := call_step (fn := ⟨2, 3, i_f_L_gap⟩) rfl h (by decide)
theorem moved (k : Nat) (w : List Nat) (hw : ∀ c ∈ w, c < 128) (r c : Int) : C (k + 1) 19 [.list [.int r, .int c], .str (mkS w)] = some (false, .list [.int (mv w r c).1, .int (mv w r c).2]) := by
  rw [c19 rfl]
  simp only [exSs, x_asg, x_asgN, x_aug, x_app, x_set, x_clr, x_frz, x_ife, x_ret, x_retO, x_retN, x_brk, x_cnt, x_pass, asgD, evE, evEs, evAnd, evOr, evI, evO, evN, getS, getB, ownL, asgD, outD_rt, outD_nx, binD, addD, intD, augD, ordD, cmpD, asC, isD, isnotD, isnD, isiD, lenD, biD, asB, asI, asL, startD, ixD, seqO_nx, seqO_rt, seqO_bk, seqO_ct, seqO_non, Option.bind_some, Option.bind_none, Option.map_some, Option.map_none, List.getElem?_cons_zero, List.getElem?_cons_succ, List.length_cons, List.length_nil, List.map_cons, List.map_nil, List.set_cons_zero, List.set_cons_succ, List.replicate_succ, List.replicate_zero, List.cons_append, List.nil_append, Nat.reduceAdd, Nat.reduceSub, Nat.reduceLeDiff, Nat.zero_add, Nat.sub_self, Nat.reduceLT, sz, decide_eq_true_eq, decide_true, decide_false, if_true, if_false, ite_true, ite_false, Bool.false_eq_true, Bool.true_eq_false, Bool.not_true, Bool.not_false, not_true_eq_false, not_false_eq_true, eqD_int, eqD_ni, List.foldl_cons, List.foldl_nil, List.zip_cons_cons, List.zip_nil_left, Bool.not_eq_true', decide_eq_false_iff_not, reduceCtorEq, and_true, true_and, and_self, Int.cast_ofNat_Int, Int.natCast_add, Int.natCast_zero, Int.natCast_one, Int.reduceEq, Int.reduceNe, Int.reduceLT, Int.reduceLE, Int.reduceAdd, Int.reduceSub, Int.reduceMul, Int.reduceNeg, ne_eq, i_f_L_moved, at0, at1]
  refine for_goal (fun o => outD o = some (false, .list [.int (mv w r c).1, .int (mv w r c).2])) (ds := w.map fun c => .str ⟨#[c]⟩) (fun i ρ => ∃ row col a, ρ = [some (false, .list [.int r, .int c]), some (false, .str (mkS w)), some (false, .int row), some (false, .int col), a] ∧ mv w r c = mv (w.drop i) row col) (by simp only [exSs, x_asg, x_asgN, x_aug, x_app, x_set, x_clr, x_frz, x_ife, x_ret, x_retO, x_retN, x_brk, x_cnt, x_pass, asgD, evE, evEs, evAnd, evOr, evI, evO, evN, getS, getB, ownL, asgD, outD_rt, outD_nx, binD, addD, intD, augD, ordD, cmpD, asC, isD, isnotD, isnD, isiD, lenD, biD, asB, asI, asL, startD, ixD, seqO_nx, seqO_rt, seqO_bk, seqO_ct, seqO_non, Option.bind_some, Option.bind_none, Option.map_some, Option.map_none, List.getElem?_cons_zero, List.getElem?_cons_succ, List.length_cons, List.length_nil, List.map_cons, List.map_nil, List.set_cons_zero, List.set_cons_succ, List.replicate_succ, List.replicate_zero, List.cons_append, List.nil_append, Nat.reduceAdd, Nat.reduceSub, Nat.reduceLeDiff, Nat.zero_add, Nat.sub_self, Nat.reduceLT, sz, decide_eq_true_eq, decide_true, decide_false, if_true, if_false, ite_true, ite_false, Bool.false_eq_true, Bool.true_eq_false, Bool.not_true, Bool.not_false, not_true_eq_false, not_false_eq_true, eqD_int, eqD_ni, List.foldl_cons, List.foldl_nil, List.zip_cons_cons, List.zip_nil_left, Bool.not_eq_true', decide_eq_false_iff_not, reduceCtorEq, and_true, true_and, and_self, Int.cast_ofNat_Int, Int.natCast_add, Int.natCast_zero, Int.natCast_one, Int.reduceEq, Int.reduceNe, Int.reduceLT, Int.reduceLE, Int.reduceAdd, Int.reduceSub, Int.reduceMul, Int.reduceNeg, ne_eq]) ⟨r, c, none, rfl, rfl⟩ (fun i d ρ hd hp => ?_) ?_
  · obtain ⟨row, col, a, rfl, hm⟩ := hp
    rw [List.getElem?_map] at hd
    obtain ⟨x, hx, rfl⟩ := Option.map_eq_some_iff.mp hd
    have hx' := hw x (List.mem_of_getElem? hx)
    have hdr : w.drop i = x :: w.drop (i + 1) := by
      have hi := (List.getElem?_eq_some_iff.mp hx).1
      rw [List.drop_eq_getElem_cons hi, (List.getElem?_eq_some_iff.mp hx).2]
    rw [hdr, mv] at hm
    have e := e_one x 10 hx' (by decide)
    by_cases h : x = 10
    · subst h
      have e' : eqD (.str (mkS [10])) (.str (mkS [10])) = some true := by
        rw [e]
        rfl
      rw [if_pos rfl] at hm
      refine ⟨_, [some (false, .list [.int r, .int c]), some (false, .str (mkS w)), some (false, .int (row + 1)), some (false, .int 1), some (false, .str (mkS [10]))], rfl, .inl ?_, _, _, _, rfl, hm⟩
      rw [lnl]
      simp only [exSs, x_asg, x_asgN, x_aug, x_app, x_set, x_clr, x_frz, x_ife, x_ret, x_retO, x_retN, x_brk, x_cnt, x_pass, asgD, evE, evEs, evAnd, evOr, evI, evO, evN, getS, getB, ownL, asgD, outD_rt, outD_nx, binD, addD, intD, augD, ordD, cmpD, asC, isD, isnotD, isnD, isiD, lenD, biD, asB, asI, asL, startD, ixD, seqO_nx, seqO_rt, seqO_bk, seqO_ct, seqO_non, Option.bind_some, Option.bind_none, Option.map_some, Option.map_none, List.getElem?_cons_zero, List.getElem?_cons_succ, List.length_cons, List.length_nil, List.map_cons, List.map_nil, List.set_cons_zero, List.set_cons_succ, List.replicate_succ, List.replicate_zero, List.cons_append, List.nil_append, Nat.reduceAdd, Nat.reduceSub, Nat.reduceLeDiff, Nat.zero_add, Nat.sub_self, Nat.reduceLT, sz, decide_eq_true_eq, decide_true, decide_false, if_true, if_false, ite_true, ite_false, Bool.false_eq_true, Bool.true_eq_false, Bool.not_true, Bool.not_false, not_true_eq_false, not_false_eq_true, eqD_int, eqD_ni, List.foldl_cons, List.foldl_nil, List.zip_cons_cons, List.zip_nil_left, Bool.not_eq_true', decide_eq_false_iff_not, reduceCtorEq, and_true, true_and, and_self, Int.cast_ofNat_Int, Int.natCast_add, Int.natCast_zero, Int.natCast_one, Int.reduceEq, Int.reduceNe, Int.reduceLT, Int.reduceLE, Int.reduceAdd, Int.reduceSub, Int.reduceMul, Int.reduceNeg, ne_eq, e']
    · rw [if_neg h] at hm
      refine ⟨_, [some (false, .list [.int r, .int c]), some (false, .str (mkS w)), some (false, .int row), some (false, .int (col + 1)), some (false, .str (mkS [x]))], rfl, .inl ?_, _, _, _, rfl, hm⟩
      rw [lnl]
      simp only [exSs, x_asg, x_asgN, x_aug, x_app, x_set, x_clr, x_frz, x_ife, x_ret, x_retO, x_retN, x_brk, x_cnt, x_pass, asgD, evE, evEs, evAnd, evOr, evI, evO, evN, getS, getB, ownL, asgD, outD_rt, outD_nx, binD, addD, intD, augD, ordD, cmpD, asC, isD, isnotD, isnD, isiD, lenD, biD, asB, asI, asL, startD, ixD, seqO_nx, seqO_rt, seqO_bk, seqO_ct, seqO_non, Option.bind_some, Option.bind_none, Option.map_some, Option.map_none, List.getElem?_cons_zero, List.getElem?_cons_succ, List.length_cons, List.length_nil, List.map_cons, List.map_nil, List.set_cons_zero, List.set_cons_succ, List.replicate_succ, List.replicate_zero, List.cons_append, List.nil_append, Nat.reduceAdd, Nat.reduceSub, Nat.reduceLeDiff, Nat.zero_add, Nat.sub_self, Nat.reduceLT, sz, decide_eq_true_eq, decide_true, decide_false, if_true, if_false, ite_true, ite_false, Bool.false_eq_true, Bool.true_eq_false, Bool.not_true, Bool.not_false, not_true_eq_false, not_false_eq_true, eqD_int, eqD_ni, List.foldl_cons, List.foldl_nil, List.zip_cons_cons, List.zip_nil_left, Bool.not_eq_true', decide_eq_false_iff_not, reduceCtorEq, and_true, true_and, and_self, Int.cast_ofNat_Int, Int.natCast_add, Int.natCast_zero, Int.natCast_one, Int.reduceEq, Int.reduceNe, Int.reduceLT, Int.reduceLE, Int.reduceAdd, Int.reduceSub, Int.reduceMul, Int.reduceNeg, ne_eq, e, h]
  · rintro ρ ⟨row, col, a, rfl, hm⟩
    rw [List.length_map, List.drop_length] at hm
    rw [hm]
    simp only [exSs, x_asg, x_asgN, x_aug, x_app, x_set, x_clr, x_frz, x_ife, x_ret, x_retO, x_retN, x_brk, x_cnt, x_pass, asgD, evE, evEs, evAnd, evOr, evI, evO, evN, getS, getB, ownL, asgD, outD_rt, outD_nx, binD, addD, intD, augD, ordD, cmpD, asC, isD, isnotD, isnD, isiD, lenD, biD, asB, asI, asL, startD, ixD, seqO_nx, seqO_rt, seqO_bk, seqO_ct, seqO_non, Option.bind_some, Option.bind_none, Option.map_some, Option.map_none, List.getElem?_cons_zero, List.getElem?_cons_succ, List.length_cons, List.length_nil, List.map_cons, List.map_nil, List.set_cons_zero, List.set_cons_succ, List.replicate_succ, List.replicate_zero, List.cons_append, List.nil_append, Nat.reduceAdd, Nat.reduceSub, Nat.reduceLeDiff, Nat.zero_add, Nat.sub_self, Nat.reduceLT, sz, decide_eq_true_eq, decide_true, decide_false, if_true, if_false, ite_true, ite_false, Bool.false_eq_true, Bool.true_eq_false, Bool.not_true, Bool.not_false, not_true_eq_false, not_false_eq_true, eqD_int, eqD_ni, List.foldl_cons, List.foldl_nil, List.zip_cons_cons, List.zip_nil_left, Bool.not_eq_true', decide_eq_false_iff_not, reduceCtorEq, and_true, true_and, and_self, Int.cast_ofNat_Int, Int.natCast_add, Int.natCast_zero, Int.natCast_one, Int.reduceEq, Int.reduceNe, Int.reduceLT, Int.reduceLE, Int.reduceAdd, Int.reduceSub, Int.reduceMul, Int.reduceNeg, ne_eq, mv]
def jn (b w : List Nat) : Bool := match b.getLast?, w.head? with
  | some x, some y => if (isrun x && isrun y) = true then true else (decide (b = [61]) || (decide (b = [60]) || (decide (b = [62]) || decide (b = [33])))) && decide (y = 61)
  | _, _ => false
abbrev runS : Str := "abcdefghijklmnopqrstuvwxyz0123456789"
theorem run_mem : ∀ c : Nat, c < 128 → decide (c ∈ runS.cps.toList) = isrun c := by decide +kernel
theorem in_runs {c : Nat} (h : c < 128) : inD2 (.str (mkS [c])) (.str runS) = some (.bool (isrun c)) := by
  show some (PyData.bool (!(Builtin.Str.occurrences runS ⟨#[c]⟩ 0 runS.length 1).isEmpty)) = _
  rw [PySem.StrLaws.found_one, run_mem c h]
def jn2 : Ss := match i_f_L_joined with
  | .cons _ r => r
  | _ => .nil
theorem jl (b : List Nat) : inD2 (.str (mkS b)) (.list [.str "=", .str "<", .str ">", .str "!"]) = some (.bool (decide (b = [61]) || (decide (b = [60]) || (decide (b = [62]) || decide (b = [33]))))) := by
  have e1 : ("=" : Str) = mkS [61] := by decide +kernel
  have e2 : ("<" : Str) = mkS [60] := by decide +kernel
  have e3 : (">" : Str) = mkS [62] := by decide +kernel
  have e4 : ("!" : Str) = mkS [33] := by decide +kernel
  show some (PyData.bool (decide (("=" : Str) = mkS b) || (decide (("<" : Str) = mkS b) || (decide ((">" : Str) = mkS b) || (decide (("!" : Str) = mkS b) || false))))) = _
  rw [e1, e2, e3, e4]
  simp only [mk_inj, Bool.or_false, eq_comm (b := b)]
theorem joined (k : Nat) (b w : List Nat) (hb : ∀ c ∈ b, c < 128) (hw : ∀ c ∈ w, c < 128) (lb : b.length ≤ 4000) (lw : w.length ≤ 4000) : C (k + 1) 18 [.str (mkS b), .str (mkS w)] = some (false, .bool (jn b w)) := by
  rw [c18 rfl]
  have l0 : ("" : Str) = mkS [] := lem
  have l1 : ("=" : Str) = mkS [61] := by decide +kernel
  have eb := eq_mk hb (b := []) (by simp)
  have ew := eq_mk hw (b := []) (by simp)
  have st : i_f_L_joined = .cons (.asg (.one 2) (.str runS)) jn2 := rfl
  have g1 : b.length ≤ 16777216 := by omega
  have g2 : w.length ≤ 16777216 := by omega
  cases b with
  | nil =>
    have eb' : eqD (.str (mkS [])) (.str (mkS [])) = some true := by
      rw [eb]
      rfl
    rw [st]
    simp only [exSs, x_asg, x_asgN, x_aug, x_app, x_set, x_clr, x_frz, x_ife, x_ret, x_retO, x_retN, x_brk, x_cnt, x_pass, asgD, evE, evEs, evAnd, evOr, evI, evO, evN, getS, getB, ownL, asgD, outD_rt, outD_nx, binD, addD, intD, augD, ordD, cmpD, asC, isD, isnotD, isnD, isiD, lenD, biD, asB, asI, asL, startD, ixD, seqO_nx, seqO_rt, seqO_bk, seqO_ct, seqO_non, Option.bind_some, Option.bind_none, Option.map_some, Option.map_none, List.getElem?_cons_zero, List.getElem?_cons_succ, List.length_cons, List.length_nil, List.map_cons, List.map_nil, List.set_cons_zero, List.set_cons_succ, List.replicate_succ, List.replicate_zero, List.cons_append, List.nil_append, Nat.reduceAdd, Nat.reduceSub, Nat.reduceLeDiff, Nat.zero_add, Nat.sub_self, Nat.reduceLT, sz, decide_eq_true_eq, decide_true, decide_false, if_true, if_false, ite_true, ite_false, Bool.false_eq_true, Bool.true_eq_false, Bool.not_true, Bool.not_false, not_true_eq_false, not_false_eq_true, eqD_int, eqD_ni, List.foldl_cons, List.foldl_nil, List.zip_cons_cons, List.zip_nil_left, Bool.not_eq_true', decide_eq_false_iff_not, reduceCtorEq, and_true, true_and, and_self, Int.cast_ofNat_Int, Int.natCast_add, Int.natCast_zero, Int.natCast_one, Int.reduceEq, Int.reduceNe, Int.reduceLT, Int.reduceLE, Int.reduceAdd, Int.reduceSub, Int.reduceMul, Int.reduceNeg, ne_eq]
    simp only [jn2, i_f_L_joined, l0]
    simp only [exSs, x_asg, x_asgN, x_aug, x_app, x_set, x_clr, x_frz, x_ife, x_ret, x_retO, x_retN, x_brk, x_cnt, x_pass, asgD, evE, evEs, evAnd, evOr, evI, evO, evN, getS, getB, ownL, asgD, outD_rt, outD_nx, binD, addD, intD, augD, ordD, cmpD, asC, isD, isnotD, isnD, isiD, lenD, biD, asB, asI, asL, startD, ixD, seqO_nx, seqO_rt, seqO_bk, seqO_ct, seqO_non, Option.bind_some, Option.bind_none, Option.map_some, Option.map_none, List.getElem?_cons_zero, List.getElem?_cons_succ, List.length_cons, List.length_nil, List.map_cons, List.map_nil, List.set_cons_zero, List.set_cons_succ, List.replicate_succ, List.replicate_zero, List.cons_append, List.nil_append, Nat.reduceAdd, Nat.reduceSub, Nat.reduceLeDiff, Nat.zero_add, Nat.sub_self, Nat.reduceLT, sz, decide_eq_true_eq, decide_true, decide_false, if_true, if_false, ite_true, ite_false, Bool.false_eq_true, Bool.true_eq_false, Bool.not_true, Bool.not_false, not_true_eq_false, not_false_eq_true, eqD_int, eqD_ni, List.foldl_cons, List.foldl_nil, List.zip_cons_cons, List.zip_nil_left, Bool.not_eq_true', decide_eq_false_iff_not, reduceCtorEq, and_true, true_and, and_self, Int.cast_ofNat_Int, Int.natCast_add, Int.natCast_zero, Int.natCast_one, Int.reduceEq, Int.reduceNe, Int.reduceLT, Int.reduceLE, Int.reduceAdd, Int.reduceSub, Int.reduceMul, Int.reduceNeg, ne_eq, eb']
    rfl
  | cons x0 b0 =>
    cases w with
    | nil =>
      have ew' : eqD (.str (mkS [])) (.str (mkS [])) = some true := by
        rw [ew]
        rfl
      rw [st]
      simp only [exSs, x_asg, x_asgN, x_aug, x_app, x_set, x_clr, x_frz, x_ife, x_ret, x_retO, x_retN, x_brk, x_cnt, x_pass, asgD, evE, evEs, evAnd, evOr, evI, evO, evN, getS, getB, ownL, asgD, outD_rt, outD_nx, binD, addD, intD, augD, ordD, cmpD, asC, isD, isnotD, isnD, isiD, lenD, biD, asB, asI, asL, startD, ixD, seqO_nx, seqO_rt, seqO_bk, seqO_ct, seqO_non, Option.bind_some, Option.bind_none, Option.map_some, Option.map_none, List.getElem?_cons_zero, List.getElem?_cons_succ, List.length_cons, List.length_nil, List.map_cons, List.map_nil, List.set_cons_zero, List.set_cons_succ, List.replicate_succ, List.replicate_zero, List.cons_append, List.nil_append, Nat.reduceAdd, Nat.reduceSub, Nat.reduceLeDiff, Nat.zero_add, Nat.sub_self, Nat.reduceLT, sz, decide_eq_true_eq, decide_true, decide_false, if_true, if_false, ite_true, ite_false, Bool.false_eq_true, Bool.true_eq_false, Bool.not_true, Bool.not_false, not_true_eq_false, not_false_eq_true, eqD_int, eqD_ni, List.foldl_cons, List.foldl_nil, List.zip_cons_cons, List.zip_nil_left, Bool.not_eq_true', decide_eq_false_iff_not, reduceCtorEq, and_true, true_and, and_self, Int.cast_ofNat_Int, Int.natCast_add, Int.natCast_zero, Int.natCast_one, Int.reduceEq, Int.reduceNe, Int.reduceLT, Int.reduceLE, Int.reduceAdd, Int.reduceSub, Int.reduceMul, Int.reduceNeg, ne_eq]
      simp only [jn2, i_f_L_joined, l0]
      simp only [exSs, x_asg, x_asgN, x_aug, x_app, x_set, x_clr, x_frz, x_ife, x_ret, x_retO, x_retN, x_brk, x_cnt, x_pass, asgD, evE, evEs, evAnd, evOr, evI, evO, evN, getS, getB, ownL, asgD, outD_rt, outD_nx, binD, addD, intD, augD, ordD, cmpD, asC, isD, isnotD, isnD, isiD, lenD, biD, asB, asI, asL, startD, ixD, seqO_nx, seqO_rt, seqO_bk, seqO_ct, seqO_non, Option.bind_some, Option.bind_none, Option.map_some, Option.map_none, List.getElem?_cons_zero, List.getElem?_cons_succ, List.length_cons, List.length_nil, List.map_cons, List.map_nil, List.set_cons_zero, List.set_cons_succ, List.replicate_succ, List.replicate_zero, List.cons_append, List.nil_append, Nat.reduceAdd, Nat.reduceSub, Nat.reduceLeDiff, Nat.zero_add, Nat.sub_self, Nat.reduceLT, sz, decide_eq_true_eq, decide_true, decide_false, if_true, if_false, ite_true, ite_false, Bool.false_eq_true, Bool.true_eq_false, Bool.not_true, Bool.not_false, not_true_eq_false, not_false_eq_true, eqD_int, eqD_ni, List.foldl_cons, List.foldl_nil, List.zip_cons_cons, List.zip_nil_left, Bool.not_eq_true', decide_eq_false_iff_not, reduceCtorEq, and_true, true_and, and_self, Int.cast_ofNat_Int, Int.natCast_add, Int.natCast_zero, Int.natCast_one, Int.reduceEq, Int.reduceNe, Int.reduceLT, Int.reduceLE, Int.reduceAdd, Int.reduceSub, Int.reduceMul, Int.reduceNeg, ne_eq, eb, ew']
      have : jn (x0 :: b0) [] = false := by
        unfold jn
        cases (x0 :: b0).getLast? <;> rfl
      rw [this]
    | cons y w =>
      obtain ⟨x, hx⟩ : ∃ x, (x0 :: b0).getLast? = some x := ⟨_, List.getLast?_eq_some_getLast (by simp)⟩
      have hxm : x ∈ x0 :: b0 := List.mem_of_getLast? hx
      have a1 : atI (x0 :: b0) (((x0 :: b0).length : Int) - 1) = some x := by
        rw [show (((x0 :: b0).length : Int) - 1) = (((x0 :: b0).length - 1 : Nat) : Int) by simp]
        rw [atI_ok (by simp), ← hx, List.getLast?_eq_getElem?]
        rw [List.getElem?_eq_getElem (by simp)]
      have a2 : atI (y :: w) 0 = some y := by
        have := atI_ok (xs := y :: w) (k := 0) (by simp)
        exact this
      have r1 := in_runs (hb x hxm)
      have r2 := in_runs (hw y List.mem_cons_self)
      have r3 := jl (x0 :: b0)
      have r4 := e_one y 61 (hw y List.mem_cons_self) (by decide)
      have jv : jn (x0 :: b0) (y :: w) = if (isrun x && isrun y) = true then true else (decide (x0 :: b0 = [61]) || (decide (x0 :: b0 = [60]) || (decide (x0 :: b0 = [62]) || decide (x0 :: b0 = [33])))) && decide (y = 61) := by
        unfold jn
        rw [hx]
        rfl
      rw [jv, st]
      rw [l1] at r3
      generalize (decide (x0 :: b0 = [61]) || (decide (x0 :: b0 = [60]) || (decide (x0 :: b0 = [62]) || decide (x0 :: b0 = [33])))) = q at r3 ⊢
      have eb' : eqD (.str (mkS (x0 :: b0))) (.str (mkS [])) = some false := by
        rw [eb]
        rfl
      have ew' : eqD (.str (mkS (y :: w))) (.str (mkS [])) = some false := by
        rw [ew]
        rfl
      generalize decide (y = 61) = z at r4 ⊢
      generalize x0 :: b0 = B at g1 a1 r3 eb' ⊢
      generalize y :: w = W at g2 a2 ew' ⊢
      simp only [exSs, x_asg, x_asgN, x_aug, x_app, x_set, x_clr, x_frz, x_ife, x_ret, x_retO, x_retN, x_brk, x_cnt, x_pass, asgD, evE, evEs, evAnd, evOr, evI, evO, evN, getS, getB, ownL, asgD, outD_rt, outD_nx, binD, addD, intD, augD, ordD, cmpD, asC, isD, isnotD, isnD, isiD, lenD, biD, asB, asI, asL, startD, ixD, seqO_nx, seqO_rt, seqO_bk, seqO_ct, seqO_non, Option.bind_some, Option.bind_none, Option.map_some, Option.map_none, List.getElem?_cons_zero, List.getElem?_cons_succ, List.length_cons, List.length_nil, List.map_cons, List.map_nil, List.set_cons_zero, List.set_cons_succ, List.replicate_succ, List.replicate_zero, List.cons_append, List.nil_append, Nat.reduceAdd, Nat.reduceSub, Nat.reduceLeDiff, Nat.zero_add, Nat.sub_self, Nat.reduceLT, sz, decide_eq_true_eq, decide_true, decide_false, if_true, if_false, ite_true, ite_false, Bool.false_eq_true, Bool.true_eq_false, Bool.not_true, Bool.not_false, not_true_eq_false, not_false_eq_true, eqD_int, eqD_ni, List.foldl_cons, List.foldl_nil, List.zip_cons_cons, List.zip_nil_left, Bool.not_eq_true', decide_eq_false_iff_not, reduceCtorEq, and_true, true_and, and_self, Int.cast_ofNat_Int, Int.natCast_add, Int.natCast_zero, Int.natCast_one, Int.reduceEq, Int.reduceNe, Int.reduceLT, Int.reduceLE, Int.reduceAdd, Int.reduceSub, Int.reduceMul, Int.reduceNeg, ne_eq]
      simp only [jn2, i_f_L_joined, l0, l1]
      cases h1 : isrun x <;> cases h2 : isrun y <;> cases q <;> cases z <;> rw [h1] at r1 <;> rw [h2] at r2 <;> simp only [exSs, x_asg, x_asgN, x_aug, x_app, x_set, x_clr, x_frz, x_ife, x_ret, x_retO, x_retN, x_brk, x_cnt, x_pass, asgD, evE, evEs, evAnd, evOr, evI, evO, evN, getS, getB, ownL, asgD, outD_rt, outD_nx, binD, addD, intD, augD, ordD, cmpD, asC, isD, isnotD, isnD, isiD, lenD, biD, asB, asI, asL, startD, ixD, seqO_nx, seqO_rt, seqO_bk, seqO_ct, seqO_non, Option.bind_some, Option.bind_none, Option.map_some, Option.map_none, List.getElem?_cons_zero, List.getElem?_cons_succ, List.length_cons, List.length_nil, List.map_cons, List.map_nil, List.set_cons_zero, List.set_cons_succ, List.replicate_succ, List.replicate_zero, List.cons_append, List.nil_append, Nat.reduceAdd, Nat.reduceSub, Nat.reduceLeDiff, Nat.zero_add, Nat.sub_self, Nat.reduceLT, sz, decide_eq_true_eq, decide_true, decide_false, if_true, if_false, ite_true, ite_false, Bool.false_eq_true, Bool.true_eq_false, Bool.not_true, Bool.not_false, not_true_eq_false, not_false_eq_true, eqD_int, eqD_ni, List.foldl_cons, List.foldl_nil, List.zip_cons_cons, List.zip_nil_left, Bool.not_eq_true', decide_eq_false_iff_not, reduceCtorEq, and_true, true_and, and_self, Int.cast_ofNat_Int, Int.natCast_add, Int.natCast_zero, Int.natCast_one, Int.reduceEq, Int.reduceNe, Int.reduceLT, Int.reduceLE, Int.reduceAdd, Int.reduceSub, Int.reduceMul, Int.reduceNeg, ne_eq, eb', ew', g1, g2, mk_len, a1, a2, r1, r2, r3, r4] <;> rfl
end K02
end
section
namespace K02
open PySem PySem.Spec L2 Ev
abbrev chS : Str := " !\"#$&'()*+,-./0123456789:;<=>?@ABCDEFGHIJKLMNOPQRSTUVWXYZ[\\]^_`abcdefghijklmnopqrstuvwxyz{|}~\t"
theorem ch_ok : ∀ c ∈ chS.cps.toList, c ≠ 10 ∧ c < 128 := by decide +kernel
theorem ch_len : chS.length ≤ 16777216 := by decide +kernel
theorem mk_app2 (a b : List Nat) : mkS a ++ mkS b = mkS (a ++ b) := by
  apply str_ext
  show (a.toArray ++ b.toArray).toList = _
  simp
theorem mo95 (a : Int) : modI a 95 = some (a.fmod 95) := mod_ok (by decide)
theorem mo8 (a : Int) : modI a 8 = some (a.fmod 8) := mod_ok (by decide)
theorem mo9 (a : Int) : modI a 9 = some (a.fmod 9) := mod_ok (by decide)
theorem dv95 (a : Int) : divI a 95 = some (a.fdiv 95) := div_ok (by decide)
theorem cut_sub (z : Str) (lo hi : Int) (h0 : 0 ≤ lo) (h1 : lo ≤ hi) (h2 : hi ≤ lo + 8) : ∃ b, cutS z (some lo) (some hi) = mkS b ∧ (∀ c ∈ b, c ∈ z.cps.toList) ∧ b.length ≤ 8 := by
  refine ⟨_, rfl, fun c hc => List.mem_of_mem_drop (List.mem_of_mem_take hc), ?_⟩
  have e1 : HT.sIx z.length 0 (some lo) = min lo.toNat z.length := by
    unfold HT.sIx
    simp only
    rw [if_neg (by omega)]
  have e2 : HT.sIx z.length z.length (some hi) = min hi.toNat z.length := by
    unfold HT.sIx
    simp only
    rw [if_neg (by omega)]
  rw [e1, e2, List.length_take]
  omega
def rm2 : Ss := match i_f_L_remark with
  | .cons _ r => r
  | _ => .nil
theorem remark (k : Nat) (v : Int) : ∃ b, C (k + 1) 16 [.int v] = some (false, .str (mkS (35 :: b))) ∧ (∀ c ∈ b, c ≠ 10 ∧ c < 128) ∧ b.length ≤ 8 := by
  rw [c16 rfl]
  have q1 := fm (a := v) (b := 95) (by decide)
  have q2 := fm (a := v.fdiv 95) (b := 8) (by decide)
  obtain ⟨b, hb, hb2, hb3⟩ := cut_sub chS (v.fmod 95) (v.fmod 95 + (v.fdiv 95).fmod 8) q1.1 (by omega) (by omega)
  refine ⟨b, ?_, fun c hc => ch_ok c (hb2 c hc), hb3⟩
  have g1 := ch_len
  have g2 : (mkS [35]).length + (mkS b).length ≤ 16777216 := by
    rw [mk_len, mk_len]
    simp
    omega
  have a1 : mkS [35] ++ mkS b = mkS (35 :: b) := mk_app2 [35] b
  have st : i_f_L_remark = .cons (.asg (.one 1) (.str chS)) rm2 := rfl
  rw [st]
  generalize chS = z at g1 hb ⊢
  simp only [exSs, x_asg, x_asgN, x_aug, x_app, x_set, x_clr, x_frz, x_ife, x_ret, x_retO, x_retN, x_brk, x_cnt, x_pass, asgD, evE, evEs, evAnd, evOr, evI, evO, evN, getS, getB, ownL, asgD, outD_rt, outD_nx, binD, addD, intD, augD, ordD, cmpD, asC, isD, isnotD, isnD, isiD, lenD, biD, asB, asI, asL, startD, ixD, seqO_nx, seqO_rt, seqO_bk, seqO_ct, seqO_non, Option.bind_some, Option.bind_none, Option.map_some, Option.map_none, List.getElem?_cons_zero, List.getElem?_cons_succ, List.length_cons, List.length_nil, List.map_cons, List.map_nil, List.set_cons_zero, List.set_cons_succ, List.replicate_succ, List.replicate_zero, List.cons_append, List.nil_append, Nat.reduceAdd, Nat.reduceSub, Nat.reduceLeDiff, Nat.zero_add, Nat.sub_self, Nat.reduceLT, sz, decide_eq_true_eq, decide_true, decide_false, if_true, if_false, ite_true, ite_false, Bool.false_eq_true, Bool.true_eq_false, Bool.not_true, Bool.not_false, not_true_eq_false, not_false_eq_true, eqD_int, eqD_ni, List.foldl_cons, List.foldl_nil, List.zip_cons_cons, List.zip_nil_left, Bool.not_eq_true', decide_eq_false_iff_not, reduceCtorEq, and_true, true_and, and_self, Int.cast_ofNat_Int, Int.natCast_add, Int.natCast_zero, Int.natCast_one, Int.reduceEq, Int.reduceNe, Int.reduceLT, Int.reduceLE, Int.reduceAdd, Int.reduceSub, Int.reduceMul, Int.reduceNeg, ne_eq]
  simp only [rm2, i_f_L_remark, lha]
  simp only [exSs, x_asg, x_asgN, x_aug, x_app, x_set, x_clr, x_frz, x_ife, x_ret, x_retO, x_retN, x_brk, x_cnt, x_pass, asgD, evE, evEs, evAnd, evOr, evI, evO, evN, getS, getB, ownL, asgD, outD_rt, outD_nx, binD, addD, intD, augD, ordD, cmpD, asC, isD, isnotD, isnD, isiD, lenD, biD, asB, asI, asL, startD, ixD, seqO_nx, seqO_rt, seqO_bk, seqO_ct, seqO_non, Option.bind_some, Option.bind_none, Option.map_some, Option.map_none, List.getElem?_cons_zero, List.getElem?_cons_succ, List.length_cons, List.length_nil, List.map_cons, List.map_nil, List.set_cons_zero, List.set_cons_succ, List.replicate_succ, List.replicate_zero, List.cons_append, List.nil_append, Nat.reduceAdd, Nat.reduceSub, Nat.reduceLeDiff, Nat.zero_add, Nat.sub_self, Nat.reduceLT, sz, decide_eq_true_eq, decide_true, decide_false, if_true, if_false, ite_true, ite_false, Bool.false_eq_true, Bool.true_eq_false, Bool.not_true, Bool.not_false, not_true_eq_false, not_false_eq_true, eqD_int, eqD_ni, List.foldl_cons, List.foldl_nil, List.zip_cons_cons, List.zip_nil_left, Bool.not_eq_true', decide_eq_false_iff_not, reduceCtorEq, and_true, true_and, and_self, Int.cast_ofNat_Int, Int.natCast_add, Int.natCast_zero, Int.natCast_one, Int.reduceEq, Int.reduceNe, Int.reduceLT, Int.reduceLE, Int.reduceAdd, Int.reduceSub, Int.reduceMul, Int.reduceNeg, ne_eq, mo95, mo8, dv95, slD, g1, hb, g2, a1]
theorem n1 : (" " : Str) = mkS [32] := by decide +kernel
theorem n2 : ("  " : Str) = mkS [32, 32] := by decide +kernel
theorem n3 : ("\n" : Str) = mkS [10] := by decide +kernel
theorem n4 : (" # a;= !\n" : Str) = mkS [32, 35, 32, 97, 59, 61, 32, 33, 10] := by decide +kernel
theorem n5 : ("#\n" : Str) = mkS [35, 10] := by decide +kernel
theorem n6 : ("\n\n" : Str) = mkS [10, 10] := by decide +kernel
theorem n7 : ("\n  " : Str) = mkS [10, 32, 32] := by decide +kernel
theorem gap9 {b : List Nat} (hb : ∀ c ∈ b, c ≠ 10 ∧ c < 128) (hl : b.length ≤ 8) {q : Int} (h0 : 0 ≤ q) (h1 : q < 9) : ∃ g, atI [PyData.str (mkS []), .str (mkS [32]), .str (mkS [32, 32]), .str (mkS [10]), .str (mkS [32, 35, 32, 97, 59, 61, 32, 33, 10]), .str (mkS [35, 10]), .str (mkS [10, 10]), .str (mkS (35 :: b ++ [10])), .str (mkS (35 :: b ++ [10, 32, 32]))] q = some (.str (mkS g)) ∧ Gp g ∧ (∀ c ∈ g, c < 128) ∧ g.length ≤ 20 := by
  obtain ⟨j, rfl⟩ := Int.eq_ofNat_of_zero_le h0
  have hj : j < 9 := by exact_mod_cast h1
  have e := atI_ok (xs := [PyData.str (mkS []), .str (mkS [32]), .str (mkS [32, 32]), .str (mkS [10]), .str (mkS [32, 35, 32, 97, 59, 61, 32, 33, 10]), .str (mkS [35, 10]), .str (mkS [10, 10]), .str (mkS (35 :: b ++ [10])), .str (mkS (35 :: b ++ [10, 32, 32]))]) (k := j) hj
  have hbn : ∀ c ∈ b, c ≠ 10 := fun c h => (hb c h).1
  have hbs : ∀ c ∈ b, c < 128 := fun c h => (hb c h).2
  match j, hj with
  | 0, _ => exact ⟨_, e, .nil, by simp, by simp⟩
  | 1, _ => exact ⟨_, e, .sp .nil, by simp, by simp⟩
  | 2, _ => exact ⟨_, e, .sp (.sp .nil), by simp, by simp⟩
  | 3, _ => exact ⟨_, e, .nl .nil, by simp, by simp⟩
  | 4, _ => exact ⟨_, e, .sp (.rem (b := [32, 97, 59, 61, 32, 33]) (by simp) .nil), by simp, by simp⟩
  | 5, _ => exact ⟨_, e, .rem (b := []) (by simp) .nil, by simp, by simp⟩
  | 6, _ => exact ⟨_, e, .nl (.nl .nil), by simp, by simp⟩
  | 7, _ => exact ⟨_, e, .rem hbn .nil, by
      intro c hc
      simp at hc
      rcases hc with rfl | hc | rfl
      · decide
      · exact hbs c hc
      · decide, by simp; omega⟩
  | 8, _ => exact ⟨_, e, .rem hbn (.sp (.sp .nil)), by
      intro c hc
      simp at hc
      rcases hc with rfl | hc | rfl | rfl
      · decide
      · exact hbs c hc
      · decide
      · decide, by simp; omega⟩
theorem gap (k : Nat) (p v : Int) : ∃ g, C (k + 2) 17 [.int p, .int v] = some (false, .str (mkS g)) ∧ Gp g ∧ (∀ c ∈ g, c < 128) ∧ g.length ≤ 20 := by
  rw [c17 rfl]
  obtain ⟨b, r, hb, hl⟩ := remark k v
  have q := fm (a := p) (b := 9) (by decide)
  obtain ⟨g, hg, g1, g2, g3⟩ := gap9 hb hl q.1 q.2
  refine ⟨g, ?_, g1, g2, g3⟩
  have a1 : mkS (35 :: b) ++ mkS [10] = mkS (35 :: b ++ [10]) := mk_app2 _ _
  have a2 : mkS (35 :: b) ++ mkS [10, 32, 32] = mkS (35 :: b ++ [10, 32, 32]) := mk_app2 _ _
  have l1 : (mkS (35 :: b)).length + (mkS [10]).length ≤ 16777216 := by
    rw [mk_len, mk_len]
    simp
    omega
  have l2 : (mkS (35 :: b)).length + (mkS [10, 32, 32]).length ≤ 16777216 := by
    rw [mk_len, mk_len]
    simp
    omega
  generalize 35 :: b = B at r a1 a2 l1 l2 hg
  simp only [i_f_L_gap, lem, n1, n2, n3, n4, n5, n6, n7]
  simp only [exSs, x_asg, x_asgN, x_aug, x_app, x_set, x_clr, x_frz, x_ife, x_ret, x_retO, x_retN, x_brk, x_cnt, x_pass, asgD, evE, evEs, evAnd, evOr, evI, evO, evN, getS, getB, ownL, asgD, outD_rt, outD_nx, binD, addD, intD, augD, ordD, cmpD, asC, isD, isnotD, isnD, isiD, lenD, biD, asB, asI, asL, startD, ixD, seqO_nx, seqO_rt, seqO_bk, seqO_ct, seqO_non, Option.bind_some, Option.bind_none, Option.map_some, Option.map_none, List.getElem?_cons_zero, List.getElem?_cons_succ, List.length_cons, List.length_nil, List.map_cons, List.map_nil, List.set_cons_zero, List.set_cons_succ, List.replicate_succ, List.replicate_zero, List.cons_append, List.nil_append, Nat.reduceAdd, Nat.reduceSub, Nat.reduceLeDiff, Nat.zero_add, Nat.sub_self, Nat.reduceLT, sz, decide_eq_true_eq, decide_true, decide_false, if_true, if_false, ite_true, ite_false, Bool.false_eq_true, Bool.true_eq_false, Bool.not_true, Bool.not_false, not_true_eq_false, not_false_eq_true, eqD_int, eqD_ni, List.foldl_cons, List.foldl_nil, List.zip_cons_cons, List.zip_nil_left, Bool.not_eq_true', decide_eq_false_iff_not, reduceCtorEq, and_true, true_and, and_self, Int.cast_ofNat_Int, Int.natCast_add, Int.natCast_zero, Int.natCast_one, Int.reduceEq, Int.reduceNe, Int.reduceLT, Int.reduceLE, Int.reduceAdd, Int.reduceSub, Int.reduceMul, Int.reduceNeg, ne_eq, r, l1, l2, a1, a2, mo9, hg]
end K02
end
section
namespace K02
open PySem PySem.Spec L2 Ev
/-- a token's text and kind, where nothing joins behind it -/
structure Tok (kd : Str) (w : List Nat) : Prop where
  ne : w ≠ []
  sm : ∀ c ∈ w, c < 128
  cl : ∀ c ∈ w, c ≠ 10 ∧ c ≠ 32 ∧ c ≠ 35
  ok : PyData.strOk kd = true
  nb : kd ≠ "bad"
  ln : w.length ≤ 20
  rd : ∀ r, jn w r = false → tka (w ++ r) = (kd, w)
theorem run_fact {c : Nat} (h : isrun c = true) : c < 128 ∧ c ≠ 10 ∧ c ≠ 32 ∧ c ≠ 35 := by
  unfold isrun islet isdig at h
  simp only [Bool.or_eq_true, Bool.and_eq_true, decide_eq_true_eq] at h
  omega
theorem tok_run {w : List Nat} {kd : Str} (hn : w ≠ []) (h : ∀ c ∈ w, isrun c = true) (hl : w.length ≤ 20) (hk : rk w = kd) (ok : PyData.strOk kd = true) (nb : kd ≠ "bad") : Tok kd w := by
  refine ⟨hn, fun c hc => (run_fact (h c hc)).1, fun c hc => (run_fact (h c hc)).2, ok, nb, hl, fun r hj => ?_⟩
  rw [← hk]
  refine tka_run hn h r fun d hd => ?_
  unfold jn at hj
  obtain ⟨x, hx⟩ : ∃ x, w.getLast? = some x := ⟨_, List.getLast?_eq_some_getLast hn⟩
  rw [hx, hd] at hj
  simp only [h x (List.mem_of_getLast? hx), Bool.true_and] at hj
  cases hr : isrun d with
  | false => rfl
  | true =>
    rw [hr] at hj
    simp at hj
def poolL : List (List Nat) := [[97], [97, 49], [98, 50], [98, 111, 98], [97, 49, 48], [97, 57], [100, 111, 111, 114], [101], [102, 111, 120], [103, 55], [104, 105, 108, 108], [105, 118, 121], [106, 97, 109], [107, 101, 121], [108, 97, 107, 101], [109, 111, 111, 110], [110, 117, 116], [111, 97, 107], [112, 101, 97, 114], [113, 117, 97, 121], [114, 111, 115, 101], [115, 117, 110], [116, 114, 101, 101], [117, 114, 110], [118, 105, 110, 101], [119, 101, 108, 108], [120], [121, 101, 119], [122, 111, 101], [116, 119, 101, 108, 118, 101, 115, 105, 103, 110, 115, 49]]
def kwL : List (List Nat) := [[99, 101, 108, 108], [108, 105, 110, 101], [115, 116, 111, 114, 101], [103, 97, 116, 101], [119, 104, 101, 101, 108], [109, 97, 114, 107], [99, 108, 97, 115, 115], [119, 105, 116, 104, 105, 110], [118, 97, 114], [100, 101, 101, 100], [108, 105, 102, 101], [115, 116, 97, 114, 116], [97, 116], [97, 115, 108, 101, 101, 112], [111, 112, 101, 110], [115, 104, 117, 116], [115, 101, 116], [116, 101, 108, 108], [105, 102], [101, 108, 115, 101], [119, 104, 105, 108, 101], [100, 111], [105, 110, 110, 101, 114], [104, 111, 108, 100], [115, 108, 101, 101, 112], [119, 97, 107, 101], [97, 102, 116, 101, 114], [115, 116, 111, 112], [115, 101, 105, 122, 101], [111, 102], [102, 114, 101, 101], [119, 97, 105, 116], [112, 117, 116], [105, 110, 116, 111], [116, 97, 107, 101], [102, 114, 111, 109], [109, 97, 107, 101], [108, 101, 97, 118, 101], [111, 114], [97, 110, 100], [110, 111, 116], [109, 111, 100], [110, 111, 110, 101], [109, 101], [110, 111, 119], [108, 101, 110, 103, 116, 104], [102, 105, 114, 115, 116], [115, 112, 97, 114, 101], [119, 97, 105, 116, 105, 110, 103], [105, 115, 111, 112, 101, 110], [115, 116, 97, 110, 100]]
def sgL : List (List Nat) := [[123], [125], [40], [41], [44], [59], [46], [43], [45], [42], [47], [61], [61, 61], [33, 61], [60], [60, 61], [62], [62, 61]]
def runB (w : List Nat) (kd : Str) : Bool := !w.isEmpty && (w.all isrun && (decide (w.length ≤ 20) && decide (rk w = kd)))
theorem runB_tok {w : List Nat} {kd : Str} (h : runB w kd = true) (ok : PyData.strOk kd = true) (nb : kd ≠ "bad") : Tok kd w := by
  simp only [runB, Bool.and_eq_true, decide_eq_true_eq, List.all_eq_true, Bool.not_eq_true', List.isEmpty_eq_false_iff] at h
  exact tok_run h.1 h.2.1 h.2.2.1 h.2.2.2 ok nb
theorem nb_name : ("name" : Str) ≠ "bad" := by decide +kernel
theorem nb_kw : ("keyword" : Str) ≠ "bad" := by decide +kernel
theorem nb_num : ("number" : Str) ≠ "bad" := by decide +kernel
theorem nb_sign : ("sign" : Str) ≠ "bad" := by decide +kernel
theorem pool_all : poolL.all (runB · "name") = true := by decide +kernel
theorem kw_all : kwL.all (runB · "keyword") = true := by decide +kernel
theorem pool_tok {w : List Nat} (h : w ∈ poolL) : Tok "name" w := runB_tok (List.all_eq_true.mp pool_all w h) ok_name nb_name
theorem kw_tok {w : List Nat} (h : w ∈ kwL) : Tok "keyword" w := runB_tok (List.all_eq_true.mp kw_all w h) ok_kw nb_kw
/-- a keyword, a name and more, cut to twelve -/
theorem long_all : kwL.all (fun a => poolL.all fun b => runB ((a ++ b ++ [122, 113, 55, 120, 119, 48, 98, 107, 51, 114, 109, 57, 118, 53, 106, 104, 116, 112, 100]).take 12) "name") = true := by decide +kernel
theorem long_tok {a b : List Nat} (ha : a ∈ kwL) (hb : b ∈ poolL) : Tok "name" ((a ++ b ++ [122, 113, 55, 120, 119, 48, 98, 107, 51, 114, 109, 57, 118, 53, 106, 104, 116, 112, 100]).take 12) := runB_tok (List.all_eq_true.mp (List.all_eq_true.mp long_all a ha) b hb) ok_name nb_name
theorem loB_one (c : Nat) : loB [c] = false := by
  unfold loB loS
  have e1 : Str.ofString "==" = mkS [61, 61] := by decide +kernel
  have e2 : Str.ofString "!=" = mkS [33, 61] := by decide +kernel
  have e3 : Str.ofString "<=" = mkS [60, 61] := by decide +kernel
  have e4 : Str.ofString ">=" = mkS [62, 61] := by decide +kernel
  simp only [List.map_cons, List.map_nil, e1, e2, e3, e4, List.any_cons, List.any_nil, mk_inj]
  simp
theorem loB_two (c d : Nat) : loB [c, d] = ((decide (c = 61) || (decide (c = 33) || (decide (c = 60) || decide (c = 62)))) && decide (d = 61)) := by
  unfold loB loS
  have e1 : Str.ofString "==" = mkS [61, 61] := by decide +kernel
  have e2 : Str.ofString "!=" = mkS [33, 61] := by decide +kernel
  have e3 : Str.ofString "<=" = mkS [60, 61] := by decide +kernel
  have e4 : Str.ofString ">=" = mkS [62, 61] := by decide +kernel
  simp only [List.map_cons, List.map_nil, e1, e2, e3, e4, List.any_cons, List.any_nil, mk_inj, List.cons.injEq, and_true, Bool.or_false]
  rw [Bool.eq_iff_iff]
  simp only [Bool.or_eq_true, Bool.and_eq_true, decide_eq_true_eq]
  omega
theorem sign2_tok {c : Nat} (h1 : isrun c = false) (h2 : loB [c, 61] = true) (hc : c < 128 ∧ c ≠ 10 ∧ c ≠ 32 ∧ c ≠ 35) : Tok "sign" [c, 61] :=
  ⟨by simp, by simp; omega, by simp; omega, ok_sign, nb_sign, by simp, fun r _ => tka_sign2 h1 h2 r⟩
theorem sign1_tok {c : Nat} (h1 : isrun c = false) (h3 : shB [c] = true) (h33 : c ≠ 33) (hc : c < 128 ∧ c ≠ 10 ∧ c ≠ 32 ∧ c ≠ 35) : Tok "sign" [c] := by
  refine ⟨by simp, by simp; omega, by simp; omega, ok_sign, nb_sign, by simp, fun r hj => tka_sign1 h1 (loB_one c) h3 r fun d hd => ?_⟩
  unfold jn at hj
  rw [hd] at hj
  simp only [List.getLast?_singleton, h1, Bool.false_and, Bool.false_eq_true, if_false, List.cons.injEq, and_true] at hj
  rw [loB_two]
  rw [Bool.eq_false_iff] at hj ⊢
  intro h
  apply hj
  simp only [Bool.or_eq_true, Bool.and_eq_true, decide_eq_true_eq] at h ⊢
  omega
def sgB (w : List Nat) : Bool := match w with
  | [c] => !isrun c && (shB [c] && (decide (c ≠ 33) && decide (c < 128 ∧ c ≠ 10 ∧ c ≠ 32 ∧ c ≠ 35)))
  | [c, d] => !isrun c && (loB [c, 61] && (decide (d = 61) && decide (c < 128 ∧ c ≠ 10 ∧ c ≠ 32 ∧ c ≠ 35)))
  | _ => false
theorem sg_all : sgL.all sgB = true := by decide +kernel
theorem sg_tok {w : List Nat} (h : w ∈ sgL) : Tok "sign" w := by
  have h := List.all_eq_true.mp sg_all w h
  unfold sgB at h
  split at h
  · simp only [Bool.and_eq_true, decide_eq_true_eq, Bool.not_eq_true'] at h
    exact sign1_tok h.1 h.2.1 h.2.2.1 h.2.2.2
  · simp only [Bool.and_eq_true, decide_eq_true_eq, Bool.not_eq_true'] at h
    obtain ⟨h1, h2, rfl, h4⟩ := h
    exact sign2_tok h1 h2 h4
  · cases h
end K02
end
section
namespace K02
open PySem PySem.Spec L2 Ev
abbrev dg (m : Nat) : List Nat := (Nat.toDigits 10 m).map Char.toNat
theorem dchar : ∀ d : Nat, d < 10 → (Nat.digitChar d).toNat = 48 + d := by decide
theorem dg_step (r : Nat) : dg r = (if r / 10 = 0 then [] else dg (r / 10)) ++ [48 + r % 10] := by
  unfold dg
  rw [Nat.toDigits_eq_if (by decide)]
  by_cases h : r < 10
  · rw [if_pos h, if_pos (Nat.div_eq_of_lt h), Nat.mod_eq_of_lt h]
    show [(Nat.digitChar r).toNat] = [48 + r]
    rw [dchar r h]
  · rw [if_neg h, if_neg (by omega), List.map_append]
    show _ ++ [(Nat.digitChar (r % 10)).toNat] = _
    rw [dchar _ (Nat.mod_lt _ (by decide))]
theorem num_nat (m : Nat) : Str.ofString (toString (m : Int)) = mkS (dg m) := by
  apply str_ext
  rw [PySem.W.KIN.signs_num]
theorem dg_all : ∀ m : Nat, ∀ c ∈ dg m, isdig c = true := by
  intro m
  induction m using Nat.strongRecOn with
  | _ m ih =>
    intro c hc
    rw [dg_step] at hc
    rcases List.mem_append.mp hc with hc | hc
    · by_cases h : m / 10 = 0
      · rw [if_pos h] at hc
        cases hc
      · rw [if_neg h] at hc
        exact ih (m / 10) (by omega) c hc
    · cases List.mem_singleton.mp hc
      unfold isdig
      simp only [Bool.and_eq_true, decide_eq_true_eq]
      omega
theorem dg_len : ∀ (k m : Nat), m < 10 ^ (k + 1) → (dg m).length ≤ k + 1
  | 0, m, h => by
    rw [dg_step, if_pos (by omega)]
    simp
  | k + 1, m, h => by
    rw [dg_step]
    split
    · simp
    · have := dg_len k (m / 10) (by rw [Nat.pow_succ] at h; omega)
      rw [List.length_append, List.length_singleton]
      omega
theorem dg_ne (m : Nat) : dg m ≠ [] := by
  rw [dg_step]
  simp
theorem dg_head : ∀ m : Nat, 0 < m → ∃ c r, dg m = c :: r ∧ c ≠ 48 := by
  intro m
  induction m using Nat.strongRecOn with
  | _ m ih =>
    intro h
    rw [dg_step]
    by_cases h0 : m / 10 = 0
    · rw [if_pos h0]
      exact ⟨_, _, rfl, by omega⟩
    · rw [if_neg h0]
      obtain ⟨c, r, e, hc⟩ := ih (m / 10) (by omega) (by omega)
      exact ⟨c, r ++ [48 + m % 10], by rw [e]; rfl, hc⟩
theorem num_tok {m : Nat} (h : m ≤ 999999999) : Tok "number" (dg m) := by
  have hl : (dg m).length ≤ 9 := dg_len 8 m (by omega)
  have hd := dg_all m
  refine tok_run (dg_ne m) (fun c hc => by unfold isrun; rw [hd c hc, Bool.or_true]) (by omega) ?_ ok_num nb_num
  have hall : (dg m).all isdig = true := List.all_eq_true.mpr hd
  rcases Nat.eq_zero_or_pos m with rfl | hm
  · have e : dg 0 = [48] := by decide +kernel
    rw [e]
    decide +kernel
  · obtain ⟨c, r, e, hc⟩ := dg_head m hm
    have hc' := hd c (by rw [e]; exact List.mem_cons_self)
    have hi : islet c = false := by
      unfold isdig at hc'
      unfold islet
      simp only [Bool.and_eq_true, decide_eq_true_eq] at hc'
      rw [decide_eq_false (by omega)]
      rfl
    rw [e] at hall hl ⊢
    unfold rk
    simp only
    rw [if_neg (by rw [hi]; simp), hall]
    rw [if_neg (by simp; simpa using hl), if_neg (by simp [hc])]
/-! the text grows by a gap and a token -/
theorem jn_head (b : List Nat) (a : Nat) (l l' : List Nat) : jn b (a :: l) = jn b (a :: l') := rfl
theorem jn_gap {g : List Nat} (h : Gp g) (hn : g ≠ []) (b r : List Nat) : jn b (g ++ r) = false := by
  have key : ∀ c : Nat, (c = 32 ∨ c = 10 ∨ c = 35) → ∀ l, jn b (c :: l) = false := by
    intro c hc l
    unfold jn
    have h1 : isrun c = false := by
      rcases hc with rfl | rfl | rfl <;> decide
    have h2 : decide (c = 61) = false := decide_eq_false (by omega)
    cases b.getLast? with
    | none => rfl
    | some x => simp [h1, h2]
  cases h with
  | nil => exact absurd rfl hn
  | sp _ => exact key 32 (by simp) _
  | nl _ => exact key 10 (by simp) _
  | rem _ _ => exact key 35 (by simp) _
def Inv (text before : List Nat) (ex : List D) (row col : Int) : Prop := ∀ r, jn before r = false → tl (text ++ r) 0 1 1 = ex ++ tl r 0 row col
theorem inv_step {text before : List Nat} {ex : List D} {row col : Int} (h : Inv text before ex row col) {g w : List Nat} {kd : Str} (hg : Gp g) (hw : Tok kd w) (hj : g = [] → jn before w = false) :
    Inv (text ++ (g ++ w)) w (ex ++ [tk kd w (mv g row col).1 (mv g row col).2]) (mv w (mv g row col).1 (mv g row col).2).1 (mv w (mv g row col).1 (mv g row col).2).2 := by
  intro r hr
  have e : text ++ (g ++ w) ++ r = text ++ (g ++ (w ++ r)) := by simp
  have hj' : jn before (g ++ (w ++ r)) = false := by
    cases g with
    | nil =>
      obtain ⟨c, w', rfl⟩ : ∃ c w', w = c :: w' := by
        cases w with
        | nil => exact absurd rfl hw.ne
        | cons c w' => exact ⟨c, w', rfl⟩
      have := hj rfl
      exact this
    | cons c g => exact jn_gap hg (by simp) before (w ++ r)
  rw [e, h _ hj', tl_gap hg, tl_word hw.ne hw.cl r (hw.rd r hr) hw.nb]
  rw [mv_flat w _ _ fun c hc => (hw.cl c hc).1]
  simp
theorem inv_zero {g : List Nat} (hg : Gp g) : Inv g [] [] (mv g 1 1).1 (mv g 1 1).2 := by
  intro r _
  rw [tl_gap hg]
  rfl
/-- the end, behind a gap or a remark to the end of the text -/
theorem inv_end {text before : List Nat} {ex : List D} {row col : Int} (h : Inv text before ex row col) {g : List Nat} (hg : Gp g) : tl (text ++ g) 0 1 1 = ex ++ [tk "end" [] (mv g row col).1 (mv g row col).2] := by
  have hj : jn before g = false := by
    cases g with
    | nil =>
      unfold jn
      cases before.getLast? <;> rfl
    | cons c g =>
      have := jn_gap hg (by simp) before []
      rw [List.append_nil] at this
      exact this
  rw [h g hj]
  have := tl_gap hg [] row col
  rw [List.append_nil] at this
  rw [this, tl]
theorem toNl_all {b : List Nat} (h : ∀ c ∈ b, c ≠ 10) : toNl b = b.length := by
  induction b with
  | nil => rfl
  | cons c b ih =>
    have h1 := h c List.mem_cons_self
    have := ih fun d hd => h d (List.mem_cons_of_mem _ hd)
    unfold toNl at this ⊢
    rw [List.takeWhile_cons_of_pos (by simpa using h1), List.length_cons, this, List.length_cons]
theorem inv_end2 {text before : List Nat} {ex : List D} {row col : Int} (h : Inv text before ex row col) {b : List Nat} (hb : ∀ c ∈ b, c ≠ 10) : tl (text ++ 35 :: b) 0 1 1 = ex ++ [tk "end" [] (mv (35 :: b) row col).1 (mv (35 :: b) row col).2] := by
  have hj : jn before (35 :: b) = false := by
    unfold jn
    have h1 : isrun 35 = false := by decide
    cases before.getLast? with
    | none => rfl
    | some x => simp [h1]
  rw [h _ hj, tl, if_neg (by decide), if_neg (by decide), if_pos rfl, toNl_all hb, tl_skip b.length b row (col + 1) (Nat.le_refl _), List.drop_length, tl]
  rw [mv, if_neg (by decide), mv_flat b row (col + 1) hb]
end K02
end
section
namespace K02
open PySem PySem.Spec L2 Ev
theorem c10 {k ds} (h : ds.length = 2) : C (k + 1) 10 ds = outD (exSs gs (C k) 5000 i_f_L_names (startD 6 ds)) := call_step (fn := ⟨2, 6, i_f_L_names⟩) rfl h (by decide)
theorem c11 {k ds} (h : ds.length = 0) : C (k + 1) 11 ds = outD (exSs gs (C k) 5000 i_f_L_keywords (startD 0 ds)) := call_step (fn := ⟨0, 0, i_f_L_keywords⟩) rfl h (by decide)
theorem c12 {k ds} (h : ds.length = 0) : C (k + 1) 12 ds = outD (exSs gs (C k) 5000 i_f_L_signs (startD 0 ds)) := call_step (fn := ⟨0, 0, i_f_L_signs⟩) rfl h (by decide)
theorem c13 {k ds} (h : ds.length = 2) : C (k + 1) 13 ds = outD (exSs gs (C k) 5000 i_f_L_number (startD 4 ds)) := call_step (fn := ⟨2, 4, i_f_L_number⟩) rfl h (by decide)
theorem c14 {k ds} (h : ds.length = 2) : C (k + 1) 14 ds = outD (exSs gs (C k) 5000 i_f_L_long (startD 3 ds)) := call_step (fn := ⟨2, 3, i_f_L_long⟩) rfl h (by decide)
theorem c15 {k ds} (h : ds.length = 3) : C (k + 1) 15 ds = outD (exSs gs (C k) 5000 i_f_L_token (startD 5 ds)) := call_step (fn := ⟨3, 5, i_f_L_token⟩) rfl h (by decide)
abbrev sl (L : List (List Nat)) : List D := L.map fun w => .str (mkS w)
theorem sl_at (L : List (List Nat)) {q : Int} (h0 : 0 ≤ q) (h1 : q < L.length) : ∃ w ∈ L, atI (sl L) q = some (.str (mkS w)) := by
  obtain ⟨j, rfl⟩ := Int.eq_ofNat_of_zero_le h0
  have hj : j < L.length := by exact_mod_cast h1
  refine ⟨L[j], List.getElem_mem hj, ?_⟩
  rw [atI_ok (by simpa using hj)]
  simp
theorem keywords (k : Nat) : C (k + 1) 11 [] = some (false, .list (sl kwL)) := by
  rw [c11 rfl]
  kernel_rfl
theorem signs (k : Nat) : C (k + 1) 12 [] = some (false, .list (sl sgL)) := by
  rw [c12 rfl]
  kernel_rfl
theorem mo12 (a : Int) : modI a 12 = some (a.fmod 12) := mod_ok (by decide)
theorem mo30 (a : Int) : modI a 30 = some (a.fmod 30) := mod_ok (by decide)
theorem mo51 (a : Int) : modI a 51 = some (a.fmod 51) := mod_ok (by decide)
theorem mo18 (a : Int) : modI a 18 = some (a.fmod 18) := mod_ok (by decide)
theorem mo5 (a : Int) : modI a 5 = some (a.fmod 5) := mod_ok (by decide)
theorem moB (a : Int) : modI a 1000000000 = some (a.fmod 1000000000) := mod_ok (by decide)
theorem dv12 (a : Int) : divI a 12 = some (a.fdiv 12) := div_ok (by decide)
theorem dv5 (a : Int) : divI a 5 = some (a.fdiv 5) := div_ok (by decide)
theorem dv7 (a : Int) : divI a 7 = some (a.fdiv 7) := div_ok (by decide)
theorem pow_at {q : Int} (h0 : 0 ≤ q) (h1 : q < 9) : ∃ p : Int, 0 < p ∧ p ≤ 100000000 ∧ atI [PyData.int 1, .int 10, .int 100, .int 1000, .int 10000, .int 100000, .int 1000000, .int 10000000, .int 100000000] q = some (.int p) := by
  obtain ⟨j, rfl⟩ := Int.eq_ofNat_of_zero_le h0
  have hj : j < 9 := by exact_mod_cast h1
  have e := atI_ok (xs := [PyData.int 1, .int 10, .int 100, .int 1000, .int 10000, .int 100000, .int 1000000, .int 10000000, .int 100000000]) (k := j) hj
  match j, hj with
  | 0, _ | 1, _ | 2, _ | 3, _ | 4, _ | 5, _ | 6, _ | 7, _ | 8, _ => exact ⟨_, by decide, by decide, e⟩
theorem number (k : Nat) (c v : Int) : ∃ m : Nat, m ≤ 999999999 ∧ C (k + 1) 13 [.int c, .int v] = some (false, .int (m : Int)) := by
  rw [c13 rfl]
  have q := fm (a := v) (b := 12) (by decide)
  generalize hq : v.fmod 12 = w at q
  by_cases h : w < 3
  · have hw : w = 0 ∨ w = 1 ∨ w = 2 := by omega
    rcases hw with rfl | rfl | rfl
    · exact ⟨0, by decide, by simp only [exSs, x_asg, x_asgN, x_aug, x_app, x_set, x_clr, x_frz, x_ife, x_ret, x_retO, x_retN, x_brk, x_cnt, x_pass, asgD, evE, evEs, evAnd, evOr, evI, evO, evN, getS, getB, ownL, asgD, outD_rt, outD_nx, binD, addD, intD, augD, ordD, cmpD, asC, isD, isnotD, isnD, isiD, lenD, biD, asB, asI, asL, startD, ixD, seqO_nx, seqO_rt, seqO_bk, seqO_ct, seqO_non, Option.bind_some, Option.bind_none, Option.map_some, Option.map_none, List.getElem?_cons_zero, List.getElem?_cons_succ, List.length_cons, List.length_nil, List.map_cons, List.map_nil, List.set_cons_zero, List.set_cons_succ, List.replicate_succ, List.replicate_zero, List.cons_append, List.nil_append, Nat.reduceAdd, Nat.reduceSub, Nat.reduceLeDiff, Nat.zero_add, Nat.sub_self, Nat.reduceLT, sz, decide_eq_true_eq, decide_true, decide_false, if_true, if_false, ite_true, ite_false, Bool.false_eq_true, Bool.true_eq_false, Bool.not_true, Bool.not_false, not_true_eq_false, not_false_eq_true, eqD_int, eqD_ni, List.foldl_cons, List.foldl_nil, List.zip_cons_cons, List.zip_nil_left, Bool.not_eq_true', decide_eq_false_iff_not, reduceCtorEq, and_true, true_and, and_self, Int.cast_ofNat_Int, Int.natCast_add, Int.natCast_zero, Int.natCast_one, Int.reduceEq, Int.reduceNe, Int.reduceLT, Int.reduceLE, Int.reduceAdd, Int.reduceSub, Int.reduceMul, Int.reduceNeg, ne_eq, i_f_L_number, mo12, hq, at0]⟩
    · exact ⟨999999999, by decide, by simp only [exSs, x_asg, x_asgN, x_aug, x_app, x_set, x_clr, x_frz, x_ife, x_ret, x_retO, x_retN, x_brk, x_cnt, x_pass, asgD, evE, evEs, evAnd, evOr, evI, evO, evN, getS, getB, ownL, asgD, outD_rt, outD_nx, binD, addD, intD, augD, ordD, cmpD, asC, isD, isnotD, isnD, isiD, lenD, biD, asB, asI, asL, startD, ixD, seqO_nx, seqO_rt, seqO_bk, seqO_ct, seqO_non, Option.bind_some, Option.bind_none, Option.map_some, Option.map_none, List.getElem?_cons_zero, List.getElem?_cons_succ, List.length_cons, List.length_nil, List.map_cons, List.map_nil, List.set_cons_zero, List.set_cons_succ, List.replicate_succ, List.replicate_zero, List.cons_append, List.nil_append, Nat.reduceAdd, Nat.reduceSub, Nat.reduceLeDiff, Nat.zero_add, Nat.sub_self, Nat.reduceLT, sz, decide_eq_true_eq, decide_true, decide_false, if_true, if_false, ite_true, ite_false, Bool.false_eq_true, Bool.true_eq_false, Bool.not_true, Bool.not_false, not_true_eq_false, not_false_eq_true, eqD_int, eqD_ni, List.foldl_cons, List.foldl_nil, List.zip_cons_cons, List.zip_nil_left, Bool.not_eq_true', decide_eq_false_iff_not, reduceCtorEq, and_true, true_and, and_self, Int.cast_ofNat_Int, Int.natCast_add, Int.natCast_zero, Int.natCast_one, Int.reduceEq, Int.reduceNe, Int.reduceLT, Int.reduceLE, Int.reduceAdd, Int.reduceSub, Int.reduceMul, Int.reduceNeg, ne_eq, i_f_L_number, mo12, hq, at1]⟩
    · exact ⟨100000000, by decide, by simp only [exSs, x_asg, x_asgN, x_aug, x_app, x_set, x_clr, x_frz, x_ife, x_ret, x_retO, x_retN, x_brk, x_cnt, x_pass, asgD, evE, evEs, evAnd, evOr, evI, evO, evN, getS, getB, ownL, asgD, outD_rt, outD_nx, binD, addD, intD, augD, ordD, cmpD, asC, isD, isnotD, isnD, isiD, lenD, biD, asB, asI, asL, startD, ixD, seqO_nx, seqO_rt, seqO_bk, seqO_ct, seqO_non, Option.bind_some, Option.bind_none, Option.map_some, Option.map_none, List.getElem?_cons_zero, List.getElem?_cons_succ, List.length_cons, List.length_nil, List.map_cons, List.map_nil, List.set_cons_zero, List.set_cons_succ, List.replicate_succ, List.replicate_zero, List.cons_append, List.nil_append, Nat.reduceAdd, Nat.reduceSub, Nat.reduceLeDiff, Nat.zero_add, Nat.sub_self, Nat.reduceLT, sz, decide_eq_true_eq, decide_true, decide_false, if_true, if_false, ite_true, ite_false, Bool.false_eq_true, Bool.true_eq_false, Bool.not_true, Bool.not_false, not_true_eq_false, not_false_eq_true, eqD_int, eqD_ni, List.foldl_cons, List.foldl_nil, List.zip_cons_cons, List.zip_nil_left, Bool.not_eq_true', decide_eq_false_iff_not, reduceCtorEq, and_true, true_and, and_self, Int.cast_ofNat_Int, Int.natCast_add, Int.natCast_zero, Int.natCast_one, Int.reduceEq, Int.reduceNe, Int.reduceLT, Int.reduceLE, Int.reduceAdd, Int.reduceSub, Int.reduceMul, Int.reduceNeg, ne_eq, i_f_L_number, mo12, hq, at2]⟩
  · have q9 := fm (a := v.fdiv 12) (b := 9) (by decide)
    obtain ⟨p, p0, p1, hp⟩ := pow_at q9.1 q9.2
    have mu : ∀ a, mulI a 387420489 = some (a * 387420489) := fun a => mul_ok (by decide)
    generalize hA : ((if c < 0 then -c else c) + v + 1) * 387420489 = A
    have qA := fm (a := A) (b := 1000000000) (by decide)
    have dp : ∀ a, divI a p = some (a.fdiv p) := fun a => div_ok ⟨by omega, by omega⟩
    have h1 : 0 ≤ (A.fmod 1000000000).fdiv p := Int.fdiv_nonneg qA.1 (by omega)
    have h2 : (A.fmod 1000000000).fdiv p ≤ A.fmod 1000000000 := by
      rw [Int.fdiv_eq_ediv_of_nonneg _ (by omega)]
      exact Int.ediv_le_self _ qA.1
    obtain ⟨m, hm⟩ := Int.eq_ofNat_of_zero_le h1
    refine ⟨m, by omega, ?_⟩
    rw [← hm]
    simp only [exSs, x_asg, x_asgN, x_aug, x_app, x_set, x_clr, x_frz, x_ife, x_ret, x_retO, x_retN, x_brk, x_cnt, x_pass, asgD, evE, evEs, evAnd, evOr, evI, evO, evN, getS, getB, ownL, asgD, outD_rt, outD_nx, binD, addD, intD, augD, ordD, cmpD, asC, isD, isnotD, isnD, isiD, lenD, biD, asB, asI, asL, startD, ixD, seqO_nx, seqO_rt, seqO_bk, seqO_ct, seqO_non, Option.bind_some, Option.bind_none, Option.map_some, Option.map_none, List.getElem?_cons_zero, List.getElem?_cons_succ, List.length_cons, List.length_nil, List.map_cons, List.map_nil, List.set_cons_zero, List.set_cons_succ, List.replicate_succ, List.replicate_zero, List.cons_append, List.nil_append, Nat.reduceAdd, Nat.reduceSub, Nat.reduceLeDiff, Nat.zero_add, Nat.sub_self, Nat.reduceLT, sz, decide_eq_true_eq, decide_true, decide_false, if_true, if_false, ite_true, ite_false, Bool.false_eq_true, Bool.true_eq_false, Bool.not_true, Bool.not_false, not_true_eq_false, not_false_eq_true, eqD_int, eqD_ni, List.foldl_cons, List.foldl_nil, List.zip_cons_cons, List.zip_nil_left, Bool.not_eq_true', decide_eq_false_iff_not, reduceCtorEq, and_true, true_and, and_self, Int.cast_ofNat_Int, Int.natCast_add, Int.natCast_zero, Int.natCast_one, Int.reduceEq, Int.reduceNe, Int.reduceLT, Int.reduceLE, Int.reduceAdd, Int.reduceSub, Int.reduceMul, Int.reduceNeg, ne_eq, i_f_L_number, mo12, mo9, moB, dv12, hq, h, mu, hA, hp, dp]
end K02
end
section
namespace K02
open PySem PySem.Spec L2 Ev
theorem compD_map {f : D → Option (Option D)} {G : D → D} : ∀ (l : List D), (∀ d ∈ l, f d = some (some (G d))) → compD f l = some (l.map G)
  | [], _ => rfl
  | d :: r, h => by
    rw [compD, h d List.mem_cons_self]
    simp only
    rw [compD_map r fun e he => h e (List.mem_cons_of_mem _ he)]
    rfl
def nmE : E := match i_f_L_names with
  | .cons (.asg _ e) _ => e
  | _ => .non
def nrest : Ss := match i_f_L_names with
  | .cons _ r => r
  | _ => .nil
def nw (d s : Int) (j : Nat) : List Nat := poolL.getD ((d + s * (j : Int)).fmod 30).toNat []
theorem poolLen : poolL.length = 30 := rfl
theorem nw_mem (d s : Int) (j : Nat) : nw d s j ∈ poolL := by
  have q := fm (a := d + s * (j : Int)) (b := 30) (by decide)
  have h : ((d + s * (j : Int)).fmod 30).toNat < poolL.length := by
    rw [poolLen]
    omega
  unfold nw
  rw [List.getD_eq_getElem?_getD, List.getElem?_eq_getElem h]
  exact List.getElem_mem h
theorem nw_at (d s : Int) (j : Nat) : atI (sl poolL) ((d + s * (j : Int)).fmod 30) = some (.str (mkS (nw d s j))) := by
  have q := fm (a := d + s * (j : Int)) (b := 30) (by decide)
  unfold nw
  obtain ⟨m, hm⟩ := Int.eq_ofNat_of_zero_le q.1
  rw [hm] at q ⊢
  have h : m < poolL.length := by
    rw [poolLen]
    omega
  rw [atI_ok (by simpa using h)]
  simp [List.getD, h]
theorem st_at {q : Int} (h0 : 0 ≤ q) (h1 : q < 8) : ∃ p : Int, 0 < p ∧ p ≤ 29 ∧ atI [PyData.int 1, .int 7, .int 11, .int 13, .int 17, .int 19, .int 23, .int 29] q = some (.int p) := by
  obtain ⟨j, rfl⟩ := Int.eq_ofNat_of_zero_le h0
  have hj : j < 8 := by exact_mod_cast h1
  have e := atI_ok (xs := [PyData.int 1, .int 7, .int 11, .int 13, .int 17, .int 19, .int 23, .int 29]) (k := j) hj
  match j, hj with
  | 0, _ | 1, _ | 2, _ | 3, _ | 4, _ | 5, _ | 6, _ | 7, _ => exact ⟨_, by decide, by decide, e⟩
abbrev nelt : E := .ix (.var 2) (.bin .mod (.blt .int (.cons (.bin .add (.var 0) (.bin .mul (.var 4) (.var 5))) .nil)) (.int 30))
theorem names (k : Nat) (d o : Int) : ∃ L : List (List Nat), L.length = 30 ∧ (∀ w ∈ L, w ∈ poolL) ∧ C (k + 1) 10 [.int d, .int o] = some (false, .list (sl L)) := by
  rw [c10 rfl]
  have q8 := fm (a := o) (b := 8) (by decide)
  obtain ⟨s, s0, s1, hs⟩ := st_at q8.1 q8.2
  refine ⟨(List.range 30).map (nw d s), by simp, fun w hw => ?_, ?_⟩
  · obtain ⟨j, _, rfl⟩ := List.mem_map.mp hw
    exact nw_mem d s j
  have st : i_f_L_names = .cons (.asg (.one 2) nmE) nrest := rfl
  have e1 : ∀ ρ, evE gs (C k) nmE ρ = some (.list (sl poolL)) := fun ρ => by kernel_rfl
  have ms : ∀ j : Nat, mulI s (j : Int) = some (s * (j : Int)) := fun j => mul_ok' (by omega)
  have elt : ∀ (j : Nat) (a : D), evE gs (C k) nelt [some (false, .int d), some (false, .int o), some (false, .list (sl poolL)), some (false, a), some (false, .int s), some (false, .int (j : Int))] = some (.str (mkS (nw d s j))) := by
    intro j a
    have h := nw_at d s j
    generalize sl poolL = P at h ⊢
    simp only [exSs, x_asg, x_asgN, x_aug, x_app, x_set, x_clr, x_frz, x_ife, x_ret, x_retO, x_retN, x_brk, x_cnt, x_pass, asgD, evE, evEs, evAnd, evOr, evI, evO, evN, getS, getB, ownL, asgD, outD_rt, outD_nx, binD, addD, intD, augD, ordD, cmpD, asC, isD, isnotD, isnD, isiD, lenD, biD, asB, asI, asL, startD, ixD, seqO_nx, seqO_rt, seqO_bk, seqO_ct, seqO_non, Option.bind_some, Option.bind_none, Option.map_some, Option.map_none, List.getElem?_cons_zero, List.getElem?_cons_succ, List.length_cons, List.length_nil, List.map_cons, List.map_nil, List.set_cons_zero, List.set_cons_succ, List.replicate_succ, List.replicate_zero, List.cons_append, List.nil_append, Nat.reduceAdd, Nat.reduceSub, Nat.reduceLeDiff, Nat.zero_add, Nat.sub_self, Nat.reduceLT, sz, decide_eq_true_eq, decide_true, decide_false, if_true, if_false, ite_true, ite_false, Bool.false_eq_true, Bool.true_eq_false, Bool.not_true, Bool.not_false, not_true_eq_false, not_false_eq_true, eqD_int, eqD_ni, List.foldl_cons, List.foldl_nil, List.zip_cons_cons, List.zip_nil_left, Bool.not_eq_true', decide_eq_false_iff_not, reduceCtorEq, and_true, true_and, and_self, Int.cast_ofNat_Int, Int.natCast_add, Int.natCast_zero, Int.natCast_one, Int.reduceEq, Int.reduceNe, Int.reduceLT, Int.reduceLE, Int.reduceAdd, Int.reduceSub, Int.reduceMul, Int.reduceNeg, ne_eq, ms, mo30, h]
  have cmp : ∀ a : D, evE gs (C k) (.comp nelt 5 (.rng1 (.int 30)) .none) [some (false, .int d), some (false, .int o), some (false, .list (sl poolL)), some (false, a), some (false, .int s), none] = some (.list (sl ((List.range 30).map (nw d s)))) := by
    intro a
    have it : evI gs (C k) (.rng1 (.int 30)) [some (false, .int d), some (false, .int o), some (false, .list (sl poolL)), some (false, a), some (false, .int s), none] = some ((List.range 30).map fun (k : Nat) => .int (k : Int)) := evI_rng (n := 30) (by simp only [exSs, x_asg, x_asgN, x_aug, x_app, x_set, x_clr, x_frz, x_ife, x_ret, x_retO, x_retN, x_brk, x_cnt, x_pass, asgD, evE, evEs, evAnd, evOr, evI, evO, evN, getS, getB, ownL, asgD, outD_rt, outD_nx, binD, addD, intD, augD, ordD, cmpD, asC, isD, isnotD, isnD, isiD, lenD, biD, asB, asI, asL, startD, ixD, seqO_nx, seqO_rt, seqO_bk, seqO_ct, seqO_non, Option.bind_some, Option.bind_none, Option.map_some, Option.map_none, List.getElem?_cons_zero, List.getElem?_cons_succ, List.length_cons, List.length_nil, List.map_cons, List.map_nil, List.set_cons_zero, List.set_cons_succ, List.replicate_succ, List.replicate_zero, List.cons_append, List.nil_append, Nat.reduceAdd, Nat.reduceSub, Nat.reduceLeDiff, Nat.zero_add, Nat.sub_self, Nat.reduceLT, sz, decide_eq_true_eq, decide_true, decide_false, if_true, if_false, ite_true, ite_false, Bool.false_eq_true, Bool.true_eq_false, Bool.not_true, Bool.not_false, not_true_eq_false, not_false_eq_true, eqD_int, eqD_ni, List.foldl_cons, List.foldl_nil, List.zip_cons_cons, List.zip_nil_left, Bool.not_eq_true', decide_eq_false_iff_not, reduceCtorEq, and_true, true_and, and_self, Int.cast_ofNat_Int, Int.natCast_add, Int.natCast_zero, Int.natCast_one, Int.reduceEq, Int.reduceNe, Int.reduceLT, Int.reduceLE, Int.reduceAdd, Int.reduceSub, Int.reduceMul, Int.reduceNeg, ne_eq]) (by decide)
    rw [evE, it, Option.bind_some]
    rw [compD_map (G := fun x => match x with
      | .int i => .str (mkS (nw d s i.toNat))
      | _ => .none) _ fun x hx => ?_]
    · rw [Option.bind_some, if_pos (by simp [sz])]
      simp
    · obtain ⟨j, hj, rfl⟩ := List.mem_map.mp hx
      simp only [evO, Option.bind_some, if_true, List.set_cons_succ, List.set_cons_zero]
      rw [elt]
      rfl
  rw [st]
  generalize sl poolL = P at e1 cmp
  generalize sl ((List.range 30).map (nw d s)) = R at cmp ⊢
  generalize nmE = q at e1 ⊢
  have st2 : nrest = .cons (.asg (.one 3) (.lst (.cons (.int 1) (.cons (.int 7) (.cons (.int 11) (.cons (.int 13) (.cons (.int 17) (.cons (.int 19) (.cons (.int 23) (.cons (.int 29) .nil)))))))))) (.cons (.asg (.one 4) (.ix (.var 3) (.bin .mod (.blt .int (.cons (.var 1) .nil)) (.int 8)))) (.cons (.ret (.comp nelt 5 (.rng1 (.int 30)) .none)) .nil)) := rfl
  rw [st2]
  generalize (E.comp nelt 5 (.rng1 (.int 30)) .none) = ce at cmp ⊢
  simp only [exSs, x_asg, x_asgN, x_aug, x_app, x_set, x_clr, x_frz, x_ife, x_ret, x_retO, x_retN, x_brk, x_cnt, x_pass, asgD, evE, evEs, evAnd, evOr, evI, evO, evN, getS, getB, ownL, asgD, outD_rt, outD_nx, binD, addD, intD, augD, ordD, cmpD, asC, isD, isnotD, isnD, isiD, lenD, biD, asB, asI, asL, startD, ixD, seqO_nx, seqO_rt, seqO_bk, seqO_ct, seqO_non, Option.bind_some, Option.bind_none, Option.map_some, Option.map_none, List.getElem?_cons_zero, List.getElem?_cons_succ, List.length_cons, List.length_nil, List.map_cons, List.map_nil, List.set_cons_zero, List.set_cons_succ, List.replicate_succ, List.replicate_zero, List.cons_append, List.nil_append, Nat.reduceAdd, Nat.reduceSub, Nat.reduceLeDiff, Nat.zero_add, Nat.sub_self, Nat.reduceLT, sz, decide_eq_true_eq, decide_true, decide_false, if_true, if_false, ite_true, ite_false, Bool.false_eq_true, Bool.true_eq_false, Bool.not_true, Bool.not_false, not_true_eq_false, not_false_eq_true, eqD_int, eqD_ni, List.foldl_cons, List.foldl_nil, List.zip_cons_cons, List.zip_nil_left, Bool.not_eq_true', decide_eq_false_iff_not, reduceCtorEq, and_true, true_and, and_self, Int.cast_ofNat_Int, Int.natCast_add, Int.natCast_zero, Int.natCast_one, Int.reduceEq, Int.reduceNe, Int.reduceLT, Int.reduceLE, Int.reduceAdd, Int.reduceSub, Int.reduceMul, Int.reduceNeg, ne_eq, e1, mo8, hs, cmp]
end K02
end
section
namespace K02
open PySem PySem.Spec L2 Ev
abbrev zq : List Nat := [122, 113, 55, 120, 119, 48, 98, 107, 51, 114, 109, 57, 118, 53, 106, 104, 116, 112, 100]
theorem lzq : ("zq7xw0bk3rm9v5jhtpd" : Str) = mkS zq := by decide +kernel
theorem long (k : Nat) (L : List (List Nat)) (hl : L.length = 30) (hL : ∀ w ∈ L, w ∈ poolL) (v : Int) : ∃ a ∈ kwL, ∃ b ∈ poolL, C (k + 2) 14 [.list (sl L), .int v] = some (false, .str (mkS (a ++ b ++ zq))) := by
  rw [c14 rfl]
  have q1 := fm (a := v) (b := 51) (by decide)
  have q2 := fm (a := v.fdiv 7) (b := 30) (by decide)
  obtain ⟨a, ha, a1⟩ := sl_at kwL (q := v.fmod 51) q1.1 (by have : (kwL.length : Int) = 51 := rfl; omega)
  obtain ⟨b, hb, b1⟩ := sl_at L (q := (v.fdiv 7).fmod 30) q2.1 (by rw [hl]; exact q2.2)
  refine ⟨a, ha, b, hL b hb, ?_⟩
  have la := (kw_tok ha).ln
  have lb := (pool_tok (hL b hb)).ln
  have kk := keywords k
  have e1 : mkS a ++ mkS b = mkS (a ++ b) := mk_app2 _ _
  have e2 : mkS (a ++ b) ++ mkS zq = mkS (a ++ b ++ zq) := mk_app2 _ _
  have g1 : (mkS a).length + (mkS b).length ≤ 16777216 := by
    rw [mk_len, mk_len]
    omega
  have g2 : (mkS (a ++ b)).length + (mkS zq).length ≤ 16777216 := by
    rw [mk_len, mk_len, List.length_append]
    simp
    omega
  generalize sl kwL = K at a1 kk
  generalize sl L = P at b1 ⊢
  simp only [i_f_L_long, lzq]
  generalize a ++ b ++ zq = X at e2 ⊢
  generalize a ++ b = Y at e1 e2 g2
  generalize mkS zq = Z at e2 g2 ⊢
  simp only [exSs, x_asg, x_asgN, x_aug, x_app, x_set, x_clr, x_frz, x_ife, x_ret, x_retO, x_retN, x_brk, x_cnt, x_pass, asgD, evE, evEs, evAnd, evOr, evI, evO, evN, getS, getB, ownL, asgD, outD_rt, outD_nx, binD, addD, intD, augD, ordD, cmpD, asC, isD, isnotD, isnD, isiD, lenD, biD, asB, asI, asL, startD, ixD, seqO_nx, seqO_rt, seqO_bk, seqO_ct, seqO_non, Option.bind_some, Option.bind_none, Option.map_some, Option.map_none, List.getElem?_cons_zero, List.getElem?_cons_succ, List.length_cons, List.length_nil, List.map_cons, List.map_nil, List.set_cons_zero, List.set_cons_succ, List.replicate_succ, List.replicate_zero, List.cons_append, List.nil_append, Nat.reduceAdd, Nat.reduceSub, Nat.reduceLeDiff, Nat.zero_add, Nat.sub_self, Nat.reduceLT, sz, decide_eq_true_eq, decide_true, decide_false, if_true, if_false, ite_true, ite_false, Bool.false_eq_true, Bool.true_eq_false, Bool.not_true, Bool.not_false, not_true_eq_false, not_false_eq_true, eqD_int, eqD_ni, List.foldl_cons, List.foldl_nil, List.zip_cons_cons, List.zip_nil_left, Bool.not_eq_true', decide_eq_false_iff_not, reduceCtorEq, and_true, true_and, and_self, Int.cast_ofNat_Int, Int.natCast_add, Int.natCast_zero, Int.natCast_one, Int.reduceEq, Int.reduceNe, Int.reduceLT, Int.reduceLE, Int.reduceAdd, Int.reduceSub, Int.reduceMul, Int.reduceNeg, ne_eq, kk, mo51, mo30, dv7, a1, b1, g1, e1, g2, e2]
theorem cut_first (X : List Nat) : cutS (mkS X) none (some 12) = mkS (X.take 12) := by
  have hl : (mkS X).length = X.length := mk_len X
  unfold cutS
  rw [hl]
  have e1 : HT.sIx X.length 0 none = 0 := rfl
  have e2 : HT.sIx X.length X.length (some 12) = min 12 X.length := by
    unfold HT.sIx
    simp only
    rw [if_neg (by omega)]
    omega
  rw [e1, e2]
  congr 2
  apply List.ext_getElem?
  intro x
  simp only [List.getElem?_take, List.getElem?_drop, Nat.zero_add, Nat.sub_zero]
  by_cases h : x < 12
  · rw [if_pos h]
    by_cases h' : x < min 12 X.length
    · rw [if_pos h']
    · rw [if_neg h', List.getElem?_eq_none (by omega)]
  · rw [if_neg h, if_neg (by omega)]
theorem token (k : Nat) (L : List (List Nat)) (hl : L.length = 30) (hL : ∀ w ∈ L, w ∈ poolL) (v c : Int) : ∃ kd w, Tok kd w ∧ C (k + 3) 15 [.list (sl L), .int v, .int c] = some (false, .list [.str kd, .str (mkS w)]) := by
  rw [c15 rfl]
  have q5 := fm (a := v) (b := 5) (by decide)
  generalize hq : v.fmod 5 = q at q5
  generalize hp : v.fdiv 5 = p
  have hq' : q = 0 ∨ q = 1 ∨ q = 2 ∨ q = 3 ∨ q = 4 := by omega
  rcases hq' with rfl | rfl | rfl | rfl | rfl
  · have q2 := fm (a := p) (b := 30) (by decide)
    obtain ⟨b, hb, b1⟩ := sl_at L (q := p.fmod 30) q2.1 (by rw [hl]; exact q2.2)
    refine ⟨"name", b, pool_tok (hL b hb), ?_⟩
    generalize sl L = P at b1 ⊢
    simp only [exSs, x_asg, x_asgN, x_aug, x_app, x_set, x_clr, x_frz, x_ife, x_ret, x_retO, x_retN, x_brk, x_cnt, x_pass, asgD, evE, evEs, evAnd, evOr, evI, evO, evN, getS, getB, ownL, asgD, outD_rt, outD_nx, binD, addD, intD, augD, ordD, cmpD, asC, isD, isnotD, isnD, isiD, lenD, biD, asB, asI, asL, startD, ixD, seqO_nx, seqO_rt, seqO_bk, seqO_ct, seqO_non, Option.bind_some, Option.bind_none, Option.map_some, Option.map_none, List.getElem?_cons_zero, List.getElem?_cons_succ, List.length_cons, List.length_nil, List.map_cons, List.map_nil, List.set_cons_zero, List.set_cons_succ, List.replicate_succ, List.replicate_zero, List.cons_append, List.nil_append, Nat.reduceAdd, Nat.reduceSub, Nat.reduceLeDiff, Nat.zero_add, Nat.sub_self, Nat.reduceLT, sz, decide_eq_true_eq, decide_true, decide_false, if_true, if_false, ite_true, ite_false, Bool.false_eq_true, Bool.true_eq_false, Bool.not_true, Bool.not_false, not_true_eq_false, not_false_eq_true, eqD_int, eqD_ni, List.foldl_cons, List.foldl_nil, List.zip_cons_cons, List.zip_nil_left, Bool.not_eq_true', decide_eq_false_iff_not, reduceCtorEq, and_true, true_and, and_self, Int.cast_ofNat_Int, Int.natCast_add, Int.natCast_zero, Int.natCast_one, Int.reduceEq, Int.reduceNe, Int.reduceLT, Int.reduceLE, Int.reduceAdd, Int.reduceSub, Int.reduceMul, Int.reduceNeg, ne_eq, i_f_L_token, dv5, mo5, hq, hp, mo30, b1]
  · have q2 := fm (a := p) (b := 51) (by decide)
    obtain ⟨b, hb, b1⟩ := sl_at kwL (q := p.fmod 51) q2.1 (by have : (kwL.length : Int) = 51 := rfl; omega)
    have kk : C (k + 2) 11 [] = some (false, .list (sl kwL)) := keywords (k + 1)
    refine ⟨"keyword", b, kw_tok hb, ?_⟩
    generalize sl kwL = K at b1 kk
    generalize sl L = P
    simp only [exSs, x_asg, x_asgN, x_aug, x_app, x_set, x_clr, x_frz, x_ife, x_ret, x_retO, x_retN, x_brk, x_cnt, x_pass, asgD, evE, evEs, evAnd, evOr, evI, evO, evN, getS, getB, ownL, asgD, outD_rt, outD_nx, binD, addD, intD, augD, ordD, cmpD, asC, isD, isnotD, isnD, isiD, lenD, biD, asB, asI, asL, startD, ixD, seqO_nx, seqO_rt, seqO_bk, seqO_ct, seqO_non, Option.bind_some, Option.bind_none, Option.map_some, Option.map_none, List.getElem?_cons_zero, List.getElem?_cons_succ, List.length_cons, List.length_nil, List.map_cons, List.map_nil, List.set_cons_zero, List.set_cons_succ, List.replicate_succ, List.replicate_zero, List.cons_append, List.nil_append, Nat.reduceAdd, Nat.reduceSub, Nat.reduceLeDiff, Nat.zero_add, Nat.sub_self, Nat.reduceLT, sz, decide_eq_true_eq, decide_true, decide_false, if_true, if_false, ite_true, ite_false, Bool.false_eq_true, Bool.true_eq_false, Bool.not_true, Bool.not_false, not_true_eq_false, not_false_eq_true, eqD_int, eqD_ni, List.foldl_cons, List.foldl_nil, List.zip_cons_cons, List.zip_nil_left, Bool.not_eq_true', decide_eq_false_iff_not, reduceCtorEq, and_true, true_and, and_self, Int.cast_ofNat_Int, Int.natCast_add, Int.natCast_zero, Int.natCast_one, Int.reduceEq, Int.reduceNe, Int.reduceLT, Int.reduceLE, Int.reduceAdd, Int.reduceSub, Int.reduceMul, Int.reduceNeg, ne_eq, i_f_L_token, dv5, mo5, hq, hp, mo51, kk, b1]
  · obtain ⟨m, hm, n1⟩ : ∃ m : Nat, m ≤ 999999999 ∧ C (k + 2) 13 [.int c, .int p] = some (false, .int (m : Int)) := number (k + 1) c p
    refine ⟨"number", dg m, num_tok hm, ?_⟩
    have lg : ((m : Int)).natAbs.log2 < 1920 := by
      by_cases h0 : m = 0
      · subst h0
        decide
      · have : (m : Int).natAbs.log2 < 30 := (Nat.log2_lt (by omega)).mpr (by omega)
        omega
    have nn := num_nat m
    generalize sl L = P
    simp only [exSs, x_asg, x_asgN, x_aug, x_app, x_set, x_clr, x_frz, x_ife, x_ret, x_retO, x_retN, x_brk, x_cnt, x_pass, asgD, evE, evEs, evAnd, evOr, evI, evO, evN, getS, getB, ownL, asgD, outD_rt, outD_nx, binD, addD, intD, augD, ordD, cmpD, asC, isD, isnotD, isnD, isiD, lenD, biD, asB, asI, asL, startD, ixD, seqO_nx, seqO_rt, seqO_bk, seqO_ct, seqO_non, Option.bind_some, Option.bind_none, Option.map_some, Option.map_none, List.getElem?_cons_zero, List.getElem?_cons_succ, List.length_cons, List.length_nil, List.map_cons, List.map_nil, List.set_cons_zero, List.set_cons_succ, List.replicate_succ, List.replicate_zero, List.cons_append, List.nil_append, Nat.reduceAdd, Nat.reduceSub, Nat.reduceLeDiff, Nat.zero_add, Nat.sub_self, Nat.reduceLT, sz, decide_eq_true_eq, decide_true, decide_false, if_true, if_false, ite_true, ite_false, Bool.false_eq_true, Bool.true_eq_false, Bool.not_true, Bool.not_false, not_true_eq_false, not_false_eq_true, eqD_int, eqD_ni, List.foldl_cons, List.foldl_nil, List.zip_cons_cons, List.zip_nil_left, Bool.not_eq_true', decide_eq_false_iff_not, reduceCtorEq, and_true, true_and, and_self, Int.cast_ofNat_Int, Int.natCast_add, Int.natCast_zero, Int.natCast_one, Int.reduceEq, Int.reduceNe, Int.reduceLT, Int.reduceLE, Int.reduceAdd, Int.reduceSub, Int.reduceMul, Int.reduceNeg, ne_eq, i_f_L_token, dv5, mo5, hq, hp, n1, lg, nn]
  · have q2 := fm (a := p) (b := 18) (by decide)
    obtain ⟨b, hb, b1⟩ := sl_at sgL (q := p.fmod 18) q2.1 (by have : (sgL.length : Int) = 18 := rfl; omega)
    have kk : C (k + 2) 12 [] = some (false, .list (sl sgL)) := signs (k + 1)
    refine ⟨"sign", b, sg_tok hb, ?_⟩
    generalize sl sgL = K at b1 kk
    generalize sl L = P
    simp only [exSs, x_asg, x_asgN, x_aug, x_app, x_set, x_clr, x_frz, x_ife, x_ret, x_retO, x_retN, x_brk, x_cnt, x_pass, asgD, evE, evEs, evAnd, evOr, evI, evO, evN, getS, getB, ownL, asgD, outD_rt, outD_nx, binD, addD, intD, augD, ordD, cmpD, asC, isD, isnotD, isnD, isiD, lenD, biD, asB, asI, asL, startD, ixD, seqO_nx, seqO_rt, seqO_bk, seqO_ct, seqO_non, Option.bind_some, Option.bind_none, Option.map_some, Option.map_none, List.getElem?_cons_zero, List.getElem?_cons_succ, List.length_cons, List.length_nil, List.map_cons, List.map_nil, List.set_cons_zero, List.set_cons_succ, List.replicate_succ, List.replicate_zero, List.cons_append, List.nil_append, Nat.reduceAdd, Nat.reduceSub, Nat.reduceLeDiff, Nat.zero_add, Nat.sub_self, Nat.reduceLT, sz, decide_eq_true_eq, decide_true, decide_false, if_true, if_false, ite_true, ite_false, Bool.false_eq_true, Bool.true_eq_false, Bool.not_true, Bool.not_false, not_true_eq_false, not_false_eq_true, eqD_int, eqD_ni, List.foldl_cons, List.foldl_nil, List.zip_cons_cons, List.zip_nil_left, Bool.not_eq_true', decide_eq_false_iff_not, reduceCtorEq, and_true, true_and, and_self, Int.cast_ofNat_Int, Int.natCast_add, Int.natCast_zero, Int.natCast_one, Int.reduceEq, Int.reduceNe, Int.reduceLT, Int.reduceLE, Int.reduceAdd, Int.reduceSub, Int.reduceMul, Int.reduceNeg, ne_eq, i_f_L_token, dv5, mo5, hq, hp, mo18, kk, b1]
  · obtain ⟨a, ha, b, hb, lg⟩ := long k L hl hL p
    refine ⟨"name", (a ++ b ++ zq).take 12, long_tok ha hb, ?_⟩
    have cf := cut_first (a ++ b ++ zq)
    have la := (kw_tok ha).ln
    have lb := (pool_tok hb).ln
    have g1 : (a ++ b ++ zq).length ≤ 16777216 := by
      rw [List.length_append, List.length_append]
      simp
      omega
    generalize a ++ b ++ zq = X at lg cf g1 ⊢
    generalize sl L = P at lg ⊢
    simp only [exSs, x_asg, x_asgN, x_aug, x_app, x_set, x_clr, x_frz, x_ife, x_ret, x_retO, x_retN, x_brk, x_cnt, x_pass, asgD, evE, evEs, evAnd, evOr, evI, evO, evN, getS, getB, ownL, asgD, outD_rt, outD_nx, binD, addD, intD, augD, ordD, cmpD, asC, isD, isnotD, isnD, isiD, lenD, biD, asB, asI, asL, startD, ixD, seqO_nx, seqO_rt, seqO_bk, seqO_ct, seqO_non, Option.bind_some, Option.bind_none, Option.map_some, Option.map_none, List.getElem?_cons_zero, List.getElem?_cons_succ, List.length_cons, List.length_nil, List.map_cons, List.map_nil, List.set_cons_zero, List.set_cons_succ, List.replicate_succ, List.replicate_zero, List.cons_append, List.nil_append, Nat.reduceAdd, Nat.reduceSub, Nat.reduceLeDiff, Nat.zero_add, Nat.sub_self, Nat.reduceLT, sz, decide_eq_true_eq, decide_true, decide_false, if_true, if_false, ite_true, ite_false, Bool.false_eq_true, Bool.true_eq_false, Bool.not_true, Bool.not_false, not_true_eq_false, not_false_eq_true, eqD_int, eqD_ni, List.foldl_cons, List.foldl_nil, List.zip_cons_cons, List.zip_nil_left, Bool.not_eq_true', decide_eq_false_iff_not, reduceCtorEq, and_true, true_and, and_self, Int.cast_ofNat_Int, Int.natCast_add, Int.natCast_zero, Int.natCast_one, Int.reduceEq, Int.reduceNe, Int.reduceLT, Int.reduceLE, Int.reduceAdd, Int.reduceSub, Int.reduceMul, Int.reduceNeg, ne_eq, i_f_L_token, dv5, mo5, hq, hp, lg, slD, g1, mk_len, cf]
end K02
end
section
namespace K02
open PySem PySem.Spec L2 Ev
def Tk (d : D) : Prop := ∃ (kd : Str) (w : List Nat) (r c : Int), d = tk kd w r c ∧ PyData.strOk kd = true ∧ ∀ x ∈ w, x < 128
theorem mo3 (a : Int) : modI a 3 = some (a.fmod 3) := mod_ok (by decide)
theorem mo4 (a : Int) : modI a 4 = some (a.fmod 4) := mod_ok (by decide)
theorem mo6 (a : Int) : modI a 6 = some (a.fmod 6) := mod_ok (by decide)
theorem mo43 (a : Int) : modI a 43 = some (a.fmod 43) := mod_ok (by decide)
theorem dv6 (a : Int) : divI a 6 = some (a.fdiv 6) := div_ok (by decide)
theorem c20 {k ds} (h : ds.length = 2) : C (k + 1) 20 ds = outD (exSs gs (C k) 5000 i_f_L_same (startD 4 ds)) := call_step (fn := ⟨2, 4, i_f_L_same⟩) rfl h (by decide)
theorem c21 {k ds} (h : ds.length = 3) : C (k + 1) 21 ds = outD (exSs gs (C k) 5000 i_f_L_bad (startD 7 ds)) := call_step (fn := ⟨3, 7, i_f_L_bad⟩) rfl h (by decide)
theorem c22 {k ds} (h : ds.length = 6) : C (k + 1) 22 ds = outD (exSs gs (C k) 5000 i_f_L_tokens (startD 13 ds)) := call_step (fn := ⟨6, 13, i_f_L_tokens⟩) rfl h (by decide)
theorem c23 {k ds} (h : ds.length = 1) : C (k + 1) 23 ds = outD (exSs gs (C k) 5000 i_f_law (startD 18 ds)) := call_step (fn := ⟨1, 18, i_f_law⟩) rfl h (by decide)
theorem eq_tk {kd : Str} {w : List Nat} {r c : Int} (h1 : PyData.strOk kd = true) (h2 : ∀ x ∈ w, x < 128) : eqD (tk kd w r c) (tk kd w r c) = some true := by
  have hs : SeqAt.shaped (tk kd w r c) = true := by
    simp [SeqAt.shaped, PyData.canLay0, PyData.canLayAll0, PyData.depth, PyData.depthAll, h1, mk_ok h2]
  unfold eqD
  rw [if_pos ⟨hs, hs⟩]
  simp [PyData.eqv, PyData.eqvAll]
theorem same (k : Nat) (ds : List D) (hd : ∀ d ∈ ds, Tk d) (hl : ds.length ≤ 1000) : C (k + 2) 20 [.list ds, .list ds] = some (false, .bool true) := by
  rw [c20 rfl]
  have i9 : ∀ v, C (k + 1) 9 [.int v] = some (false, .bool true) := isint_int k
  simp only [exSs, x_asg, x_asgN, x_aug, x_app, x_set, x_clr, x_frz, x_ife, x_ret, x_retO, x_retN, x_brk, x_cnt, x_pass, asgD, evE, evEs, evAnd, evOr, evI, evO, evN, getS, getB, ownL, asgD, outD_rt, outD_nx, binD, addD, intD, augD, ordD, cmpD, asC, isD, isnotD, isnD, isiD, lenD, biD, asB, asI, asL, startD, ixD, seqO_nx, seqO_rt, seqO_bk, seqO_ct, seqO_non, Option.bind_some, Option.bind_none, Option.map_some, Option.map_none, List.getElem?_cons_zero, List.getElem?_cons_succ, List.length_cons, List.length_nil, List.map_cons, List.map_nil, List.set_cons_zero, List.set_cons_succ, List.replicate_succ, List.replicate_zero, List.cons_append, List.nil_append, Nat.reduceAdd, Nat.reduceSub, Nat.reduceLeDiff, Nat.zero_add, Nat.sub_self, Nat.reduceLT, sz, decide_eq_true_eq, decide_true, decide_false, if_true, if_false, ite_true, ite_false, Bool.false_eq_true, Bool.true_eq_false, Bool.not_true, Bool.not_false, not_true_eq_false, not_false_eq_true, eqD_int, eqD_ni, List.foldl_cons, List.foldl_nil, List.zip_cons_cons, List.zip_nil_left, Bool.not_eq_true', decide_eq_false_iff_not, reduceCtorEq, and_true, true_and, and_self, Int.cast_ofNat_Int, Int.natCast_add, Int.natCast_zero, Int.natCast_one, Int.reduceEq, Int.reduceNe, Int.reduceLT, Int.reduceLE, Int.reduceAdd, Int.reduceSub, Int.reduceMul, Int.reduceNeg, ne_eq, i_f_L_same]
  refine for_goal (fun o => outD o = some (false, .bool true)) (ds := (List.range ds.length).map fun (k : Nat) => .int (k : Int)) (fun _ ρ => ∃ a b, ρ = [some (false, .list ds), some (false, .list ds), a, b]) (evI_rng (by simp only [exSs, x_asg, x_asgN, x_aug, x_app, x_set, x_clr, x_frz, x_ife, x_ret, x_retO, x_retN, x_brk, x_cnt, x_pass, asgD, evE, evEs, evAnd, evOr, evI, evO, evN, getS, getB, ownL, asgD, outD_rt, outD_nx, binD, addD, intD, augD, ordD, cmpD, asC, isD, isnotD, isnD, isiD, lenD, biD, asB, asI, asL, startD, ixD, seqO_nx, seqO_rt, seqO_bk, seqO_ct, seqO_non, Option.bind_some, Option.bind_none, Option.map_some, Option.map_none, List.getElem?_cons_zero, List.getElem?_cons_succ, List.length_cons, List.length_nil, List.map_cons, List.map_nil, List.set_cons_zero, List.set_cons_succ, List.replicate_succ, List.replicate_zero, List.cons_append, List.nil_append, Nat.reduceAdd, Nat.reduceSub, Nat.reduceLeDiff, Nat.zero_add, Nat.sub_self, Nat.reduceLT, sz, decide_eq_true_eq, decide_true, decide_false, if_true, if_false, ite_true, ite_false, Bool.false_eq_true, Bool.true_eq_false, Bool.not_true, Bool.not_false, not_true_eq_false, not_false_eq_true, eqD_int, eqD_ni, List.foldl_cons, List.foldl_nil, List.zip_cons_cons, List.zip_nil_left, Bool.not_eq_true', decide_eq_false_iff_not, reduceCtorEq, and_true, true_and, and_self, Int.cast_ofNat_Int, Int.natCast_add, Int.natCast_zero, Int.natCast_one, Int.reduceEq, Int.reduceNe, Int.reduceLT, Int.reduceLE, Int.reduceAdd, Int.reduceSub, Int.reduceMul, Int.reduceNeg, ne_eq]) (by omega)) ⟨_, _, rfl⟩ (fun i d ρ hd' hp => ?_) ?_
  · obtain ⟨hi, rfl⟩ := rng_at hd'
    obtain ⟨a, b, rfl⟩ := hp
    obtain ⟨kd, w, r, c, e, h1, h2⟩ := hd _ (List.getElem_mem hi)
    have a1 : atI ds (i : Int) = some (tk kd w r c) := by
      rw [atI_ok hi, e]
    have e2 := eq_tk (r := r) (c := c) h1 h2
    refine ⟨_, [some (false, .list ds), some (false, .list ds), some (false, .int (i : Int)), some (false, tk kd w r c)], rfl, .inl ?_, _, _, rfl⟩
    simp only [exSs, x_asg, x_asgN, x_aug, x_app, x_set, x_clr, x_frz, x_ife, x_ret, x_retO, x_retN, x_brk, x_cnt, x_pass, asgD, evE, evEs, evAnd, evOr, evI, evO, evN, getS, getB, ownL, asgD, outD_rt, outD_nx, binD, addD, intD, augD, ordD, cmpD, asC, isD, isnotD, isnD, isiD, lenD, biD, asB, asI, asL, startD, ixD, seqO_nx, seqO_rt, seqO_bk, seqO_ct, seqO_non, Option.bind_some, Option.bind_none, Option.map_some, Option.map_none, List.getElem?_cons_zero, List.getElem?_cons_succ, List.length_cons, List.length_nil, List.map_cons, List.map_nil, List.set_cons_zero, List.set_cons_succ, List.replicate_succ, List.replicate_zero, List.cons_append, List.nil_append, Nat.reduceAdd, Nat.reduceSub, Nat.reduceLeDiff, Nat.zero_add, Nat.sub_self, Nat.reduceLT, sz, decide_eq_true_eq, decide_true, decide_false, if_true, if_false, ite_true, ite_false, Bool.false_eq_true, Bool.true_eq_false, Bool.not_true, Bool.not_false, not_true_eq_false, not_false_eq_true, eqD_int, eqD_ni, List.foldl_cons, List.foldl_nil, List.zip_cons_cons, List.zip_nil_left, Bool.not_eq_true', decide_eq_false_iff_not, reduceCtorEq, and_true, true_and, and_self, Int.cast_ofNat_Int, Int.natCast_add, Int.natCast_zero, Int.natCast_one, Int.reduceEq, Int.reduceNe, Int.reduceLT, Int.reduceLE, Int.reduceAdd, Int.reduceSub, Int.reduceMul, Int.reduceNeg, ne_eq, a1, at0, at1, at2, at3, i9, e2]
  · rintro ρ ⟨a, b, rfl⟩
    simp only [exSs, x_asg, x_asgN, x_aug, x_app, x_set, x_clr, x_frz, x_ife, x_ret, x_retO, x_retN, x_brk, x_cnt, x_pass, asgD, evE, evEs, evAnd, evOr, evI, evO, evN, getS, getB, ownL, asgD, outD_rt, outD_nx, binD, addD, intD, augD, ordD, cmpD, asC, isD, isnotD, isnD, isiD, lenD, biD, asB, asI, asL, startD, ixD, seqO_nx, seqO_rt, seqO_bk, seqO_ct, seqO_non, Option.bind_some, Option.bind_none, Option.map_some, Option.map_none, List.getElem?_cons_zero, List.getElem?_cons_succ, List.length_cons, List.length_nil, List.map_cons, List.map_nil, List.set_cons_zero, List.set_cons_succ, List.replicate_succ, List.replicate_zero, List.cons_append, List.nil_append, Nat.reduceAdd, Nat.reduceSub, Nat.reduceLeDiff, Nat.zero_add, Nat.sub_self, Nat.reduceLT, sz, decide_eq_true_eq, decide_true, decide_false, if_true, if_false, ite_true, ite_false, Bool.false_eq_true, Bool.true_eq_false, Bool.not_true, Bool.not_false, not_true_eq_false, not_false_eq_true, eqD_int, eqD_ni, List.foldl_cons, List.foldl_nil, List.zip_cons_cons, List.zip_nil_left, Bool.not_eq_true', decide_eq_false_iff_not, reduceCtorEq, and_true, true_and, and_self, Int.cast_ofNat_Int, Int.natCast_add, Int.natCast_zero, Int.natCast_one, Int.reduceEq, Int.reduceNe, Int.reduceLT, Int.reduceLE, Int.reduceAdd, Int.reduceSub, Int.reduceMul, Int.reduceNeg, ne_eq]
/-! a list of tokens by draws -/
def tbd : Ss := match i_f_L_tokens with
  | .cons _ (.cons _ (.cons _ (.cons _ (.cons (.for_ _ _ b) _)))) => b
  | _ => .nil
def trest : Ss := match i_f_L_tokens with
  | .cons _ (.cons _ (.cons _ (.cons _ (.cons _ r)))) => r
  | _ => .nil
def tb2 : Ss := match tbd with
  | .cons _ (.cons _ (.cons _ r)) => r
  | _ => .nil
def TP (N M PK CC GP RM : D) (i : Nat) (ρ : Env') : Prop := ∃ (text before : List Nat) (ex : List D) (row col : Int) (a b c : SV), ρ = [some (false, N), some (false, M), some (false, PK), some (false, CC), some (false, GP), some (false, RM), some (false, .str (mkS text)), some (false, .list [.int row, .int col]), some (false, .str (mkS before)), some (true, .list ex), a, b, c] ∧
  Inv text before ex row col ∧ (∀ d ∈ ex, Tk d) ∧ ex.length ≤ i ∧ (∀ c ∈ text, c < 128) ∧ text.length ≤ 40 * i ∧ (∀ c ∈ before, c < 128) ∧ before.length ≤ 20
theorem tb2_ok (k : Nat) (N M PK CC GP RM : D) (text before g w : List Nat) (kd : Str) (ex : List D) (row col : Int) (i : Int) (ht : text.length ≤ 1000) (hex : ex.length ≤ 100) (hg : ∀ c ∈ g, c < 128) (hgl : g.length ≤ 20) (hw : ∀ c ∈ w, c < 128) (hwl : w.length ≤ 20) :
    exSs gs (C (k + 3)) 5000 tb2 [some (false, N), some (false, M), some (false, PK), some (false, CC), some (false, GP), some (false, RM), some (false, .str (mkS text)), some (false, .list [.int row, .int col]), some (false, .str (mkS before)), some (true, .list ex), some (false, .int i), some (false, .list [.str kd, .str (mkS w)]), some (false, .str (mkS g))] =
    some (.nx [some (false, N), some (false, M), some (false, PK), some (false, CC), some (false, GP), some (false, RM), some (false, .str (mkS (text ++ (g ++ w)))), some (false, .list [.int (mv w (mv g row col).1 (mv g row col).2).1, .int (mv w (mv g row col).1 (mv g row col).2).2]), some (false, .str (mkS w)), some (true, .list (ex ++ [tk kd w (mv g row col).1 (mv g row col).2])), some (false, .int i), some (false, .list [.str kd, .str (mkS w)]), some (false, .str (mkS g))]) := by
  have m1 : C (k + 3) 19 [.list [.int row, .int col], .str (mkS g)] = some (false, .list [.int (mv g row col).1, .int (mv g row col).2]) := moved (k + 2) g hg row col
  have m2 : C (k + 3) 19 [.list [.int (mv g row col).1, .int (mv g row col).2], .str (mkS w)] = some (false, .list [.int (mv w (mv g row col).1 (mv g row col).2).1, .int (mv w (mv g row col).1 (mv g row col).2).2]) := moved (k + 2) w hw _ _
  have e1 : mkS text ++ mkS g = mkS (text ++ g) := mk_app2 _ _
  have e2 : mkS (text ++ g) ++ mkS w = mkS (text ++ (g ++ w)) := by rw [mk_app2, List.append_assoc]
  have g1 : (mkS text).length + (mkS g).length ≤ 16777216 := by
    rw [mk_len, mk_len]
    omega
  have g2 : (mkS (text ++ g)).length + (mkS w).length ≤ 16777216 := by
    rw [mk_len, mk_len, List.length_append]
    omega
  have g3 : ex.length < 16777216 := by omega
  generalize (mv w (mv g row col).1 (mv g row col).2) = p2 at m2 ⊢
  generalize mv g row col = p1 at m1 m2 ⊢
  generalize mkS (text ++ (g ++ w)) = T3 at e2 ⊢
  generalize mkS (text ++ g) = T2 at e1 e2 g2
  generalize mkS text = T1 at e1 g1 ⊢
  simp only [tb2, tbd, i_f_L_tokens]
  simp only [exSs, x_asg, x_asgN, x_aug, x_app, x_set, x_clr, x_frz, x_ife, x_ret, x_retO, x_retN, x_brk, x_cnt, x_pass, asgD, evE, evEs, evAnd, evOr, evI, evO, evN, getS, getB, ownL, asgD, outD_rt, outD_nx, binD, addD, intD, augD, ordD, cmpD, asC, isD, isnotD, isnD, isiD, lenD, biD, asB, asI, asL, startD, ixD, seqO_nx, seqO_rt, seqO_bk, seqO_ct, seqO_non, Option.bind_some, Option.bind_none, Option.map_some, Option.map_none, List.getElem?_cons_zero, List.getElem?_cons_succ, List.length_cons, List.length_nil, List.map_cons, List.map_nil, List.set_cons_zero, List.set_cons_succ, List.replicate_succ, List.replicate_zero, List.cons_append, List.nil_append, Nat.reduceAdd, Nat.reduceSub, Nat.reduceLeDiff, Nat.zero_add, Nat.sub_self, Nat.reduceLT, sz, decide_eq_true_eq, decide_true, decide_false, if_true, if_false, ite_true, ite_false, Bool.false_eq_true, Bool.true_eq_false, Bool.not_true, Bool.not_false, not_true_eq_false, not_false_eq_true, eqD_int, eqD_ni, List.foldl_cons, List.foldl_nil, List.zip_cons_cons, List.zip_nil_left, Bool.not_eq_true', decide_eq_false_iff_not, reduceCtorEq, and_true, true_and, and_self, Int.cast_ofNat_Int, Int.natCast_add, Int.natCast_zero, Int.natCast_one, Int.reduceEq, Int.reduceNe, Int.reduceLT, Int.reduceLE, Int.reduceAdd, Int.reduceSub, Int.reduceMul, Int.reduceNeg, ne_eq, m1, m2, e1, e2, g1, g2, g3, at0, at1, tk]
theorem tb_step (k : Nat) (L : List (List Nat)) (hl : L.length = 30) (hL : ∀ w ∈ L, w ∈ poolL) (n : Int) (y z u : Nat → Int) (ny nz nu : Nat) (cc : Int) {i : Nat} (hy : i < ny) (hz : i < nz) (hu : i < nu) (hi : i < 12) {ρ : Env'} (hp : TP (.list (sl L)) (.int n) (.list (drL y ny)) (.int cc) (.list (drL z nz)) (.list (drL u nu)) i ρ) :
    ∃ ρ1 ρ', asgD (.one 10) (.int (i : Int)) ρ = some ρ1 ∧ (exSs gs (C (k + 3)) 5000 tbd ρ1 = some (.nx ρ') ∨ exSs gs (C (k + 3)) 5000 tbd ρ1 = some (.ct ρ')) ∧ TP (.list (sl L)) (.int n) (.list (drL y ny)) (.int cc) (.list (drL z nz)) (.list (drL u nu)) (i + 1) ρ' := by
  obtain ⟨text, before, ex, row, col, a, b, c, rfl, hI, hex, hxl, htx, htl, hbf, hbl⟩ := hp
  have r1 := dr_at (x := y) (n := ny) (k := i) hy
  have r2 := dr_at (x := z) (n := nz) (k := i) hz
  have r3 := dr_at (x := u) (n := nu) (k := i) hu
  obtain ⟨kd, w, hw, tk1⟩ := token k L hl hL (y i) cc
  obtain ⟨g0, gg, hg0, hgs0, hgl0⟩ := gap (k + 1) (z i) (u i)
  have jj : C (k + 3) 18 [.str (mkS before), .str (mkS w)] = some (false, .bool (jn before w)) := joined (k + 2) before w hbf hw.sm (by omega) (by have := hw.ln; omega)
  have tk1' : C (k + 3) 15 [.list (sl L), .int (y i), .int cc] = some (false, .list [.str kd, .str (mkS w)]) := tk1
  have gg' : C (k + 3) 17 [.int (z i), .int (u i)] = some (false, .str (mkS g0)) := gg
  obtain ⟨g, hg, hgs, hgl, hj, pre⟩ : ∃ g, Gp g ∧ (∀ c ∈ g, c < 128) ∧ g.length ≤ 20 ∧ (g = [] → jn before w = false) ∧ ∀ (P G R : D) (hP : P = .list (drL y ny)) (hG : G = .list (drL z nz)) (hR : R = .list (drL u nu)),
      exSs gs (C (k + 3)) 5000 tbd [some (false, .list (sl L)), some (false, .int n), some (false, P), some (false, .int cc), some (false, G), some (false, R), some (false, .str (mkS text)), some (false, .list [.int row, .int col]), some (false, .str (mkS before)), some (true, .list ex), some (false, .int (i : Int)), b, c] = exSs gs (C (k + 3)) 5000 tb2 [some (false, .list (sl L)), some (false, .int n), some (false, P), some (false, .int cc), some (false, G), some (false, R), some (false, .str (mkS text)), some (false, .list [.int row, .int col]), some (false, .str (mkS before)), some (true, .list ex), some (false, .int (i : Int)), some (false, .list [.str kd, .str (mkS w)]), some (false, .str (mkS g))] := by
    have st : tbd = .cons (.asg (.one 11) (.call 15 (.cons (.var 0) (.cons (.ix (.var 2) (.var 10)) (.cons (.var 3) .nil))))) (.cons (.asg (.one 12) (.call 17 (.cons (.ix (.var 4) (.var 10)) (.cons (.ix (.var 5) (.var 10)) .nil)))) (.cons (.ife (.and (.cons (.cmp .eq (.var 12) (.str "")) (.cons (.call 18 (.cons (.var 8) (.cons (.ix (.var 11) (.int 1)) .nil))) .nil))) (.cons (.asg (.one 12) (.str " ")) .nil) .nil) tb2)) := rfl
    rw [st]
    have e0 : eqD (.str (mkS [])) (.str (mkS [])) = some true := by
      rw [eq_mk (by simp) (by simp)]
      rfl
    generalize sl L = NN at tk1'
    have eg : eqD (.str (mkS g0)) (.str (mkS [])) = some (decide (g0 = [])) := eq_mk hgs0 (by simp)
    by_cases hg0' : g0 = []
    · subst hg0'
      cases hjn : jn before w with
      | true =>
        rw [hjn] at jj
        refine ⟨[32], .sp .nil, by simp, by simp, fun e => (by cases e), ?_⟩
        rintro P G R rfl rfl rfl
        generalize drL y ny = P at r1
        generalize drL z nz = G at r2
        generalize drL u nu = R at r3
        rw [lem, n1]
        simp only [exSs, x_asg, x_asgN, x_aug, x_app, x_set, x_clr, x_frz, x_ife, x_ret, x_retO, x_retN, x_brk, x_cnt, x_pass, asgD, evE, evEs, evAnd, evOr, evI, evO, evN, getS, getB, ownL, asgD, outD_rt, outD_nx, binD, addD, intD, augD, ordD, cmpD, asC, isD, isnotD, isnD, isiD, lenD, biD, asB, asI, asL, startD, ixD, seqO_nx, seqO_rt, seqO_bk, seqO_ct, seqO_non, Option.bind_some, Option.bind_none, Option.map_some, Option.map_none, List.getElem?_cons_zero, List.getElem?_cons_succ, List.length_cons, List.length_nil, List.map_cons, List.map_nil, List.set_cons_zero, List.set_cons_succ, List.replicate_succ, List.replicate_zero, List.cons_append, List.nil_append, Nat.reduceAdd, Nat.reduceSub, Nat.reduceLeDiff, Nat.zero_add, Nat.sub_self, Nat.reduceLT, sz, decide_eq_true_eq, decide_true, decide_false, if_true, if_false, ite_true, ite_false, Bool.false_eq_true, Bool.true_eq_false, Bool.not_true, Bool.not_false, not_true_eq_false, not_false_eq_true, eqD_int, eqD_ni, List.foldl_cons, List.foldl_nil, List.zip_cons_cons, List.zip_nil_left, Bool.not_eq_true', decide_eq_false_iff_not, reduceCtorEq, and_true, true_and, and_self, Int.cast_ofNat_Int, Int.natCast_add, Int.natCast_zero, Int.natCast_one, Int.reduceEq, Int.reduceNe, Int.reduceLT, Int.reduceLE, Int.reduceAdd, Int.reduceSub, Int.reduceMul, Int.reduceNeg, ne_eq, r1, r2, r3, tk1', gg', e0, jj, at1]
      | false =>
        rw [hjn] at jj
        refine ⟨[], .nil, by simp, by simp, fun _ => rfl, ?_⟩
        rintro P G R rfl rfl rfl
        generalize drL y ny = P at r1
        generalize drL z nz = G at r2
        generalize drL u nu = R at r3
        rw [lem, n1]
        simp only [exSs, x_asg, x_asgN, x_aug, x_app, x_set, x_clr, x_frz, x_ife, x_ret, x_retO, x_retN, x_brk, x_cnt, x_pass, asgD, evE, evEs, evAnd, evOr, evI, evO, evN, getS, getB, ownL, asgD, outD_rt, outD_nx, binD, addD, intD, augD, ordD, cmpD, asC, isD, isnotD, isnD, isiD, lenD, biD, asB, asI, asL, startD, ixD, seqO_nx, seqO_rt, seqO_bk, seqO_ct, seqO_non, Option.bind_some, Option.bind_none, Option.map_some, Option.map_none, List.getElem?_cons_zero, List.getElem?_cons_succ, List.length_cons, List.length_nil, List.map_cons, List.map_nil, List.set_cons_zero, List.set_cons_succ, List.replicate_succ, List.replicate_zero, List.cons_append, List.nil_append, Nat.reduceAdd, Nat.reduceSub, Nat.reduceLeDiff, Nat.zero_add, Nat.sub_self, Nat.reduceLT, sz, decide_eq_true_eq, decide_true, decide_false, if_true, if_false, ite_true, ite_false, Bool.false_eq_true, Bool.true_eq_false, Bool.not_true, Bool.not_false, not_true_eq_false, not_false_eq_true, eqD_int, eqD_ni, List.foldl_cons, List.foldl_nil, List.zip_cons_cons, List.zip_nil_left, Bool.not_eq_true', decide_eq_false_iff_not, reduceCtorEq, and_true, true_and, and_self, Int.cast_ofNat_Int, Int.natCast_add, Int.natCast_zero, Int.natCast_one, Int.reduceEq, Int.reduceNe, Int.reduceLT, Int.reduceLE, Int.reduceAdd, Int.reduceSub, Int.reduceMul, Int.reduceNeg, ne_eq, r1, r2, r3, tk1', gg', e0, jj, at1]
    · rw [decide_eq_false hg0'] at eg
      refine ⟨g0, hg0, hgs0, hgl0, fun e => absurd e hg0', ?_⟩
      rintro P G R rfl rfl rfl
      generalize drL y ny = P at r1
      generalize drL z nz = G at r2
      generalize drL u nu = R at r3
      rw [lem, n1]
      simp only [exSs, x_asg, x_asgN, x_aug, x_app, x_set, x_clr, x_frz, x_ife, x_ret, x_retO, x_retN, x_brk, x_cnt, x_pass, asgD, evE, evEs, evAnd, evOr, evI, evO, evN, getS, getB, ownL, asgD, outD_rt, outD_nx, binD, addD, intD, augD, ordD, cmpD, asC, isD, isnotD, isnD, isiD, lenD, biD, asB, asI, asL, startD, ixD, seqO_nx, seqO_rt, seqO_bk, seqO_ct, seqO_non, Option.bind_some, Option.bind_none, Option.map_some, Option.map_none, List.getElem?_cons_zero, List.getElem?_cons_succ, List.length_cons, List.length_nil, List.map_cons, List.map_nil, List.set_cons_zero, List.set_cons_succ, List.replicate_succ, List.replicate_zero, List.cons_append, List.nil_append, Nat.reduceAdd, Nat.reduceSub, Nat.reduceLeDiff, Nat.zero_add, Nat.sub_self, Nat.reduceLT, sz, decide_eq_true_eq, decide_true, decide_false, if_true, if_false, ite_true, ite_false, Bool.false_eq_true, Bool.true_eq_false, Bool.not_true, Bool.not_false, not_true_eq_false, not_false_eq_true, eqD_int, eqD_ni, List.foldl_cons, List.foldl_nil, List.zip_cons_cons, List.zip_nil_left, Bool.not_eq_true', decide_eq_false_iff_not, reduceCtorEq, and_true, true_and, and_self, Int.cast_ofNat_Int, Int.natCast_add, Int.natCast_zero, Int.natCast_one, Int.reduceEq, Int.reduceNe, Int.reduceLT, Int.reduceLE, Int.reduceAdd, Int.reduceSub, Int.reduceMul, Int.reduceNeg, ne_eq, r1, r2, r3, tk1', gg', eg, at1]
  have l2 := tb2_ok k (.list (sl L)) (.int n) (.list (drL y ny)) (.int cc) (.list (drL z nz)) (.list (drL u nu)) text before g w kd ex row col (i : Int) (by omega) (by omega) hgs hgl hw.sm hw.ln
  refine ⟨_, _, rfl, .inl ((pre _ _ _ rfl rfl rfl).trans l2), _, _, _, _, _, _, _, _, rfl, inv_step hI hg hw hj, ?_, by simp; omega, ?_, ?_, hw.sm, hw.ln⟩
  · intro d hd
    rcases List.mem_append.mp hd with hd | hd
    · exact hex d hd
    · cases List.mem_singleton.mp hd
      exact ⟨kd, w, _, _, rfl, hw.ok, hw.sm⟩
  · intro d hd
    rcases List.mem_append.mp hd with hd | hd
    · exact htx d hd
    · rcases List.mem_append.mp hd with hd | hd
      · exact hgs d hd
      · exact hw.sm d hd
  · have := hw.ln
    simp
    omega
theorem tokens (k : Nat) (L : List (List Nat)) (hl : L.length = 30) (hL : ∀ w ∈ L, w ∈ poolL) (n : Nat) (hn : n < 12) (y z u : Nat → Int) (ny nz nu : Nat) (hy : n ≤ ny) (hz : n ≤ nz) (hu : n ≤ nu) (cc : Int) :
    ∃ (text before : List Nat) (ex : List D) (row col : Int), C (k + 4) 22 [.list (sl L), .int (n : Int), .list (drL y ny), .int cc, .list (drL z nz), .list (drL u nu)] = some (false, .list [.str (mkS text), .list [.int row, .int col], .str (mkS before), .list ex]) ∧
      Inv text before ex row col ∧ (∀ d ∈ ex, Tk d) ∧ ex.length ≤ n ∧ (∀ c ∈ text, c < 128) ∧ text.length ≤ 40 * n ∧ (∀ c ∈ before, c < 128) ∧ before.length ≤ 20 := by
  rw [c22 rfl]
  have st : exSs gs (C (k + 3)) 5000 i_f_L_tokens (startD 13 [.list (sl L), .int (n : Int), .list (drL y ny), .int cc, .list (drL z nz), .list (drL u nu)]) = seqO (exS gs (C (k + 3)) 5000 (.for_ (.one 10) (.rng1 (.var 1)) tbd) [some (false, .list (sl L)), some (false, .int (n : Int)), some (false, .list (drL y ny)), some (false, .int cc), some (false, .list (drL z nz)), some (false, .list (drL u nu)), some (false, .str (mkS [])), some (false, .list [.int 1, .int 1]), some (false, .str (mkS [])), some (true, .list []), none, none, none]) fun ρ => exSs gs (C (k + 3)) 5000 trest ρ := by
    have st0 : i_f_L_tokens = .cons (.asg (.one 6) (.str "")) (.cons (.asg (.one 7) (.lst (.cons (.int 1) (.cons (.int 1) .nil)))) (.cons (.asg (.one 8) (.str "")) (.cons (.asgN 9 (.lst .nil)) (.cons (.for_ (.one 10) (.rng1 (.var 1)) tbd) trest)))) := rfl
    rw [st0, lem]
    generalize tbd = B
    generalize trest = R
    generalize sl L = N
    generalize drL y ny = Y
    generalize drL z nz = Z
    generalize drL u nu = U
    generalize mkS [] = X
    simp only [exSs, x_asg, x_asgN, x_aug, x_app, x_set, x_clr, x_frz, x_ife, x_ret, x_retO, x_retN, x_brk, x_cnt, x_pass, asgD, evE, evEs, evAnd, evOr, evI, evO, evN, getS, getB, ownL, asgD, outD_rt, outD_nx, binD, addD, intD, augD, ordD, cmpD, asC, isD, isnotD, isnD, isiD, lenD, biD, asB, asI, asL, startD, ixD, seqO_nx, seqO_rt, seqO_bk, seqO_ct, seqO_non, Option.bind_some, Option.bind_none, Option.map_some, Option.map_none, List.getElem?_cons_zero, List.getElem?_cons_succ, List.length_cons, List.length_nil, List.map_cons, List.map_nil, List.set_cons_zero, List.set_cons_succ, List.replicate_succ, List.replicate_zero, List.cons_append, List.nil_append, Nat.reduceAdd, Nat.reduceSub, Nat.reduceLeDiff, Nat.zero_add, Nat.sub_self, Nat.reduceLT, sz, decide_eq_true_eq, decide_true, decide_false, if_true, if_false, ite_true, ite_false, Bool.false_eq_true, Bool.true_eq_false, Bool.not_true, Bool.not_false, not_true_eq_false, not_false_eq_true, eqD_int, eqD_ni, List.foldl_cons, List.foldl_nil, List.zip_cons_cons, List.zip_nil_left, Bool.not_eq_true', decide_eq_false_iff_not, reduceCtorEq, and_true, true_and, and_self, Int.cast_ofNat_Int, Int.natCast_add, Int.natCast_zero, Int.natCast_one, Int.reduceEq, Int.reduceNe, Int.reduceLT, Int.reduceLE, Int.reduceAdd, Int.reduceSub, Int.reduceMul, Int.reduceNeg, ne_eq]
  rw [st]
  have hI0 : Inv [] [] [] 1 1 := inv_zero .nil
  refine for_goal (fun o => ∃ (text before : List Nat) (ex : List D) (row col : Int), outD o = some (false, .list [.str (mkS text), .list [.int row, .int col], .str (mkS before), .list ex]) ∧ Inv text before ex row col ∧ (∀ d ∈ ex, Tk d) ∧ ex.length ≤ n ∧ (∀ c ∈ text, c < 128) ∧ text.length ≤ 40 * n ∧ (∀ c ∈ before, c < 128) ∧ before.length ≤ 20) (ds := (List.range n).map fun (k : Nat) => .int (k : Int)) (TP (.list (sl L)) (.int (n : Int)) (.list (drL y ny)) (.int cc) (.list (drL z nz)) (.list (drL u nu))) (evI_rng (by simp only [exSs, x_asg, x_asgN, x_aug, x_app, x_set, x_clr, x_frz, x_ife, x_ret, x_retO, x_retN, x_brk, x_cnt, x_pass, asgD, evE, evEs, evAnd, evOr, evI, evO, evN, getS, getB, ownL, asgD, outD_rt, outD_nx, binD, addD, intD, augD, ordD, cmpD, asC, isD, isnotD, isnD, isiD, lenD, biD, asB, asI, asL, startD, ixD, seqO_nx, seqO_rt, seqO_bk, seqO_ct, seqO_non, Option.bind_some, Option.bind_none, Option.map_some, Option.map_none, List.getElem?_cons_zero, List.getElem?_cons_succ, List.length_cons, List.length_nil, List.map_cons, List.map_nil, List.set_cons_zero, List.set_cons_succ, List.replicate_succ, List.replicate_zero, List.cons_append, List.nil_append, Nat.reduceAdd, Nat.reduceSub, Nat.reduceLeDiff, Nat.zero_add, Nat.sub_self, Nat.reduceLT, sz, decide_eq_true_eq, decide_true, decide_false, if_true, if_false, ite_true, ite_false, Bool.false_eq_true, Bool.true_eq_false, Bool.not_true, Bool.not_false, not_true_eq_false, not_false_eq_true, eqD_int, eqD_ni, List.foldl_cons, List.foldl_nil, List.zip_cons_cons, List.zip_nil_left, Bool.not_eq_true', decide_eq_false_iff_not, reduceCtorEq, and_true, true_and, and_self, Int.cast_ofNat_Int, Int.natCast_add, Int.natCast_zero, Int.natCast_one, Int.reduceEq, Int.reduceNe, Int.reduceLT, Int.reduceLE, Int.reduceAdd, Int.reduceSub, Int.reduceMul, Int.reduceNeg, ne_eq]) (by omega)) ⟨[], [], [], 1, 1, none, none, none, rfl, hI0, by simp, by simp, by simp, by simp, by simp, by simp⟩ (fun i d ρ hd hp => ?_) ?_
  · obtain ⟨hi, rfl⟩ := rng_at hd
    exact tb_step k L hl hL n y z u ny nz nu cc (by omega) (by omega) (by omega) (by omega) hp
  · rintro ρ ⟨text, before, ex, row, col, a, b, c, rfl, hI, hex, hxl, htx, htl, hbf, hbl⟩
    rw [List.length_map, List.length_range] at hxl htl
    refine ⟨text, before, ex, row, col, ?_, hI, hex, hxl, htx, htl, hbf, hbl⟩
    generalize sl L = N
    generalize drL y ny = Y
    generalize drL z nz = Z
    generalize drL u nu = U
    simp only [trest, i_f_L_tokens]
    simp only [exSs, x_asg, x_asgN, x_aug, x_app, x_set, x_clr, x_frz, x_ife, x_ret, x_retO, x_retN, x_brk, x_cnt, x_pass, asgD, evE, evEs, evAnd, evOr, evI, evO, evN, getS, getB, ownL, asgD, outD_rt, outD_nx, binD, addD, intD, augD, ordD, cmpD, asC, isD, isnotD, isnD, isiD, lenD, biD, asB, asI, asL, startD, ixD, seqO_nx, seqO_rt, seqO_bk, seqO_ct, seqO_non, Option.bind_some, Option.bind_none, Option.map_some, Option.map_none, List.getElem?_cons_zero, List.getElem?_cons_succ, List.length_cons, List.length_nil, List.map_cons, List.map_nil, List.set_cons_zero, List.set_cons_succ, List.replicate_succ, List.replicate_zero, List.cons_append, List.nil_append, Nat.reduceAdd, Nat.reduceSub, Nat.reduceLeDiff, Nat.zero_add, Nat.sub_self, Nat.reduceLT, sz, decide_eq_true_eq, decide_true, decide_false, if_true, if_false, ite_true, ite_false, Bool.false_eq_true, Bool.true_eq_false, Bool.not_true, Bool.not_false, not_true_eq_false, not_false_eq_true, eqD_int, eqD_ni, List.foldl_cons, List.foldl_nil, List.zip_cons_cons, List.zip_nil_left, Bool.not_eq_true', decide_eq_false_iff_not, reduceCtorEq, and_true, true_and, and_self, Int.cast_ofNat_Int, Int.natCast_add, Int.natCast_zero, Int.natCast_one, Int.reduceEq, Int.reduceNe, Int.reduceLT, Int.reduceLE, Int.reduceAdd, Int.reduceSub, Int.reduceMul, Int.reduceNeg, ne_eq]
end K02
end
section
namespace K02
open PySem PySem.Spec L2 Ev
/-- a bad token: nothing that joins stands behind it -/
structure Bad (w : List Nat) : Prop where
  ne : w ≠ []
  sm : ∀ c ∈ w, c < 128
  cl : ∀ c ∈ w, c ≠ 10 ∧ c ≠ 32 ∧ c ≠ 35
  ln : w.length ≤ 30
  rd : ∀ r, jn w r = false → tka (w ++ r) = (("bad" : Str), w)
theorem tl_bad {w : List Nat} (hb : Bad w) {r : List Nat} (hr : jn w r = false) (row col : Int) : tl (w ++ r) 0 row col = [tk "bad" w row col] := by
  have h := hb.rd r hr
  obtain ⟨c, w', rfl⟩ : ∃ c w', w = c :: w' := by
    cases w with
    | nil => exact absurd rfl hb.ne
    | cons c w' => exact ⟨c, w', rfl⟩
  obtain ⟨a1, a2, a3⟩ := hb.cl c List.mem_cons_self
  rw [List.cons_append] at h ⊢
  rw [tl, if_neg a1, if_neg a2, if_neg a3, h]
  simp only [if_true]
theorem bad_run {w : List Nat} (hn : w ≠ []) (h : ∀ c ∈ w, isrun c = true) (hl : w.length ≤ 30) (hk : rk w = "bad") : Bad w := by
  refine ⟨hn, fun c hc => (run_fact (h c hc)).1, fun c hc => (run_fact (h c hc)).2, hl, fun r hj => ?_⟩
  rw [← hk]
  refine tka_run hn h r fun d hd => ?_
  unfold jn at hj
  obtain ⟨x, hx⟩ : ∃ x, w.getLast? = some x := ⟨_, List.getLast?_eq_some_getLast hn⟩
  rw [hx, hd] at hj
  simp only [h x (List.mem_of_getLast? hx), Bool.true_and] at hj
  cases hr : isrun d with
  | false => rfl
  | true =>
    rw [hr] at hj
    simp at hj
theorem bad_one {c : Nat} (h1 : isrun c = false) (h2 : shB [c] = false) (h3 : c = 61 ∨ c = 60 ∨ c = 62 → False) (hc : c < 128 ∧ c ≠ 10 ∧ c ≠ 32 ∧ c ≠ 35) : Bad [c] := by
  refine ⟨by simp, fun d hd => by cases List.mem_singleton.mp hd; exact hc.1, fun d hd => by cases List.mem_singleton.mp hd; exact hc.2, by simp, fun r hj => ?_⟩
  rw [List.cons_append, List.nil_append]
  unfold tka
  simp only
  rw [if_neg (by rw [h1]; simp)]
  have h4 : loB ((c :: r).take 2) = false := by
    cases r with
    | nil => exact loB_one c
    | cons d r =>
      show loB [c, d] = false
      rw [loB_two]
      unfold jn at hj
      simp only [List.getLast?_singleton, List.head?_cons, h1, Bool.false_and, Bool.false_eq_true, if_false, List.cons.injEq, and_true] at hj
      have n1 : decide (c = 61) = false := decide_eq_false fun e => h3 (.inl e)
      have n2 : decide (c = 60) = false := decide_eq_false fun e => h3 (.inr (.inl e))
      have n3 : decide (c = 62) = false := decide_eq_false fun e => h3 (.inr (.inr e))
      rw [n1, n2, n3] at hj ⊢
      simpa using hj
  rw [if_neg (by rw [h4]; simp), if_neg (by rw [h2]; simp)]
abbrev oth : Str := "!\"$&':?@ABCDEFGHIJKLMNOPQRSTUVWXYZ[\\]^_`|~\t"
def othB (c : Nat) : Bool := !isrun c && (!shB [c] && (!(decide (c = 61) || decide (c = 60) || decide (c = 62)) && (decide (c < 128) && !(decide (c = 10) || decide (c = 32) || decide (c = 35)))))
theorem oth_all : oth.cps.toList.all othB = true := by decide +kernel
theorem oth_len : oth.cps.toList.length = 43 := by decide +kernel
theorem oth_bad {c : Nat} (h : c ∈ oth.cps.toList) : Bad [c] := by
  have := List.all_eq_true.mp oth_all c h
  simp only [othB, Bool.and_eq_true, Bool.not_eq_true', Bool.or_eq_false_iff, decide_eq_false_iff_not, decide_eq_true_eq] at this
  obtain ⟨a1, a2, a3, a4, a5⟩ := this
  exact bad_one a1 a2 (fun h => by rcases h with h | h | h <;> omega) ⟨a4, a5.1.1, a5.1.2, a5.2⟩
theorem kw_short : kwS.all (fun a => decide (a.cps.toList.length ≤ 12)) = true := by decide +kernel
theorem kw_long {w : List Nat} (h : 12 < w.length) : kw w = false := by
  unfold kw
  rw [List.any_eq_false]
  intro a ha e
  have h1 := List.all_eq_true.mp kw_short a ha
  have e' := of_decide_eq_true e
  subst e'
  have h2 := of_decide_eq_true h1
  simp at h2
  omega
theorem isdig_let {c : Nat} (h : isdig c = true) : islet c = false := by
  unfold isdig at h
  unfold islet
  simp only [Bool.and_eq_true, decide_eq_true_eq] at h
  rw [decide_eq_false (by omega)]
  rfl
theorem rk_long {c : Nat} {r : List Nat} (h : islet c = true) (hl : 12 < (c :: r).length) : rk (c :: r) = "bad" := by
  unfold rk
  simp only
  rw [if_pos h]
  unfold wk
  rw [if_neg (by rw [kw_long hl]; simp), if_pos hl]
def letB (a : List Nat) : Bool := match a with
  | [] => false
  | c :: _ => islet c
theorem kw_let : kwL.all letB = true := by decide +kernel
theorem pool_let : poolL.all letB = true := by decide +kernel
theorem tok_is {kd : Str} {w : List Nat} (h : runB w kd = true) : ∀ c ∈ w, isrun c = true := by
  simp only [runB, Bool.and_eq_true, decide_eq_true_eq, List.all_eq_true, Bool.not_eq_true', List.isEmpty_eq_false_iff] at h
  exact h.2.1
theorem zq_run : zq.all isrun = true := by decide +kernel
theorem bad_long {a b : List Nat} (ha : a ∈ kwL) (hb : b ∈ poolL) {n : Nat} (h1 : 13 ≤ n) (h2 : n ≤ 20) : Bad ((a ++ b ++ zq).take n) := by
  have ra := tok_is (List.all_eq_true.mp kw_all a ha)
  have rb := tok_is (List.all_eq_true.mp pool_all b hb)
  have rz : ∀ c ∈ zq, isrun c = true := List.all_eq_true.mp zq_run
  have lk := List.all_eq_true.mp kw_let a ha
  obtain ⟨c, a', rfl⟩ : ∃ c a', a = c :: a' := by
    cases a with
    | nil => exact absurd lk (by simp [letB])
    | cons c a' => exact ⟨c, a', rfl⟩
  have hz : zq.length = 19 := rfl
  have lb : 0 < b.length := by
    have := List.all_eq_true.mp pool_let b hb
    cases b with
    | nil => exact absurd this (by simp [letB])
    | cons => simp
  have hlen : ((c :: a' ++ b ++ zq).take n).length = n := by
    rw [List.length_take, List.length_append, List.length_append, List.length_cons, hz]
    omega
  refine bad_run (fun e => ?_) (fun d hd => ?_) (by rw [hlen]; omega) ?_
  · rw [e] at hlen
    simp at hlen
    omega
  · rcases List.mem_append.mp (List.mem_of_mem_take hd) with h | h
    · rcases List.mem_append.mp h with h | h
      · exact ra d h
      · exact rb d h
    · exact rz d h
  · obtain ⟨m, rfl⟩ : ∃ m, n = m + 1 := ⟨n - 1, by omega⟩
    rw [List.cons_append, List.cons_append, List.take_succ_cons] at hlen ⊢
    exact rk_long lk (by omega)
theorem rk_dig {c : Nat} {r : List Nat} (h : isdig c = true) (h2 : (c :: r).all isdig = false ∨ 9 < (c :: r).length ∨ (c = 48 ∧ 1 < (c :: r).length)) : rk (c :: r) = "bad" := by
  unfold rk
  simp only
  rw [if_neg (by rw [isdig_let h]; simp)]
  by_cases h3 : (!(c :: r).all isdig || decide (9 < (c :: r).length)) = true
  · rw [if_pos h3]
  · rw [if_neg h3]
    simp only [Bool.or_eq_true, Bool.not_eq_true', decide_eq_true_eq, not_or, Bool.not_eq_false] at h3
    rcases h2 with h2 | h2 | ⟨h2, h4⟩
    · rw [h2] at h3
      exact absurd h3.1 (by simp)
    · exact absurd h2 h3.2
    · subst h2
      rw [if_pos (by simpa using h4)]
theorem dg_run (m : Nat) : ∀ c ∈ dg m, isrun c = true := fun c hc => by unfold isrun; rw [dg_all m c hc, Bool.or_true]
theorem dg_cons (m : Nat) : ∃ c r, dg m = c :: r ∧ isdig c = true := by
  cases h : dg m with
  | nil => exact absurd h (dg_ne m)
  | cons c r => exact ⟨c, r, rfl, dg_all m c (by rw [h]; exact List.mem_cons_self)⟩
theorem dg_many : ∀ (k m : Nat), 10 ^ k ≤ m → k < (dg m).length
  | 0, m, h => by
    have := dg_ne m
    exact List.length_pos_iff.mpr this
  | k + 1, m, h => by
    rw [Nat.pow_succ] at h
    have := dg_many k (m / 10) (by omega)
    have hp : 0 < 10 ^ k := Nat.pow_pos (by decide)
    rw [dg_step, if_neg (by omega), List.length_append, List.length_singleton]
    omega
theorem bad_zero {m : Nat} (h : m ≤ 999999999) : Bad (48 :: dg m) := by
  have hl : (dg m).length ≤ 9 := dg_len 8 m (by omega)
  have hp : 0 < (dg m).length := List.length_pos_iff.mpr (dg_ne m)
  refine bad_run (by simp) (fun c hc => ?_) (by rw [List.length_cons]; omega) (rk_dig (by decide) (.inr (.inr ⟨rfl, by rw [List.length_cons]; omega⟩)))
  rcases List.mem_cons.mp hc with rfl | hc
  · decide
  · exact dg_run m c hc
theorem bad_many {m : Nat} (h : m ≤ 999999999) {t : List Nat} (ht : ∀ c ∈ t, isdig c = true) (hl : t.length ≤ 5) : Bad (dg (1000000000 + m) ++ t) := by
  have h1 : (dg (1000000000 + m)).length ≤ 10 := dg_len 9 _ (by omega)
  have h2 : 9 < (dg (1000000000 + m)).length := dg_many 9 _ (by omega)
  obtain ⟨c, r, e, hc⟩ := dg_cons (1000000000 + m)
  have hr := dg_run (1000000000 + m)
  rw [e] at h1 h2 hr ⊢
  refine bad_run (by simp) (fun d hd => ?_) (by rw [List.length_append]; omega) (rk_dig (r := r ++ t) hc (.inr (.inl (by
    have : (c :: (r ++ t)).length = (c :: r).length + t.length := by simp; omega
    omega))))
  rcases List.mem_append.mp hd with hd | hd
  · exact hr d hd
  · unfold isrun
    rw [ht d hd, Bool.or_true]
theorem bad_name {m : Nat} (h : m ≤ 999999999) {b : List Nat} (hb : b ∈ poolL) : Bad (dg m ++ b) := by
  have h1 : (dg m).length ≤ 9 := dg_len 8 m (by omega)
  have rb := tok_is (List.all_eq_true.mp pool_all b hb)
  have lb := (pool_tok hb).ln
  have lk := List.all_eq_true.mp pool_let b hb
  obtain ⟨c, r, e, hc⟩ := dg_cons m
  have hr := dg_run m
  rw [e] at h1 hr ⊢
  refine bad_run (by simp) (fun d hd => ?_) (by rw [List.length_append]; omega) (rk_dig hc (.inl ?_))
  · rcases List.mem_append.mp hd with hd | hd
    · exact hr d hd
    · exact rb d hd
  · cases b with
    | nil => exact absurd lk (by simp [letB])
    | cons x b =>
      have hx : isdig x = false := by
        cases hx : isdig x with
        | false => rfl
        | true =>
          rw [show letB (x :: b) = islet x from rfl, isdig_let hx] at lk
          cases lk
      rw [List.all_eq_false]
      exact ⟨x, by simp, by rw [hx]; simp⟩
end K02
end
section
namespace K02
open PySem PySem.Spec L2 Ev
theorem cut_n (X : List Nat) (n : Nat) : cutS (mkS X) none (some (n : Int)) = mkS (X.take n) := by
  have hl : (mkS X).length = X.length := mk_len X
  unfold cutS
  rw [hl]
  have e1 : HT.sIx X.length 0 none = 0 := rfl
  have e2 : HT.sIx X.length X.length (some (n : Int)) = min n X.length := by
    unfold HT.sIx
    simp only
    rw [if_neg (by omega)]
    omega
  rw [e1, e2]
  congr 2
  apply List.ext_getElem?
  intro x
  simp only [List.getElem?_take, List.getElem?_drop, Nat.zero_add, Nat.sub_zero]
  by_cases h : x < n
  · rw [if_pos h]
    by_cases h' : x < min n X.length
    · rw [if_pos h']
    · rw [if_neg h', List.getElem?_eq_none (by omega)]
  · rw [if_neg h, if_neg (by omega)]
def brest : Ss := match i_f_L_bad with
  | .cons _ (.cons _ (.cons _ (.cons _ r))) => r
  | _ => .nil
theorem l9 : ("90876" : Str) = mkS [57, 48, 56, 55, 54] := by decide +kernel
theorem l0' : ("0" : Str) = mkS [48] := by decide +kernel
theorem dv7' (a : Int) : divI a 7 = some (a.fdiv 7) := div_ok (by decide)
theorem oth_at {q : Int} (h0 : 0 ≤ q) (h1 : q < 43) : ∃ c, Bad [c] ∧ atI oth.cps.toList q = some c := by
  obtain ⟨j, rfl⟩ := Int.eq_ofNat_of_zero_le h0
  have hj : j < oth.cps.toList.length := by
    rw [oth_len]
    omega
  exact ⟨_, oth_bad (List.getElem_mem hj), atI_ok hj⟩
theorem bad (k : Nat) (L : List (List Nat)) (hl : L.length = 30) (hL : ∀ w ∈ L, w ∈ poolL) (v c : Int) : ∃ w, Bad w ∧ C (k + 3) 21 [.list (sl L), .int v, .int c] = some (false, .str (mkS w)) := by
  rw [c21 rfl]
  have q6 := fm (a := v) (b := 6) (by decide)
  generalize hq : v.fmod 6 = q at q6
  generalize hp : v.fdiv 6 = p
  obtain ⟨m, hm, n1⟩ : ∃ m : Nat, m ≤ 999999999 ∧ C (k + 2) 13 [.int c, .int p] = some (false, .int (m : Int)) := number (k + 1) c p
  have lg : ((m : Int)).natAbs.log2 < 1920 := by
    by_cases h0 : m = 0
    · subst h0
      decide
    · have : (m : Int).natAbs.log2 < 30 := (Nat.log2_lt (by omega)).mpr (by omega)
      omega
  have lg2 : ((1000000000 + (m : Int))).natAbs.log2 < 1920 := by
    have : (1000000000 + (m : Int)).natAbs.log2 < 40 := (Nat.log2_lt (by omega)).mpr (by omega)
    omega
  have st : i_f_L_bad = .cons (.asg (.one 3) (.str oth)) (.cons (.asg (.one 4) (.blt .int (.cons (.bin .fdiv (.var 1) (.int 6)) .nil))) (.cons (.asg (.one 5) (.bin .mod (.blt .int (.cons (.var 1) .nil)) (.int 6))) (.cons (.asg (.one 6) (.call 13 (.cons (.var 2) (.cons (.var 4) .nil)))) brest))) := rfl
  have go : exSs gs (C (k + 2)) 5000 i_f_L_bad (startD 7 [.list (sl L), .int v, .int c]) = exSs gs (C (k + 2)) 5000 brest [some (false, .list (sl L)), some (false, .int v), some (false, .int c), some (false, .str oth), some (false, .int p), some (false, .int q), some (false, .int (m : Int))] := by
    rw [st]
    generalize brest = B
    generalize oth = O
    generalize sl L = N
    refine (asg1 (.str O) (by simp only [exSs, x_asg, x_asgN, x_aug, x_app, x_set, x_clr, x_frz, x_ife, x_ret, x_retO, x_retN, x_brk, x_cnt, x_pass, asgD, evE, evEs, evAnd, evOr, evI, evO, evN, getS, getB, ownL, asgD, outD_rt, outD_nx, binD, addD, intD, augD, ordD, cmpD, asC, isD, isnotD, isnD, isiD, lenD, biD, asB, asI, asL, startD, ixD, seqO_nx, seqO_rt, seqO_bk, seqO_ct, seqO_non, Option.bind_some, Option.bind_none, Option.map_some, Option.map_none, List.getElem?_cons_zero, List.getElem?_cons_succ, List.length_cons, List.length_nil, List.map_cons, List.map_nil, List.set_cons_zero, List.set_cons_succ, List.replicate_succ, List.replicate_zero, List.cons_append, List.nil_append, Nat.reduceAdd, Nat.reduceSub, Nat.reduceLeDiff, Nat.zero_add, Nat.sub_self, Nat.reduceLT, sz, decide_eq_true_eq, decide_true, decide_false, if_true, if_false, ite_true, ite_false, Bool.false_eq_true, Bool.true_eq_false, Bool.not_true, Bool.not_false, not_true_eq_false, not_false_eq_true, eqD_int, eqD_ni, List.foldl_cons, List.foldl_nil, List.zip_cons_cons, List.zip_nil_left, Bool.not_eq_true', decide_eq_false_iff_not, reduceCtorEq, and_true, true_and, and_self, Int.cast_ofNat_Int, Int.natCast_add, Int.natCast_zero, Int.natCast_one, Int.reduceEq, Int.reduceNe, Int.reduceLT, Int.reduceLE, Int.reduceAdd, Int.reduceSub, Int.reduceMul, Int.reduceNeg, ne_eq])).trans ?_
    refine (asg1 (.int p) (by simp only [exSs, x_asg, x_asgN, x_aug, x_app, x_set, x_clr, x_frz, x_ife, x_ret, x_retO, x_retN, x_brk, x_cnt, x_pass, asgD, evE, evEs, evAnd, evOr, evI, evO, evN, getS, getB, ownL, asgD, outD_rt, outD_nx, binD, addD, intD, augD, ordD, cmpD, asC, isD, isnotD, isnD, isiD, lenD, biD, asB, asI, asL, startD, ixD, seqO_nx, seqO_rt, seqO_bk, seqO_ct, seqO_non, Option.bind_some, Option.bind_none, Option.map_some, Option.map_none, List.getElem?_cons_zero, List.getElem?_cons_succ, List.length_cons, List.length_nil, List.map_cons, List.map_nil, List.set_cons_zero, List.set_cons_succ, List.replicate_succ, List.replicate_zero, List.cons_append, List.nil_append, Nat.reduceAdd, Nat.reduceSub, Nat.reduceLeDiff, Nat.zero_add, Nat.sub_self, Nat.reduceLT, sz, decide_eq_true_eq, decide_true, decide_false, if_true, if_false, ite_true, ite_false, Bool.false_eq_true, Bool.true_eq_false, Bool.not_true, Bool.not_false, not_true_eq_false, not_false_eq_true, eqD_int, eqD_ni, List.foldl_cons, List.foldl_nil, List.zip_cons_cons, List.zip_nil_left, Bool.not_eq_true', decide_eq_false_iff_not, reduceCtorEq, and_true, true_and, and_self, Int.cast_ofNat_Int, Int.natCast_add, Int.natCast_zero, Int.natCast_one, Int.reduceEq, Int.reduceNe, Int.reduceLT, Int.reduceLE, Int.reduceAdd, Int.reduceSub, Int.reduceMul, Int.reduceNeg, ne_eq, dv6, hp])).trans ?_
    refine (asg1 (.int q) (by simp only [exSs, x_asg, x_asgN, x_aug, x_app, x_set, x_clr, x_frz, x_ife, x_ret, x_retO, x_retN, x_brk, x_cnt, x_pass, asgD, evE, evEs, evAnd, evOr, evI, evO, evN, getS, getB, ownL, asgD, outD_rt, outD_nx, binD, addD, intD, augD, ordD, cmpD, asC, isD, isnotD, isnD, isiD, lenD, biD, asB, asI, asL, startD, ixD, seqO_nx, seqO_rt, seqO_bk, seqO_ct, seqO_non, Option.bind_some, Option.bind_none, Option.map_some, Option.map_none, List.getElem?_cons_zero, List.getElem?_cons_succ, List.length_cons, List.length_nil, List.map_cons, List.map_nil, List.set_cons_zero, List.set_cons_succ, List.replicate_succ, List.replicate_zero, List.cons_append, List.nil_append, Nat.reduceAdd, Nat.reduceSub, Nat.reduceLeDiff, Nat.zero_add, Nat.sub_self, Nat.reduceLT, sz, decide_eq_true_eq, decide_true, decide_false, if_true, if_false, ite_true, ite_false, Bool.false_eq_true, Bool.true_eq_false, Bool.not_true, Bool.not_false, not_true_eq_false, not_false_eq_true, eqD_int, eqD_ni, List.foldl_cons, List.foldl_nil, List.zip_cons_cons, List.zip_nil_left, Bool.not_eq_true', decide_eq_false_iff_not, reduceCtorEq, and_true, true_and, and_self, Int.cast_ofNat_Int, Int.natCast_add, Int.natCast_zero, Int.natCast_one, Int.reduceEq, Int.reduceNe, Int.reduceLT, Int.reduceLE, Int.reduceAdd, Int.reduceSub, Int.reduceMul, Int.reduceNeg, ne_eq, mo6, hq])).trans ?_
    refine (asg1 (.int (m : Int)) (by simp only [exSs, x_asg, x_asgN, x_aug, x_app, x_set, x_clr, x_frz, x_ife, x_ret, x_retO, x_retN, x_brk, x_cnt, x_pass, asgD, evE, evEs, evAnd, evOr, evI, evO, evN, getS, getB, ownL, asgD, outD_rt, outD_nx, binD, addD, intD, augD, ordD, cmpD, asC, isD, isnotD, isnD, isiD, lenD, biD, asB, asI, asL, startD, ixD, seqO_nx, seqO_rt, seqO_bk, seqO_ct, seqO_non, Option.bind_some, Option.bind_none, Option.map_some, Option.map_none, List.getElem?_cons_zero, List.getElem?_cons_succ, List.length_cons, List.length_nil, List.map_cons, List.map_nil, List.set_cons_zero, List.set_cons_succ, List.replicate_succ, List.replicate_zero, List.cons_append, List.nil_append, Nat.reduceAdd, Nat.reduceSub, Nat.reduceLeDiff, Nat.zero_add, Nat.sub_self, Nat.reduceLT, sz, decide_eq_true_eq, decide_true, decide_false, if_true, if_false, ite_true, ite_false, Bool.false_eq_true, Bool.true_eq_false, Bool.not_true, Bool.not_false, not_true_eq_false, not_false_eq_true, eqD_int, eqD_ni, List.foldl_cons, List.foldl_nil, List.zip_cons_cons, List.zip_nil_left, Bool.not_eq_true', decide_eq_false_iff_not, reduceCtorEq, and_true, true_and, and_self, Int.cast_ofNat_Int, Int.natCast_add, Int.natCast_zero, Int.natCast_one, Int.reduceEq, Int.reduceNe, Int.reduceLT, Int.reduceLE, Int.reduceAdd, Int.reduceSub, Int.reduceMul, Int.reduceNeg, ne_eq, n1])).trans ?_
    simp only [exSs, x_asg, x_asgN, x_aug, x_app, x_set, x_clr, x_frz, x_ife, x_ret, x_retO, x_retN, x_brk, x_cnt, x_pass, asgD, evE, evEs, evAnd, evOr, evI, evO, evN, getS, getB, ownL, asgD, outD_rt, outD_nx, binD, addD, intD, augD, ordD, cmpD, asC, isD, isnotD, isnD, isiD, lenD, biD, asB, asI, asL, startD, ixD, seqO_nx, seqO_rt, seqO_bk, seqO_ct, seqO_non, Option.bind_some, Option.bind_none, Option.map_some, Option.map_none, List.getElem?_cons_zero, List.getElem?_cons_succ, List.length_cons, List.length_nil, List.map_cons, List.map_nil, List.set_cons_zero, List.set_cons_succ, List.replicate_succ, List.replicate_zero, List.cons_append, List.nil_append, Nat.reduceAdd, Nat.reduceSub, Nat.reduceLeDiff, Nat.zero_add, Nat.sub_self, Nat.reduceLT, sz, decide_eq_true_eq, decide_true, decide_false, if_true, if_false, ite_true, ite_false, Bool.false_eq_true, Bool.true_eq_false, Bool.not_true, Bool.not_false, not_true_eq_false, not_false_eq_true, eqD_int, eqD_ni, List.foldl_cons, List.foldl_nil, List.zip_cons_cons, List.zip_nil_left, Bool.not_eq_true', decide_eq_false_iff_not, reduceCtorEq, and_true, true_and, and_self, Int.cast_ofNat_Int, Int.natCast_add, Int.natCast_zero, Int.natCast_one, Int.reduceEq, Int.reduceNe, Int.reduceLT, Int.reduceLE, Int.reduceAdd, Int.reduceSub, Int.reduceMul, Int.reduceNeg, ne_eq]
  rw [go]
  have ol : oth.length ≤ 16777216 := by decide +kernel
  have hq' : q = 0 ∨ q = 1 ∨ q = 2 ∨ q = 3 ∨ q = 4 ∨ q = 5 := by omega
  rcases hq' with rfl | rfl | rfl | rfl | rfl | rfl
  · have q2 := fm (a := c.fdiv 7 + p) (b := 43) (by decide)
    obtain ⟨x, hx, a1⟩ := oth_at q2.1 q2.2
    refine ⟨[x], hx, ?_⟩
    generalize oth = O at ol a1 ⊢
    generalize sl L = N
    simp only [exSs, x_asg, x_asgN, x_aug, x_app, x_set, x_clr, x_frz, x_ife, x_ret, x_retO, x_retN, x_brk, x_cnt, x_pass, asgD, evE, evEs, evAnd, evOr, evI, evO, evN, getS, getB, ownL, asgD, outD_rt, outD_nx, binD, addD, intD, augD, ordD, cmpD, asC, isD, isnotD, isnD, isiD, lenD, biD, asB, asI, asL, startD, ixD, seqO_nx, seqO_rt, seqO_bk, seqO_ct, seqO_non, Option.bind_some, Option.bind_none, Option.map_some, Option.map_none, List.getElem?_cons_zero, List.getElem?_cons_succ, List.length_cons, List.length_nil, List.map_cons, List.map_nil, List.set_cons_zero, List.set_cons_succ, List.replicate_succ, List.replicate_zero, List.cons_append, List.nil_append, Nat.reduceAdd, Nat.reduceSub, Nat.reduceLeDiff, Nat.zero_add, Nat.sub_self, Nat.reduceLT, sz, decide_eq_true_eq, decide_true, decide_false, if_true, if_false, ite_true, ite_false, Bool.false_eq_true, Bool.true_eq_false, Bool.not_true, Bool.not_false, not_true_eq_false, not_false_eq_true, eqD_int, eqD_ni, List.foldl_cons, List.foldl_nil, List.zip_cons_cons, List.zip_nil_left, Bool.not_eq_true', decide_eq_false_iff_not, reduceCtorEq, and_true, true_and, and_self, Int.cast_ofNat_Int, Int.natCast_add, Int.natCast_zero, Int.natCast_one, Int.reduceEq, Int.reduceNe, Int.reduceLT, Int.reduceLE, Int.reduceAdd, Int.reduceSub, Int.reduceMul, Int.reduceNeg, ne_eq, brest, i_f_L_bad, dv7', mo43, ol, a1]
  · obtain ⟨a, ha, b, hb, lo⟩ := long k L hl hL p
    have q8 := fm (a := p) (b := 8) (by decide)
    obtain ⟨j, hj⟩ := Int.eq_ofNat_of_zero_le q8.1
    refine ⟨(a ++ b ++ zq).take (13 + j), bad_long ha hb (by omega) (by omega), ?_⟩
    have cf := cut_n (a ++ b ++ zq) (13 + j)
    have la := (kw_tok ha).ln
    have lb := (pool_tok hb).ln
    have g1 : (a ++ b ++ zq).length ≤ 16777216 := by
      rw [List.length_append, List.length_append]
      simp
      omega
    rw [show ((13 + j : Nat) : Int) = 13 + (j : Int) by simp] at cf
    generalize oth = O at ol ⊢
    generalize a ++ b ++ zq = X at lo cf g1 ⊢
    generalize sl L = N at lo ⊢
    simp only [exSs, x_asg, x_asgN, x_aug, x_app, x_set, x_clr, x_frz, x_ife, x_ret, x_retO, x_retN, x_brk, x_cnt, x_pass, asgD, evE, evEs, evAnd, evOr, evI, evO, evN, getS, getB, ownL, asgD, outD_rt, outD_nx, binD, addD, intD, augD, ordD, cmpD, asC, isD, isnotD, isnD, isiD, lenD, biD, asB, asI, asL, startD, ixD, seqO_nx, seqO_rt, seqO_bk, seqO_ct, seqO_non, Option.bind_some, Option.bind_none, Option.map_some, Option.map_none, List.getElem?_cons_zero, List.getElem?_cons_succ, List.length_cons, List.length_nil, List.map_cons, List.map_nil, List.set_cons_zero, List.set_cons_succ, List.replicate_succ, List.replicate_zero, List.cons_append, List.nil_append, Nat.reduceAdd, Nat.reduceSub, Nat.reduceLeDiff, Nat.zero_add, Nat.sub_self, Nat.reduceLT, sz, decide_eq_true_eq, decide_true, decide_false, if_true, if_false, ite_true, ite_false, Bool.false_eq_true, Bool.true_eq_false, Bool.not_true, Bool.not_false, not_true_eq_false, not_false_eq_true, eqD_int, eqD_ni, List.foldl_cons, List.foldl_nil, List.zip_cons_cons, List.zip_nil_left, Bool.not_eq_true', decide_eq_false_iff_not, reduceCtorEq, and_true, true_and, and_self, Int.cast_ofNat_Int, Int.natCast_add, Int.natCast_zero, Int.natCast_one, Int.reduceEq, Int.reduceNe, Int.reduceLT, Int.reduceLE, Int.reduceAdd, Int.reduceSub, Int.reduceMul, Int.reduceNeg, ne_eq, brest, i_f_L_bad, mo8, lo, slD, g1, mk_len, hj, cf]
  · refine ⟨48 :: dg m, bad_zero hm, ?_⟩
    have nn := num_nat m
    have e1 : mkS [48] ++ mkS (dg m) = mkS (48 :: dg m) := mk_app2 _ _
    have g1 : (mkS [48]).length + (mkS (dg m)).length ≤ 16777216 := by
      rw [mk_len, mk_len]
      have : (dg m).length ≤ 9 := dg_len 8 m (by omega)
      simp only [List.length_cons, List.length_nil]
      omega
    generalize oth = O at ol ⊢
    generalize sl L = N
    generalize mkS (48 :: dg m) = R at e1 ⊢
    simp only [exSs, x_asg, x_asgN, x_aug, x_app, x_set, x_clr, x_frz, x_ife, x_ret, x_retO, x_retN, x_brk, x_cnt, x_pass, asgD, evE, evEs, evAnd, evOr, evI, evO, evN, getS, getB, ownL, asgD, outD_rt, outD_nx, binD, addD, intD, augD, ordD, cmpD, asC, isD, isnotD, isnD, isiD, lenD, biD, asB, asI, asL, startD, ixD, seqO_nx, seqO_rt, seqO_bk, seqO_ct, seqO_non, Option.bind_some, Option.bind_none, Option.map_some, Option.map_none, List.getElem?_cons_zero, List.getElem?_cons_succ, List.length_cons, List.length_nil, List.map_cons, List.map_nil, List.set_cons_zero, List.set_cons_succ, List.replicate_succ, List.replicate_zero, List.cons_append, List.nil_append, Nat.reduceAdd, Nat.reduceSub, Nat.reduceLeDiff, Nat.zero_add, Nat.sub_self, Nat.reduceLT, sz, decide_eq_true_eq, decide_true, decide_false, if_true, if_false, ite_true, ite_false, Bool.false_eq_true, Bool.true_eq_false, Bool.not_true, Bool.not_false, not_true_eq_false, not_false_eq_true, eqD_int, eqD_ni, List.foldl_cons, List.foldl_nil, List.zip_cons_cons, List.zip_nil_left, Bool.not_eq_true', decide_eq_false_iff_not, reduceCtorEq, and_true, true_and, and_self, Int.cast_ofNat_Int, Int.natCast_add, Int.natCast_zero, Int.natCast_one, Int.reduceEq, Int.reduceNe, Int.reduceLT, Int.reduceLE, Int.reduceAdd, Int.reduceSub, Int.reduceMul, Int.reduceNeg, ne_eq, brest, i_f_L_bad, lg, nn, l0', g1, e1]
  · have q5 := fm (a := p) (b := 5) (by decide)
    obtain ⟨j, hj⟩ := Int.eq_ofNat_of_zero_le q5.1
    refine ⟨dg (1000000000 + m) ++ [57, 48, 56, 55, 54].take j, bad_many hm (fun x hx => ?_) (by simp; omega), ?_⟩
    · have := List.mem_of_mem_take hx
      simp at this
      unfold isdig
      rcases this with rfl | rfl | rfl | rfl | rfl <;> rfl
    · have nn := num_nat (1000000000 + m)
      rw [show ((1000000000 + m : Nat) : Int) = 1000000000 + (m : Int) by simp] at nn
      have cf := cut_n [57, 48, 56, 55, 54] j
      have e1 : mkS (dg (1000000000 + m)) ++ mkS ([57, 48, 56, 55, 54].take j) = mkS (dg (1000000000 + m) ++ [57, 48, 56, 55, 54].take j) := mk_app2 _ _
      have g1 : (mkS (dg (1000000000 + m))).length + (mkS ([57, 48, 56, 55, 54].take j)).length ≤ 16777216 := by
        rw [mk_len, mk_len]
        have h1 : (dg (1000000000 + m)).length ≤ 10 := dg_len 9 _ (by omega)
        have h2 : ([57, 48, 56, 55, 54].take j).length ≤ 5 := by simp; omega
        omega
      have g2 : (mkS [57, 48, 56, 55, 54]).length ≤ 16777216 := by rw [mk_len]; decide
      generalize mkS (dg (1000000000 + m) ++ [57, 48, 56, 55, 54].take j) = R at e1 ⊢
      generalize mkS (dg (1000000000 + m)) = A at nn e1 g1
      generalize mkS ([57, 48, 56, 55, 54].take j) = B at cf e1 g1
      simp only [brest, i_f_L_bad, l9]
      generalize mkS [57, 48, 56, 55, 54] = W at cf g2 ⊢
      generalize oth = O at ol ⊢
      generalize sl L = N
      simp only [exSs, x_asg, x_asgN, x_aug, x_app, x_set, x_clr, x_frz, x_ife, x_ret, x_retO, x_retN, x_brk, x_cnt, x_pass, asgD, evE, evEs, evAnd, evOr, evI, evO, evN, getS, getB, ownL, asgD, outD_rt, outD_nx, binD, addD, intD, augD, ordD, cmpD, asC, isD, isnotD, isnD, isiD, lenD, biD, asB, asI, asL, startD, ixD, seqO_nx, seqO_rt, seqO_bk, seqO_ct, seqO_non, Option.bind_some, Option.bind_none, Option.map_some, Option.map_none, List.getElem?_cons_zero, List.getElem?_cons_succ, List.length_cons, List.length_nil, List.map_cons, List.map_nil, List.set_cons_zero, List.set_cons_succ, List.replicate_succ, List.replicate_zero, List.cons_append, List.nil_append, Nat.reduceAdd, Nat.reduceSub, Nat.reduceLeDiff, Nat.zero_add, Nat.sub_self, Nat.reduceLT, sz, decide_eq_true_eq, decide_true, decide_false, if_true, if_false, ite_true, ite_false, Bool.false_eq_true, Bool.true_eq_false, Bool.not_true, Bool.not_false, not_true_eq_false, not_false_eq_true, eqD_int, eqD_ni, List.foldl_cons, List.foldl_nil, List.zip_cons_cons, List.zip_nil_left, Bool.not_eq_true', decide_eq_false_iff_not, reduceCtorEq, and_true, true_and, and_self, Int.cast_ofNat_Int, Int.natCast_add, Int.natCast_zero, Int.natCast_one, Int.reduceEq, Int.reduceNe, Int.reduceLT, Int.reduceLE, Int.reduceAdd, Int.reduceSub, Int.reduceMul, Int.reduceNeg, ne_eq, lg2, nn, mo5, slD, hj, cf, g2, g1, e1]
  · have q30 := fm (a := p) (b := 30) (by decide)
    obtain ⟨b, hb, b1⟩ := sl_at L (q := p.fmod 30) q30.1 (by rw [hl]; exact q30.2)
    refine ⟨dg m ++ b, bad_name hm (hL b hb), ?_⟩
    have nn := num_nat m
    have e1 : mkS (dg m) ++ mkS b = mkS (dg m ++ b) := mk_app2 _ _
    have g1 : (mkS (dg m)).length + (mkS b).length ≤ 16777216 := by
      rw [mk_len, mk_len]
      have h1 : (dg m).length ≤ 9 := dg_len 8 m (by omega)
      have h2 := (pool_tok (hL b hb)).ln
      omega
    generalize oth = O at ol ⊢
    generalize sl L = N at b1 ⊢
    generalize mkS (dg m ++ b) = R at e1 ⊢
    simp only [exSs, x_asg, x_asgN, x_aug, x_app, x_set, x_clr, x_frz, x_ife, x_ret, x_retO, x_retN, x_brk, x_cnt, x_pass, asgD, evE, evEs, evAnd, evOr, evI, evO, evN, getS, getB, ownL, asgD, outD_rt, outD_nx, binD, addD, intD, augD, ordD, cmpD, asC, isD, isnotD, isnD, isiD, lenD, biD, asB, asI, asL, startD, ixD, seqO_nx, seqO_rt, seqO_bk, seqO_ct, seqO_non, Option.bind_some, Option.bind_none, Option.map_some, Option.map_none, List.getElem?_cons_zero, List.getElem?_cons_succ, List.length_cons, List.length_nil, List.map_cons, List.map_nil, List.set_cons_zero, List.set_cons_succ, List.replicate_succ, List.replicate_zero, List.cons_append, List.nil_append, Nat.reduceAdd, Nat.reduceSub, Nat.reduceLeDiff, Nat.zero_add, Nat.sub_self, Nat.reduceLT, sz, decide_eq_true_eq, decide_true, decide_false, if_true, if_false, ite_true, ite_false, Bool.false_eq_true, Bool.true_eq_false, Bool.not_true, Bool.not_false, not_true_eq_false, not_false_eq_true, eqD_int, eqD_ni, List.foldl_cons, List.foldl_nil, List.zip_cons_cons, List.zip_nil_left, Bool.not_eq_true', decide_eq_false_iff_not, reduceCtorEq, and_true, true_and, and_self, Int.cast_ofNat_Int, Int.natCast_add, Int.natCast_zero, Int.natCast_one, Int.reduceEq, Int.reduceNe, Int.reduceLT, Int.reduceLE, Int.reduceAdd, Int.reduceSub, Int.reduceMul, Int.reduceNeg, ne_eq, brest, i_f_L_bad, lg, nn, mo30, b1, g1, e1]
  · have q2 := fm (a := p) (b := 43) (by decide)
    obtain ⟨x, hx, a1⟩ := oth_at q2.1 q2.2
    refine ⟨[x], hx, ?_⟩
    generalize oth = O at ol a1 ⊢
    generalize sl L = N
    simp only [exSs, x_asg, x_asgN, x_aug, x_app, x_set, x_clr, x_frz, x_ife, x_ret, x_retO, x_retN, x_brk, x_cnt, x_pass, asgD, evE, evEs, evAnd, evOr, evI, evO, evN, getS, getB, ownL, asgD, outD_rt, outD_nx, binD, addD, intD, augD, ordD, cmpD, asC, isD, isnotD, isnD, isiD, lenD, biD, asB, asI, asL, startD, ixD, seqO_nx, seqO_rt, seqO_bk, seqO_ct, seqO_non, Option.bind_some, Option.bind_none, Option.map_some, Option.map_none, List.getElem?_cons_zero, List.getElem?_cons_succ, List.length_cons, List.length_nil, List.map_cons, List.map_nil, List.set_cons_zero, List.set_cons_succ, List.replicate_succ, List.replicate_zero, List.cons_append, List.nil_append, Nat.reduceAdd, Nat.reduceSub, Nat.reduceLeDiff, Nat.zero_add, Nat.sub_self, Nat.reduceLT, sz, decide_eq_true_eq, decide_true, decide_false, if_true, if_false, ite_true, ite_false, Bool.false_eq_true, Bool.true_eq_false, Bool.not_true, Bool.not_false, not_true_eq_false, not_false_eq_true, eqD_int, eqD_ni, List.foldl_cons, List.foldl_nil, List.zip_cons_cons, List.zip_nil_left, Bool.not_eq_true', decide_eq_false_iff_not, reduceCtorEq, and_true, true_and, and_self, Int.cast_ofNat_Int, Int.natCast_add, Int.natCast_zero, Int.natCast_one, Int.reduceEq, Int.reduceNe, Int.reduceLT, Int.reduceLE, Int.reduceAdd, Int.reduceSub, Int.reduceMul, Int.reduceNeg, ne_eq, brest, i_f_L_bad, mo43, ol, a1]
end K02
end
section
namespace K02
open PySem PySem.Spec L2 Ev
def r17 : Ss := (.cons (.asg (.one 16) (.bin .add (.var 9) (.lst (.cons (.tup (.cons (.str "bad") (.cons (.var 10) (.cons (.ix (.var 13) (.int 0)) (.cons (.ix (.var 13) (.int 1)) .nil))))) .nil)))) (.cons (.asgN 17 (.call 0 (.cons (.bin .add (.bin .add (.var 12) (.var 10)) (.var 15)) .nil))) (.cons (.ife (.not (.cab 20 (.cons (.bor 17) (.cons (.var 16) .nil)))) (.cons (.ret (.bl false)) .nil) .nil) (.cons (.clr 17) (.cons (.ife (.not (.call 20 (.cons (.call 0 (.cons (.var 12) .nil)) (.cons (.bin .add (.var 9) (.lst (.cons (.tup (.cons (.str "end") (.cons (.str "") (.cons (.ix (.var 13) (.int 0)) (.cons (.ix (.var 13) (.int 1)) .nil))))) .nil))) .nil)))) (.cons (.ret (.bl false)) .nil) .nil) (.cons (.ret (.and (.cons (.call 20 (.cons (.call 0 (.cons (.bin .add (.bin .add (.var 12) (.var 10)) (.var 15)) .nil)) (.cons (.var 16) .nil))) (.cons (.call 20 (.cons (.call 0 (.cons (.bin .add (.var 12) (.var 10)) .nil)) (.cons (.var 16) .nil))) .nil)))) .nil))))))
def r16 : Ss := (.cons (.ife (.and (.cons (.cmp .ne (.var 15) (.str "")) (.cons (.call 18 (.cons (.var 10) (.cons (.var 15) .nil))) .nil))) (.cons (.asg (.one 15) (.bin .add (.str " ") (.var 15))) .nil) .nil) r17)
def r12 : Ss := (.cons (.asg (.one 12) (.bin .add (.ix (.var 7) (.int 0)) (.var 11))) (.cons (.asg (.one 13) (.call 19 (.cons (.ix (.var 7) (.int 1)) (.cons (.var 11) .nil)))) (.cons (.asg (.one 14) (.call 22 (.cons (.var 2) (.cons (.bin .mod (.blt .int (.cons (.ix (.var 1) (.int 4)) .nil)) (.int 4)) (.cons (.call 8 (.cons (.call 7 (.cons (.var 0) (.cons (.int 6) .nil))) (.cons (.int 3) .nil))) (.cons (.var 6) (.cons (.slo (.var 4) (.int 6)) (.cons (.slo (.var 5) (.int 6)) .nil)))))))) (.cons (.asg (.one 15) (.ix (.lst (.cons (.ix (.var 14) (.int 0)) (.cons (.ix (.var 14) (.int 0)) (.cons (.bin .add (.str "~") (.ix (.var 14) (.int 0))) .nil)))) (.bin .mod (.blt .int (.cons (.ix (.var 1) (.int 5)) .nil)) (.int 3)))) r16))))
def r11 : Ss := (.cons (.ife (.and (.cons (.cmp .eq (.var 11) (.str "")) (.cons (.call 18 (.cons (.var 8) (.cons (.var 10) .nil))) .nil))) (.cons (.asg (.one 11) (.str " ")) .nil) .nil) r12)
def r0 : Ss := (.cons (.asg (.one 1) (.call 8 (.cons (.call 7 (.cons (.var 0) (.cons (.int 0) .nil))) (.cons (.int 6) .nil)))) (.cons (.asg (.one 2) (.call 10 (.cons (.ix (.var 1) (.int 0)) (.cons (.ix (.var 1) (.int 1)) .nil)))) (.cons (.asg (.one 3) (.bin .mod (.blt .int (.cons (.ix (.var 1) (.int 2)) .nil)) (.int 6))) (.cons (.asg (.one 4) (.call 8 (.cons (.call 7 (.cons (.var 0) (.cons (.int 2) .nil))) (.cons (.int 11) .nil)))) (.cons (.asg (.one 5) (.call 8 (.cons (.call 7 (.cons (.var 0) (.cons (.int 4) .nil))) (.cons (.int 11) .nil)))) (.cons (.asg (.one 6) (.call 7 (.cons (.var 0) (.cons (.int 3) .nil)))) (.cons (.asg (.one 7) (.call 22 (.cons (.var 2) (.cons (.var 3) (.cons (.call 8 (.cons (.call 7 (.cons (.var 0) (.cons (.int 1) .nil))) (.cons (.int 5) .nil))) (.cons (.var 6) (.cons (.var 4) (.cons (.var 5) .nil)))))))) (.cons (.asg (.one 8) (.ix (.var 7) (.int 2))) (.cons (.asg (.one 9) (.ix (.var 7) (.int 3))) (.cons (.asg (.one 10) (.call 21 (.cons (.var 2) (.cons (.ix (.var 1) (.int 3)) (.cons (.call 7 (.cons (.var 0) (.cons (.int 5) .nil))) .nil))))) (.cons (.asg (.one 11) (.call 17 (.cons (.ix (.var 4) (.int 5)) (.cons (.ix (.var 5) (.int 5)) .nil)))) r11)))))))))))
theorem law_eq : i_f_law = r0 := rfl
theorem cut6 (z : Nat → Int) : cutD (drL z 11) (some 6) none = drL (fun j => z (j + 6)) 5 := rfl
theorem jn_nil (b : List Nat) : jn b [] = false := by
  unfold jn
  cases b.getLast? <;> rfl
theorem eqs {a b : List Nat} (ha : ∀ c ∈ a, c < 128) (hb : ∀ c ∈ b, c < 128) : eqD (.str (mkS a)) (.str (mkS b)) = some (decide (a = b)) := eq_mk ha hb
/-- from the gap on: the good text, the places, what stands behind -/
theorem p16 (k : Nat) (S H N M GP RM NU MA BE TA : D) (ex : List D) (text wb b0 : List Nat) (row col : Int) (a1 a2 g : SV)
    (hex : ∀ d ∈ ex, Tk d) (hxl : ex.length ≤ 100) (hwb : Bad wb) (hb0 : ∀ c ∈ b0, c < 128) (hbl : b0.length ≤ 1000) (ht : ∀ c ∈ text, c < 128) (htl : text.length ≤ 1000)
    (h1 : ∀ r, jn wb r = false → tl (text ++ (wb ++ r)) 0 1 1 = ex ++ [tk "bad" wb row col]) (h2 : tl text 0 1 1 = ex ++ [tk "end" [] row col]) :
    outD (exSs gs (C (k + 4)) 5000 r16 [some (false, S), some (false, H), some (false, N), some (false, M), some (false, GP), some (false, RM), some (false, NU), some (false, MA), some (false, BE), some (false, .list ex), some (false, .str (mkS wb)), g, some (false, .str (mkS text)), some (false, .list [.int row, .int col]), some (false, TA), some (false, .str (mkS b0)), a1, a2]) = some (false, .bool true) := by
  have okE : PyData.strOk "end" = true := by decide +kernel
  have E1 : ∀ d ∈ ex ++ [tk "bad" wb row col], Tk d := fun d h => (List.mem_append.mp h).elim (hex d) (fun h => by cases List.mem_singleton.mp h; exact ⟨_, _, _, _, rfl, ok_bad, hwb.sm⟩)
  have E2 : ∀ d ∈ ex ++ [tk "end" [] row col], Tk d := fun d h => (List.mem_append.mp h).elim (hex d) (fun h => by cases List.mem_singleton.mp h; exact ⟨_, _, _, _, rfl, okE, by simp⟩)
  have s1 : C (k + 4) 20 [.list (ex ++ [tk "bad" wb row col]), .list (ex ++ [tk "bad" wb row col])] = some (false, .bool true) := same (k + 2) _ E1 (by simp; omega)
  have s2 : C (k + 4) 20 [.list (ex ++ [tk "end" [] row col]), .list (ex ++ [tk "end" [] row col])] = some (false, .bool true) := same (k + 2) _ E2 (by simp; omega)
  have jj : C (k + 4) 18 [.str (mkS wb), .str (mkS b0)] = some (false, .bool (jn wb b0)) := joined (k + 3) wb b0 hwb.sm hb0 (by have := hwb.ln; omega) (by omega)
  obtain ⟨r, hr, hrs, hrl, pre⟩ : ∃ r, jn wb r = false ∧ (∀ c ∈ r, c < 128) ∧ r.length ≤ 1001 ∧ exSs gs (C (k + 4)) 5000 r16 [some (false, S), some (false, H), some (false, N), some (false, M), some (false, GP), some (false, RM), some (false, NU), some (false, MA), some (false, BE), some (false, .list ex), some (false, .str (mkS wb)), g, some (false, .str (mkS text)), some (false, .list [.int row, .int col]), some (false, TA), some (false, .str (mkS b0)), a1, a2] =
      exSs gs (C (k + 4)) 5000 r17 [some (false, S), some (false, H), some (false, N), some (false, M), some (false, GP), some (false, RM), some (false, NU), some (false, MA), some (false, BE), some (false, .list ex), some (false, .str (mkS wb)), g, some (false, .str (mkS text)), some (false, .list [.int row, .int col]), some (false, TA), some (false, .str (mkS r)), a1, a2] := by
    have eb := eqs hb0 (b := []) (by simp)
    by_cases hn : b0 = []
    · subst hn
      refine ⟨[], jn_nil _, by simp, by simp, ?_⟩
      rw [r16, lem]
      rw [decide_eq_true rfl] at eb
      generalize mkS [] = X at eb ⊢
      generalize r17 = R
      exact ifF0 (by simp only [exSs, x_asg, x_asgN, x_aug, x_app, x_set, x_clr, x_frz, x_ife, x_ret, x_retO, x_retN, x_brk, x_cnt, x_pass, asgD, evE, evEs, evAnd, evOr, evI, evO, evN, getS, getB, ownL, asgD, outD_rt, outD_nx, binD, addD, intD, augD, ordD, cmpD, asC, isD, isnotD, isnD, isiD, lenD, biD, asB, asI, asL, startD, ixD, seqO_nx, seqO_rt, seqO_bk, seqO_ct, seqO_non, Option.bind_some, Option.bind_none, Option.map_some, Option.map_none, List.getElem?_cons_zero, List.getElem?_cons_succ, List.length_cons, List.length_nil, List.map_cons, List.map_nil, List.set_cons_zero, List.set_cons_succ, List.replicate_succ, List.replicate_zero, List.cons_append, List.nil_append, Nat.reduceAdd, Nat.reduceSub, Nat.reduceLeDiff, Nat.zero_add, Nat.sub_self, Nat.reduceLT, sz, decide_eq_true_eq, decide_true, decide_false, if_true, if_false, ite_true, ite_false, Bool.false_eq_true, Bool.true_eq_false, Bool.not_true, Bool.not_false, not_true_eq_false, not_false_eq_true, eqD_int, eqD_ni, List.foldl_cons, List.foldl_nil, List.zip_cons_cons, List.zip_nil_left, Bool.not_eq_true', decide_eq_false_iff_not, reduceCtorEq, and_true, true_and, and_self, Int.cast_ofNat_Int, Int.natCast_add, Int.natCast_zero, Int.natCast_one, Int.reduceEq, Int.reduceNe, Int.reduceLT, Int.reduceLE, Int.reduceAdd, Int.reduceSub, Int.reduceMul, Int.reduceNeg, ne_eq, eb])
    · rw [decide_eq_false hn] at eb
      cases hj : jn wb b0 with
      | false =>
        rw [hj] at jj
        refine ⟨b0, hj, hb0, by omega, ?_⟩
        rw [r16, lem]
        generalize mkS [] = X at eb ⊢
        generalize r17 = R
        exact ifF0 (by simp only [exSs, x_asg, x_asgN, x_aug, x_app, x_set, x_clr, x_frz, x_ife, x_ret, x_retO, x_retN, x_brk, x_cnt, x_pass, asgD, evE, evEs, evAnd, evOr, evI, evO, evN, getS, getB, ownL, asgD, outD_rt, outD_nx, binD, addD, intD, augD, ordD, cmpD, asC, isD, isnotD, isnD, isiD, lenD, biD, asB, asI, asL, startD, ixD, seqO_nx, seqO_rt, seqO_bk, seqO_ct, seqO_non, Option.bind_some, Option.bind_none, Option.map_some, Option.map_none, List.getElem?_cons_zero, List.getElem?_cons_succ, List.length_cons, List.length_nil, List.map_cons, List.map_nil, List.set_cons_zero, List.set_cons_succ, List.replicate_succ, List.replicate_zero, List.cons_append, List.nil_append, Nat.reduceAdd, Nat.reduceSub, Nat.reduceLeDiff, Nat.zero_add, Nat.sub_self, Nat.reduceLT, sz, decide_eq_true_eq, decide_true, decide_false, if_true, if_false, ite_true, ite_false, Bool.false_eq_true, Bool.true_eq_false, Bool.not_true, Bool.not_false, not_true_eq_false, not_false_eq_true, eqD_int, eqD_ni, List.foldl_cons, List.foldl_nil, List.zip_cons_cons, List.zip_nil_left, Bool.not_eq_true', decide_eq_false_iff_not, reduceCtorEq, and_true, true_and, and_self, Int.cast_ofNat_Int, Int.natCast_add, Int.natCast_zero, Int.natCast_one, Int.reduceEq, Int.reduceNe, Int.reduceLT, Int.reduceLE, Int.reduceAdd, Int.reduceSub, Int.reduceMul, Int.reduceNeg, ne_eq, eb, jj])
      | true =>
        rw [hj] at jj
        refine ⟨32 :: b0, jn_gap (g := [32]) (.sp .nil) (by simp) wb b0, fun c hc => ?_, by simp; omega, ?_⟩
        · rcases List.mem_cons.mp hc with rfl | hc
          · decide
          · exact hb0 c hc
        · have e1 : mkS [32] ++ mkS b0 = mkS (32 :: b0) := mk_app2 _ _
          have g1 : (mkS [32]).length + (mkS b0).length ≤ 16777216 := by
            rw [mk_len, mk_len]
            simp only [List.length_cons, List.length_nil]
            omega
          rw [r16, lem, n1]
          generalize mkS [] = X at eb ⊢
          generalize mkS (32 :: b0) = Y at e1 ⊢
          generalize r17 = R
          refine (ifT (by simp only [exSs, x_asg, x_asgN, x_aug, x_app, x_set, x_clr, x_frz, x_ife, x_ret, x_retO, x_retN, x_brk, x_cnt, x_pass, asgD, evE, evEs, evAnd, evOr, evI, evO, evN, getS, getB, ownL, asgD, outD_rt, outD_nx, binD, addD, intD, augD, ordD, cmpD, asC, isD, isnotD, isnD, isiD, lenD, biD, asB, asI, asL, startD, ixD, seqO_nx, seqO_rt, seqO_bk, seqO_ct, seqO_non, Option.bind_some, Option.bind_none, Option.map_some, Option.map_none, List.getElem?_cons_zero, List.getElem?_cons_succ, List.length_cons, List.length_nil, List.map_cons, List.map_nil, List.set_cons_zero, List.set_cons_succ, List.replicate_succ, List.replicate_zero, List.cons_append, List.nil_append, Nat.reduceAdd, Nat.reduceSub, Nat.reduceLeDiff, Nat.zero_add, Nat.sub_self, Nat.reduceLT, sz, decide_eq_true_eq, decide_true, decide_false, if_true, if_false, ite_true, ite_false, Bool.false_eq_true, Bool.true_eq_false, Bool.not_true, Bool.not_false, not_true_eq_false, not_false_eq_true, eqD_int, eqD_ni, List.foldl_cons, List.foldl_nil, List.zip_cons_cons, List.zip_nil_left, Bool.not_eq_true', decide_eq_false_iff_not, reduceCtorEq, and_true, true_and, and_self, Int.cast_ofNat_Int, Int.natCast_add, Int.natCast_zero, Int.natCast_one, Int.reduceEq, Int.reduceNe, Int.reduceLT, Int.reduceLE, Int.reduceAdd, Int.reduceSub, Int.reduceMul, Int.reduceNeg, ne_eq, eb, jj])).trans ?_
          simp only [exSs, x_asg, x_asgN, x_aug, x_app, x_set, x_clr, x_frz, x_ife, x_ret, x_retO, x_retN, x_brk, x_cnt, x_pass, asgD, evE, evEs, evAnd, evOr, evI, evO, evN, getS, getB, ownL, asgD, outD_rt, outD_nx, binD, addD, intD, augD, ordD, cmpD, asC, isD, isnotD, isnD, isiD, lenD, biD, asB, asI, asL, startD, ixD, seqO_nx, seqO_rt, seqO_bk, seqO_ct, seqO_non, Option.bind_some, Option.bind_none, Option.map_some, Option.map_none, List.getElem?_cons_zero, List.getElem?_cons_succ, List.length_cons, List.length_nil, List.map_cons, List.map_nil, List.set_cons_zero, List.set_cons_succ, List.replicate_succ, List.replicate_zero, List.cons_append, List.nil_append, Nat.reduceAdd, Nat.reduceSub, Nat.reduceLeDiff, Nat.zero_add, Nat.sub_self, Nat.reduceLT, sz, decide_eq_true_eq, decide_true, decide_false, if_true, if_false, ite_true, ite_false, Bool.false_eq_true, Bool.true_eq_false, Bool.not_true, Bool.not_false, not_true_eq_false, not_false_eq_true, eqD_int, eqD_ni, List.foldl_cons, List.foldl_nil, List.zip_cons_cons, List.zip_nil_left, Bool.not_eq_true', decide_eq_false_iff_not, reduceCtorEq, and_true, true_and, and_self, Int.cast_ofNat_Int, Int.natCast_add, Int.natCast_zero, Int.natCast_one, Int.reduceEq, Int.reduceNe, Int.reduceLT, Int.reduceLE, Int.reduceAdd, Int.reduceSub, Int.reduceMul, Int.reduceNeg, ne_eq, g1, e1]
  rw [pre]
  have t1 := h1 r hr
  have t3 := h1 [] (jn_nil _)
  have sm1 : ∀ c ∈ text ++ wb, c < 128 := fun c h => (List.mem_append.mp h).elim (ht c) (hwb.sm c)
  have sm2 : ∀ c ∈ text ++ wb ++ r, c < 128 := fun c h => (List.mem_append.mp h).elim (sm1 c) (hrs c)
  have wl := hwb.ln
  have q1 : C (k + 4) 0 [.str (mkS (text ++ wb ++ r))] = some (true, .list (tl (text ++ wb ++ r) 0 1 1)) := token_list k (by simp; omega) sm2
  have q2 : C (k + 4) 0 [.str (mkS text)] = some (true, .list (tl text 0 1 1)) := token_list k (by omega) ht
  have q3 : C (k + 4) 0 [.str (mkS (text ++ wb))] = some (true, .list (tl (text ++ wb) 0 1 1)) := token_list k (by simp; omega) sm1
  rw [List.append_nil] at t3
  rw [List.append_assoc, t1] at q1
  rw [h2] at q2
  rw [t3] at q3
  have e1 : mkS text ++ mkS wb = mkS (text ++ wb) := mk_app2 _ _
  have e2 : mkS (text ++ wb) ++ mkS r = mkS (text ++ (wb ++ r)) := by rw [mk_app2, List.append_assoc]
  have g1 : (mkS text).length + (mkS wb).length ≤ 16777216 := by
    rw [mk_len, mk_len]
    omega
  have g2 : (mkS (text ++ wb)).length + (mkS r).length ≤ 16777216 := by
    rw [mk_len, mk_len, List.length_append]
    omega
  have g3 : ex.length + 1 ≤ 16777216 := by omega
  have g4 : ex.length ≤ 16777215 := by omega
  clear pre t1 t3
  generalize mkS (text ++ (wb ++ r)) = T3 at e2 q1
  generalize mkS (text ++ wb) = T2 at e1 e2 g2 q3
  generalize mkS text = T1 at e1 g1 q2 ⊢
  generalize mkS r = RR at e2 g2 ⊢
  rw [r17, lem]
  generalize hF : ex ++ [tk "bad" wb row col] = F at q1 q3 s1
  have hF' : ex ++ [PyData.tuple [.str "bad", .str (mkS wb), .int row, .int col]] = F := hF
  generalize hG : ex ++ [tk "end" [] row col] = G at q2 s2
  have hG' : ex ++ [PyData.tuple [.str "end", .str (mkS []), .int row, .int col]] = G := hG
  generalize mkS wb = WB at e1 g1 hF' ⊢
  generalize mkS [] = X at hG' ⊢
  rw [show outD (exSs gs (C (k + 4)) 5000 _ _) = _ from congrArg outD (asg1 (.list F) (by simp only [exSs, x_asg, x_asgN, x_aug, x_app, x_set, x_clr, x_frz, x_ife, x_ret, x_retO, x_retN, x_brk, x_cnt, x_pass, asgD, evE, evEs, evAnd, evOr, evI, evO, evN, getS, getB, ownL, asgD, outD_rt, outD_nx, binD, addD, intD, augD, ordD, cmpD, asC, isD, isnotD, isnD, isiD, lenD, biD, asB, asI, asL, startD, ixD, seqO_nx, seqO_rt, seqO_bk, seqO_ct, seqO_non, Option.bind_some, Option.bind_none, Option.map_some, Option.map_none, List.getElem?_cons_zero, List.getElem?_cons_succ, List.length_cons, List.length_nil, List.map_cons, List.map_nil, List.set_cons_zero, List.set_cons_succ, List.replicate_succ, List.replicate_zero, List.cons_append, List.nil_append, Nat.reduceAdd, Nat.reduceSub, Nat.reduceLeDiff, Nat.zero_add, Nat.sub_self, Nat.reduceLT, sz, decide_eq_true_eq, decide_true, decide_false, if_true, if_false, ite_true, ite_false, Bool.false_eq_true, Bool.true_eq_false, Bool.not_true, Bool.not_false, not_true_eq_false, not_false_eq_true, eqD_int, eqD_ni, List.foldl_cons, List.foldl_nil, List.zip_cons_cons, List.zip_nil_left, Bool.not_eq_true', decide_eq_false_iff_not, reduceCtorEq, and_true, true_and, and_self, Int.cast_ofNat_Int, Int.natCast_add, Int.natCast_zero, Int.natCast_one, Int.reduceEq, Int.reduceNe, Int.reduceLT, Int.reduceLE, Int.reduceAdd, Int.reduceSub, Int.reduceMul, Int.reduceNeg, ne_eq, at0, at1, g3, g4, hF']))]
  rw [show outD (exSs gs (C (k + 4)) 5000 _ _) = _ from congrArg outD (asgN1 F (by simp only [exSs, x_asg, x_asgN, x_aug, x_app, x_set, x_clr, x_frz, x_ife, x_ret, x_retO, x_retN, x_brk, x_cnt, x_pass, asgD, evE, evEs, evAnd, evOr, evI, evO, evN, getS, getB, ownL, asgD, outD_rt, outD_nx, binD, addD, intD, augD, ordD, cmpD, asC, isD, isnotD, isnD, isiD, lenD, biD, asB, asI, asL, startD, ixD, seqO_nx, seqO_rt, seqO_bk, seqO_ct, seqO_non, Option.bind_some, Option.bind_none, Option.map_some, Option.map_none, List.getElem?_cons_zero, List.getElem?_cons_succ, List.length_cons, List.length_nil, List.map_cons, List.map_nil, List.set_cons_zero, List.set_cons_succ, List.replicate_succ, List.replicate_zero, List.cons_append, List.nil_append, Nat.reduceAdd, Nat.reduceSub, Nat.reduceLeDiff, Nat.zero_add, Nat.sub_self, Nat.reduceLT, sz, decide_eq_true_eq, decide_true, decide_false, if_true, if_false, ite_true, ite_false, Bool.false_eq_true, Bool.true_eq_false, Bool.not_true, Bool.not_false, not_true_eq_false, not_false_eq_true, eqD_int, eqD_ni, List.foldl_cons, List.foldl_nil, List.zip_cons_cons, List.zip_nil_left, Bool.not_eq_true', decide_eq_false_iff_not, reduceCtorEq, and_true, true_and, and_self, Int.cast_ofNat_Int, Int.natCast_add, Int.natCast_zero, Int.natCast_one, Int.reduceEq, Int.reduceNe, Int.reduceLT, Int.reduceLE, Int.reduceAdd, Int.reduceSub, Int.reduceMul, Int.reduceNeg, ne_eq, e1, e2, g1, g2, q1]))]
  rw [show outD (exSs gs (C (k + 4)) 5000 _ _) = _ from congrArg outD (ifF0 (by simp only [exSs, x_asg, x_asgN, x_aug, x_app, x_set, x_clr, x_frz, x_ife, x_ret, x_retO, x_retN, x_brk, x_cnt, x_pass, asgD, evE, evEs, evAnd, evOr, evI, evO, evN, getS, getB, ownL, asgD, outD_rt, outD_nx, binD, addD, intD, augD, ordD, cmpD, asC, isD, isnotD, isnD, isiD, lenD, biD, asB, asI, asL, startD, ixD, seqO_nx, seqO_rt, seqO_bk, seqO_ct, seqO_non, Option.bind_some, Option.bind_none, Option.map_some, Option.map_none, List.getElem?_cons_zero, List.getElem?_cons_succ, List.length_cons, List.length_nil, List.map_cons, List.map_nil, List.set_cons_zero, List.set_cons_succ, List.replicate_succ, List.replicate_zero, List.cons_append, List.nil_append, Nat.reduceAdd, Nat.reduceSub, Nat.reduceLeDiff, Nat.zero_add, Nat.sub_self, Nat.reduceLT, sz, decide_eq_true_eq, decide_true, decide_false, if_true, if_false, ite_true, ite_false, Bool.false_eq_true, Bool.true_eq_false, Bool.not_true, Bool.not_false, not_true_eq_false, not_false_eq_true, eqD_int, eqD_ni, List.foldl_cons, List.foldl_nil, List.zip_cons_cons, List.zip_nil_left, Bool.not_eq_true', decide_eq_false_iff_not, reduceCtorEq, and_true, true_and, and_self, Int.cast_ofNat_Int, Int.natCast_add, Int.natCast_zero, Int.natCast_one, Int.reduceEq, Int.reduceNe, Int.reduceLT, Int.reduceLE, Int.reduceAdd, Int.reduceSub, Int.reduceMul, Int.reduceNeg, ne_eq, s1, scalD]))]
  rw [show outD (exSs gs (C (k + 4)) 5000 _ _) = _ from congrArg outD (clr1 F (by simp only [exSs, x_asg, x_asgN, x_aug, x_app, x_set, x_clr, x_frz, x_ife, x_ret, x_retO, x_retN, x_brk, x_cnt, x_pass, asgD, evE, evEs, evAnd, evOr, evI, evO, evN, getS, getB, ownL, asgD, outD_rt, outD_nx, binD, addD, intD, augD, ordD, cmpD, asC, isD, isnotD, isnD, isiD, lenD, biD, asB, asI, asL, startD, ixD, seqO_nx, seqO_rt, seqO_bk, seqO_ct, seqO_non, Option.bind_some, Option.bind_none, Option.map_some, Option.map_none, List.getElem?_cons_zero, List.getElem?_cons_succ, List.length_cons, List.length_nil, List.map_cons, List.map_nil, List.set_cons_zero, List.set_cons_succ, List.replicate_succ, List.replicate_zero, List.cons_append, List.nil_append, Nat.reduceAdd, Nat.reduceSub, Nat.reduceLeDiff, Nat.zero_add, Nat.sub_self, Nat.reduceLT, sz, decide_eq_true_eq, decide_true, decide_false, if_true, if_false, ite_true, ite_false, Bool.false_eq_true, Bool.true_eq_false, Bool.not_true, Bool.not_false, not_true_eq_false, not_false_eq_true, eqD_int, eqD_ni, List.foldl_cons, List.foldl_nil, List.zip_cons_cons, List.zip_nil_left, Bool.not_eq_true', decide_eq_false_iff_not, reduceCtorEq, and_true, true_and, and_self, Int.cast_ofNat_Int, Int.natCast_add, Int.natCast_zero, Int.natCast_one, Int.reduceEq, Int.reduceNe, Int.reduceLT, Int.reduceLE, Int.reduceAdd, Int.reduceSub, Int.reduceMul, Int.reduceNeg, ne_eq]))]
  rw [show outD (exSs gs (C (k + 4)) 5000 _ _) = _ from congrArg outD (ifF0 (by simp only [exSs, x_asg, x_asgN, x_aug, x_app, x_set, x_clr, x_frz, x_ife, x_ret, x_retO, x_retN, x_brk, x_cnt, x_pass, asgD, evE, evEs, evAnd, evOr, evI, evO, evN, getS, getB, ownL, asgD, outD_rt, outD_nx, binD, addD, intD, augD, ordD, cmpD, asC, isD, isnotD, isnD, isiD, lenD, biD, asB, asI, asL, startD, ixD, seqO_nx, seqO_rt, seqO_bk, seqO_ct, seqO_non, Option.bind_some, Option.bind_none, Option.map_some, Option.map_none, List.getElem?_cons_zero, List.getElem?_cons_succ, List.length_cons, List.length_nil, List.map_cons, List.map_nil, List.set_cons_zero, List.set_cons_succ, List.replicate_succ, List.replicate_zero, List.cons_append, List.nil_append, Nat.reduceAdd, Nat.reduceSub, Nat.reduceLeDiff, Nat.zero_add, Nat.sub_self, Nat.reduceLT, sz, decide_eq_true_eq, decide_true, decide_false, if_true, if_false, ite_true, ite_false, Bool.false_eq_true, Bool.true_eq_false, Bool.not_true, Bool.not_false, not_true_eq_false, not_false_eq_true, eqD_int, eqD_ni, List.foldl_cons, List.foldl_nil, List.zip_cons_cons, List.zip_nil_left, Bool.not_eq_true', decide_eq_false_iff_not, reduceCtorEq, and_true, true_and, and_self, Int.cast_ofNat_Int, Int.natCast_add, Int.natCast_zero, Int.natCast_one, Int.reduceEq, Int.reduceNe, Int.reduceLT, Int.reduceLE, Int.reduceAdd, Int.reduceSub, Int.reduceMul, Int.reduceNeg, ne_eq, q2, at0, at1, g3, g4, hG', s2]))]
  rw [show outD (exSs gs (C (k + 4)) 5000 _ _) = _ from congrArg outD (ret1 (.bool true) (by simp only [exSs, x_asg, x_asgN, x_aug, x_app, x_set, x_clr, x_frz, x_ife, x_ret, x_retO, x_retN, x_brk, x_cnt, x_pass, asgD, evE, evEs, evAnd, evOr, evI, evO, evN, getS, getB, ownL, asgD, outD_rt, outD_nx, binD, addD, intD, augD, ordD, cmpD, asC, isD, isnotD, isnD, isiD, lenD, biD, asB, asI, asL, startD, ixD, seqO_nx, seqO_rt, seqO_bk, seqO_ct, seqO_non, Option.bind_some, Option.bind_none, Option.map_some, Option.map_none, List.getElem?_cons_zero, List.getElem?_cons_succ, List.length_cons, List.length_nil, List.map_cons, List.map_nil, List.set_cons_zero, List.set_cons_succ, List.replicate_succ, List.replicate_zero, List.cons_append, List.nil_append, Nat.reduceAdd, Nat.reduceSub, Nat.reduceLeDiff, Nat.zero_add, Nat.sub_self, Nat.reduceLT, sz, decide_eq_true_eq, decide_true, decide_false, if_true, if_false, ite_true, ite_false, Bool.false_eq_true, Bool.true_eq_false, Bool.not_true, Bool.not_false, not_true_eq_false, not_false_eq_true, eqD_int, eqD_ni, List.foldl_cons, List.foldl_nil, List.zip_cons_cons, List.zip_nil_left, Bool.not_eq_true', decide_eq_false_iff_not, reduceCtorEq, and_true, true_and, and_self, Int.cast_ofNat_Int, Int.natCast_add, Int.natCast_zero, Int.natCast_one, Int.reduceEq, Int.reduceNe, Int.reduceLT, Int.reduceLE, Int.reduceAdd, Int.reduceSub, Int.reduceMul, Int.reduceNeg, ne_eq, e1, e2, g1, g2, q1, s1, q3]))]
  rfl
end K02
end
section
namespace K02
open PySem PySem.Spec L2 Ev
theorem p11 (k : Nat) (S H : D) (L : List (List Nat)) (hl : L.length = 30) (hL : ∀ w ∈ L, w ∈ poolL) (M : D) (x z u v : Nat → Int) (c6 nu : Int) (text before wb g0 : List Nat) (ex : List D) (row col : Int) (a1 a2 a3 a4 a5 a6 : SV)
    (hS : C (k + 4) 7 [S, .int 6] = some (false, .int c6)) (hH : H = .list (drL x 6)) (hv : C (k + 4) 8 [.int c6, .int 3] = some (true, .list (drL v 3)))
    (hI : Inv text before ex row col) (hex : ∀ d ∈ ex, Tk d) (hxl : ex.length ≤ 50) (ht : ∀ c ∈ text, c < 128) (htl : text.length ≤ 300) (hbf : ∀ c ∈ before, c < 128) (hbl : before.length ≤ 20) (hwb : Bad wb) (hg0 : Gp g0) (hgs0 : ∀ c ∈ g0, c < 128) (hgl0 : g0.length ≤ 20) :
    outD (exSs gs (C (k + 4)) 5000 r11 [some (false, S), some (false, H), some (false, .list (sl L)), some (false, M), some (false, .list (drL z 11)), some (false, .list (drL u 11)), some (false, .int nu), some (false, .list [.str (mkS text), .list [.int row, .int col], .str (mkS before), .list ex]), some (false, .str (mkS before)), some (false, .list ex), some (false, .str (mkS wb)), some (false, .str (mkS g0)), a1, a2, a3, a4, a5, a6]) = some (false, .bool true) := by
  have jj : C (k + 4) 18 [.str (mkS before), .str (mkS wb)] = some (false, .bool (jn before wb)) := joined (k + 3) before wb hbf hwb.sm (by omega) (by have := hwb.ln; omega)
  have eg := eqs hgs0 (b := []) (by simp)
  have q4 := fm (a := x 4) (b := 4) (by decide)
  obtain ⟨n4, hn4⟩ := Int.eq_ofNat_of_zero_le q4.1
  have q5 := fm (a := x 5) (b := 3) (by decide)
  obtain ⟨t1, bf1, ex1, row1, col1, tk1, _, _, _, ht1, htl1, _, _⟩ := tokens k L hl hL n4 (by omega) v (fun j => z (j + 6)) (fun j => u (j + 6)) 3 5 5 (by omega) (by omega) (by omega) nu
  have z6 := cut6 z
  have u6 := cut6 u
  have x4 := dr4 (x := x) (n := 6) (by decide)
  have x5 := dr5 (x := x) (n := 6) (by decide)
  -- the gap
  obtain ⟨g, hg, hgs, hgl, hj, pre⟩ : ∃ g, Gp g ∧ (∀ c ∈ g, c < 128) ∧ g.length ≤ 20 ∧ (g = [] → jn before wb = false) ∧ ∀ (N GP RM MA : D), exSs gs (C (k + 4)) 5000 r11 [some (false, S), some (false, H), some (false, N), some (false, M), some (false, GP), some (false, RM), some (false, .int nu), some (false, MA), some (false, .str (mkS before)), some (false, .list ex), some (false, .str (mkS wb)), some (false, .str (mkS g0)), a1, a2, a3, a4, a5, a6] =
      exSs gs (C (k + 4)) 5000 r12 [some (false, S), some (false, H), some (false, N), some (false, M), some (false, GP), some (false, RM), some (false, .int nu), some (false, MA), some (false, .str (mkS before)), some (false, .list ex), some (false, .str (mkS wb)), some (false, .str (mkS g)), a1, a2, a3, a4, a5, a6] := by
    by_cases hn : g0 = []
    · subst hn
      rw [decide_eq_true rfl] at eg
      cases hjn : jn before wb with
      | true =>
        rw [hjn] at jj
        refine ⟨[32], .sp .nil, by simp, by simp, fun e => (by cases e), fun N GP RM MA => ?_⟩
        rw [r11, lem, n1]
        generalize mkS [] = X at eg ⊢
        generalize mkS [32] = Y
        generalize r12 = R
        refine (ifT (by simp only [exSs, x_asg, x_asgN, x_aug, x_app, x_set, x_clr, x_frz, x_ife, x_ret, x_retO, x_retN, x_brk, x_cnt, x_pass, asgD, evE, evEs, evAnd, evOr, evI, evO, evN, getS, getB, ownL, asgD, outD_rt, outD_nx, binD, addD, intD, augD, ordD, cmpD, asC, isD, isnotD, isnD, isiD, lenD, biD, asB, asI, asL, startD, ixD, seqO_nx, seqO_rt, seqO_bk, seqO_ct, seqO_non, Option.bind_some, Option.bind_none, Option.map_some, Option.map_none, List.getElem?_cons_zero, List.getElem?_cons_succ, List.length_cons, List.length_nil, List.map_cons, List.map_nil, List.set_cons_zero, List.set_cons_succ, List.replicate_succ, List.replicate_zero, List.cons_append, List.nil_append, Nat.reduceAdd, Nat.reduceSub, Nat.reduceLeDiff, Nat.zero_add, Nat.sub_self, Nat.reduceLT, sz, decide_eq_true_eq, decide_true, decide_false, if_true, if_false, ite_true, ite_false, Bool.false_eq_true, Bool.true_eq_false, Bool.not_true, Bool.not_false, not_true_eq_false, not_false_eq_true, eqD_int, eqD_ni, List.foldl_cons, List.foldl_nil, List.zip_cons_cons, List.zip_nil_left, Bool.not_eq_true', decide_eq_false_iff_not, reduceCtorEq, and_true, true_and, and_self, Int.cast_ofNat_Int, Int.natCast_add, Int.natCast_zero, Int.natCast_one, Int.reduceEq, Int.reduceNe, Int.reduceLT, Int.reduceLE, Int.reduceAdd, Int.reduceSub, Int.reduceMul, Int.reduceNeg, ne_eq, eg, jj])).trans ?_
        simp only [exSs, x_asg, x_asgN, x_aug, x_app, x_set, x_clr, x_frz, x_ife, x_ret, x_retO, x_retN, x_brk, x_cnt, x_pass, asgD, evE, evEs, evAnd, evOr, evI, evO, evN, getS, getB, ownL, asgD, outD_rt, outD_nx, binD, addD, intD, augD, ordD, cmpD, asC, isD, isnotD, isnD, isiD, lenD, biD, asB, asI, asL, startD, ixD, seqO_nx, seqO_rt, seqO_bk, seqO_ct, seqO_non, Option.bind_some, Option.bind_none, Option.map_some, Option.map_none, List.getElem?_cons_zero, List.getElem?_cons_succ, List.length_cons, List.length_nil, List.map_cons, List.map_nil, List.set_cons_zero, List.set_cons_succ, List.replicate_succ, List.replicate_zero, List.cons_append, List.nil_append, Nat.reduceAdd, Nat.reduceSub, Nat.reduceLeDiff, Nat.zero_add, Nat.sub_self, Nat.reduceLT, sz, decide_eq_true_eq, decide_true, decide_false, if_true, if_false, ite_true, ite_false, Bool.false_eq_true, Bool.true_eq_false, Bool.not_true, Bool.not_false, not_true_eq_false, not_false_eq_true, eqD_int, eqD_ni, List.foldl_cons, List.foldl_nil, List.zip_cons_cons, List.zip_nil_left, Bool.not_eq_true', decide_eq_false_iff_not, reduceCtorEq, and_true, true_and, and_self, Int.cast_ofNat_Int, Int.natCast_add, Int.natCast_zero, Int.natCast_one, Int.reduceEq, Int.reduceNe, Int.reduceLT, Int.reduceLE, Int.reduceAdd, Int.reduceSub, Int.reduceMul, Int.reduceNeg, ne_eq]
      | false =>
        rw [hjn] at jj
        refine ⟨[], .nil, by simp, by simp, fun _ => rfl, fun N GP RM MA => ?_⟩
        rw [r11, lem]
        generalize mkS [] = X at eg ⊢
        generalize r12 = R
        exact ifF0 (by simp only [exSs, x_asg, x_asgN, x_aug, x_app, x_set, x_clr, x_frz, x_ife, x_ret, x_retO, x_retN, x_brk, x_cnt, x_pass, asgD, evE, evEs, evAnd, evOr, evI, evO, evN, getS, getB, ownL, asgD, outD_rt, outD_nx, binD, addD, intD, augD, ordD, cmpD, asC, isD, isnotD, isnD, isiD, lenD, biD, asB, asI, asL, startD, ixD, seqO_nx, seqO_rt, seqO_bk, seqO_ct, seqO_non, Option.bind_some, Option.bind_none, Option.map_some, Option.map_none, List.getElem?_cons_zero, List.getElem?_cons_succ, List.length_cons, List.length_nil, List.map_cons, List.map_nil, List.set_cons_zero, List.set_cons_succ, List.replicate_succ, List.replicate_zero, List.cons_append, List.nil_append, Nat.reduceAdd, Nat.reduceSub, Nat.reduceLeDiff, Nat.zero_add, Nat.sub_self, Nat.reduceLT, sz, decide_eq_true_eq, decide_true, decide_false, if_true, if_false, ite_true, ite_false, Bool.false_eq_true, Bool.true_eq_false, Bool.not_true, Bool.not_false, not_true_eq_false, not_false_eq_true, eqD_int, eqD_ni, List.foldl_cons, List.foldl_nil, List.zip_cons_cons, List.zip_nil_left, Bool.not_eq_true', decide_eq_false_iff_not, reduceCtorEq, and_true, true_and, and_self, Int.cast_ofNat_Int, Int.natCast_add, Int.natCast_zero, Int.natCast_one, Int.reduceEq, Int.reduceNe, Int.reduceLT, Int.reduceLE, Int.reduceAdd, Int.reduceSub, Int.reduceMul, Int.reduceNeg, ne_eq, eg, jj])
    · rw [decide_eq_false hn] at eg
      refine ⟨g0, hg0, hgs0, hgl0, fun e => absurd e hn, fun N GP RM MA => ?_⟩
      rw [r11, lem]
      generalize mkS [] = X at eg ⊢
      generalize r12 = R
      exact ifF0 (by simp only [exSs, x_asg, x_asgN, x_aug, x_app, x_set, x_clr, x_frz, x_ife, x_ret, x_retO, x_retN, x_brk, x_cnt, x_pass, asgD, evE, evEs, evAnd, evOr, evI, evO, evN, getS, getB, ownL, asgD, outD_rt, outD_nx, binD, addD, intD, augD, ordD, cmpD, asC, isD, isnotD, isnD, isiD, lenD, biD, asB, asI, asL, startD, ixD, seqO_nx, seqO_rt, seqO_bk, seqO_ct, seqO_non, Option.bind_some, Option.bind_none, Option.map_some, Option.map_none, List.getElem?_cons_zero, List.getElem?_cons_succ, List.length_cons, List.length_nil, List.map_cons, List.map_nil, List.set_cons_zero, List.set_cons_succ, List.replicate_succ, List.replicate_zero, List.cons_append, List.nil_append, Nat.reduceAdd, Nat.reduceSub, Nat.reduceLeDiff, Nat.zero_add, Nat.sub_self, Nat.reduceLT, sz, decide_eq_true_eq, decide_true, decide_false, if_true, if_false, ite_true, ite_false, Bool.false_eq_true, Bool.true_eq_false, Bool.not_true, Bool.not_false, not_true_eq_false, not_false_eq_true, eqD_int, eqD_ni, List.foldl_cons, List.foldl_nil, List.zip_cons_cons, List.zip_nil_left, Bool.not_eq_true', decide_eq_false_iff_not, reduceCtorEq, and_true, true_and, and_self, Int.cast_ofNat_Int, Int.natCast_add, Int.natCast_zero, Int.natCast_one, Int.reduceEq, Int.reduceNe, Int.reduceLT, Int.reduceLE, Int.reduceAdd, Int.reduceSub, Int.reduceMul, Int.reduceNeg, ne_eq, eg])
  rw [pre]
  obtain ⟨b0, hb0, hbl0, hbe⟩ : ∃ b0 : List Nat, (∀ c ∈ b0, c < 128) ∧ b0.length ≤ 1000 ∧ atI [PyData.str (mkS t1), .str (mkS t1), .str (mkS (126 :: t1))] ((x 5).fmod 3) = some (.str (mkS b0)) := by
    generalize (x 5).fmod 3 = w at q5
    have hw : w = 0 ∨ w = 1 ∨ w = 2 := by omega
    rcases hw with rfl | rfl | rfl
    · exact ⟨t1, ht1, by omega, at0⟩
    · exact ⟨t1, ht1, by omega, at1⟩
    · refine ⟨126 :: t1, fun c hc => ?_, by simp; omega, at2⟩
      rcases List.mem_cons.mp hc with rfl | hc
      · decide
      · exact ht1 c hc
  have m1 : C (k + 4) 19 [.list [.int row, .int col], .str (mkS g)] = some (false, .list [.int (mv g row col).1, .int (mv g row col).2]) := moved (k + 3) g hgs row col
  have e1 : mkS text ++ mkS g = mkS (text ++ g) := mk_app2 _ _
  have e2 : mkS [126] ++ mkS t1 = mkS (126 :: t1) := mk_app2 _ _
  have g1 : (mkS text).length + (mkS g).length ≤ 16777216 := by
    rw [mk_len, mk_len]
    omega
  have g2 : (mkS [126]).length + (mkS t1).length ≤ 16777216 := by
    rw [mk_len, mk_len]
    simp only [List.length_cons, List.length_nil]
    omega
  have l126 : ("~" : Str) = mkS [126] := by decide +kernel
  have go : exSs gs (C (k + 4)) 5000 r12 [some (false, S), some (false, H), some (false, .list (sl L)), some (false, M), some (false, .list (drL z 11)), some (false, .list (drL u 11)), some (false, .int nu), some (false, .list [.str (mkS text), .list [.int row, .int col], .str (mkS before), .list ex]), some (false, .str (mkS before)), some (false, .list ex), some (false, .str (mkS wb)), some (false, .str (mkS g)), a1, a2, a3, a4, a5, a6] =
      exSs gs (C (k + 4)) 5000 r16 [some (false, S), some (false, H), some (false, .list (sl L)), some (false, M), some (false, .list (drL z 11)), some (false, .list (drL u 11)), some (false, .int nu), some (false, .list [.str (mkS text), .list [.int row, .int col], .str (mkS before), .list ex]), some (false, .str (mkS before)), some (false, .list ex), some (false, .str (mkS wb)), some (false, .str (mkS g)), some (false, .str (mkS (text ++ g))), some (false, .list [.int (mv g row col).1, .int (mv g row col).2]), some (false, .list [.str (mkS t1), .list [.int row1, .int col1], .str (mkS bf1), .list ex1]), some (false, .str (mkS b0)), a5, a6] := by
    subst hH
    generalize drL x 6 = X at x4 x5 ⊢
    generalize hZ : drL z 11 = Z at z6 ⊢
    generalize hU : drL u 11 = U at u6 ⊢
    generalize drL v 3 = V at hv tk1
    generalize drL (fun j => z (j + 6)) 5 = Z6 at z6 tk1
    generalize drL (fun j => u (j + 6)) 5 = U6 at u6 tk1
    generalize mv g row col = p at m1 ⊢
    generalize sl L = N at tk1 ⊢
    generalize mkS (text ++ g) = T2 at e1 ⊢
    generalize mkS text = T1 at e1 g1 ⊢
    rw [r12, l126]
    generalize mkS [126] = TI at e2 g2 ⊢
    generalize mkS (126 :: t1) = TT at e2 hbe
    generalize mkS t1 = T4 at e2 g2 hbe tk1 ⊢
    generalize r16 = R
    refine (asg1 (.str T2) (by simp only [exSs, x_asg, x_asgN, x_aug, x_app, x_set, x_clr, x_frz, x_ife, x_ret, x_retO, x_retN, x_brk, x_cnt, x_pass, asgD, evE, evEs, evAnd, evOr, evI, evO, evN, getS, getB, ownL, asgD, outD_rt, outD_nx, binD, addD, intD, augD, ordD, cmpD, asC, isD, isnotD, isnD, isiD, lenD, biD, asB, asI, asL, startD, ixD, seqO_nx, seqO_rt, seqO_bk, seqO_ct, seqO_non, Option.bind_some, Option.bind_none, Option.map_some, Option.map_none, List.getElem?_cons_zero, List.getElem?_cons_succ, List.length_cons, List.length_nil, List.map_cons, List.map_nil, List.set_cons_zero, List.set_cons_succ, List.replicate_succ, List.replicate_zero, List.cons_append, List.nil_append, Nat.reduceAdd, Nat.reduceSub, Nat.reduceLeDiff, Nat.zero_add, Nat.sub_self, Nat.reduceLT, sz, decide_eq_true_eq, decide_true, decide_false, if_true, if_false, ite_true, ite_false, Bool.false_eq_true, Bool.true_eq_false, Bool.not_true, Bool.not_false, not_true_eq_false, not_false_eq_true, eqD_int, eqD_ni, List.foldl_cons, List.foldl_nil, List.zip_cons_cons, List.zip_nil_left, Bool.not_eq_true', decide_eq_false_iff_not, reduceCtorEq, and_true, true_and, and_self, Int.cast_ofNat_Int, Int.natCast_add, Int.natCast_zero, Int.natCast_one, Int.reduceEq, Int.reduceNe, Int.reduceLT, Int.reduceLE, Int.reduceAdd, Int.reduceSub, Int.reduceMul, Int.reduceNeg, ne_eq, at0, g1, e1])).trans ?_
    refine (asg1 (.list [.int p.1, .int p.2]) (by simp only [exSs, x_asg, x_asgN, x_aug, x_app, x_set, x_clr, x_frz, x_ife, x_ret, x_retO, x_retN, x_brk, x_cnt, x_pass, asgD, evE, evEs, evAnd, evOr, evI, evO, evN, getS, getB, ownL, asgD, outD_rt, outD_nx, binD, addD, intD, augD, ordD, cmpD, asC, isD, isnotD, isnD, isiD, lenD, biD, asB, asI, asL, startD, ixD, seqO_nx, seqO_rt, seqO_bk, seqO_ct, seqO_non, Option.bind_some, Option.bind_none, Option.map_some, Option.map_none, List.getElem?_cons_zero, List.getElem?_cons_succ, List.length_cons, List.length_nil, List.map_cons, List.map_nil, List.set_cons_zero, List.set_cons_succ, List.replicate_succ, List.replicate_zero, List.cons_append, List.nil_append, Nat.reduceAdd, Nat.reduceSub, Nat.reduceLeDiff, Nat.zero_add, Nat.sub_self, Nat.reduceLT, sz, decide_eq_true_eq, decide_true, decide_false, if_true, if_false, ite_true, ite_false, Bool.false_eq_true, Bool.true_eq_false, Bool.not_true, Bool.not_false, not_true_eq_false, not_false_eq_true, eqD_int, eqD_ni, List.foldl_cons, List.foldl_nil, List.zip_cons_cons, List.zip_nil_left, Bool.not_eq_true', decide_eq_false_iff_not, reduceCtorEq, and_true, true_and, and_self, Int.cast_ofNat_Int, Int.natCast_add, Int.natCast_zero, Int.natCast_one, Int.reduceEq, Int.reduceNe, Int.reduceLT, Int.reduceLE, Int.reduceAdd, Int.reduceSub, Int.reduceMul, Int.reduceNeg, ne_eq, at1, m1])).trans ?_
    refine (asg1 (.list [.str T4, .list [.int row1, .int col1], .str (mkS bf1), .list ex1]) (by simp only [exSs, x_asg, x_asgN, x_aug, x_app, x_set, x_clr, x_frz, x_ife, x_ret, x_retO, x_retN, x_brk, x_cnt, x_pass, asgD, evE, evEs, evAnd, evOr, evI, evO, evN, getS, getB, ownL, asgD, outD_rt, outD_nx, binD, addD, intD, augD, ordD, cmpD, asC, isD, isnotD, isnD, isiD, lenD, biD, asB, asI, asL, startD, ixD, seqO_nx, seqO_rt, seqO_bk, seqO_ct, seqO_non, Option.bind_some, Option.bind_none, Option.map_some, Option.map_none, List.getElem?_cons_zero, List.getElem?_cons_succ, List.length_cons, List.length_nil, List.map_cons, List.map_nil, List.set_cons_zero, List.set_cons_succ, List.replicate_succ, List.replicate_zero, List.cons_append, List.nil_append, Nat.reduceAdd, Nat.reduceSub, Nat.reduceLeDiff, Nat.zero_add, Nat.sub_self, Nat.reduceLT, sz, decide_eq_true_eq, decide_true, decide_false, if_true, if_false, ite_true, ite_false, Bool.false_eq_true, Bool.true_eq_false, Bool.not_true, Bool.not_false, not_true_eq_false, not_false_eq_true, eqD_int, eqD_ni, List.foldl_cons, List.foldl_nil, List.zip_cons_cons, List.zip_nil_left, Bool.not_eq_true', decide_eq_false_iff_not, reduceCtorEq, and_true, true_and, and_self, Int.cast_ofNat_Int, Int.natCast_add, Int.natCast_zero, Int.natCast_one, Int.reduceEq, Int.reduceNe, Int.reduceLT, Int.reduceLE, Int.reduceAdd, Int.reduceSub, Int.reduceMul, Int.reduceNeg, ne_eq, x4, mo4, hn4, hS, hv, slD, z6, u6, tk1])).trans ?_
    refine (asg1 (.str (mkS b0)) (by simp only [exSs, x_asg, x_asgN, x_aug, x_app, x_set, x_clr, x_frz, x_ife, x_ret, x_retO, x_retN, x_brk, x_cnt, x_pass, asgD, evE, evEs, evAnd, evOr, evI, evO, evN, getS, getB, ownL, asgD, outD_rt, outD_nx, binD, addD, intD, augD, ordD, cmpD, asC, isD, isnotD, isnD, isiD, lenD, biD, asB, asI, asL, startD, ixD, seqO_nx, seqO_rt, seqO_bk, seqO_ct, seqO_non, Option.bind_some, Option.bind_none, Option.map_some, Option.map_none, List.getElem?_cons_zero, List.getElem?_cons_succ, List.length_cons, List.length_nil, List.map_cons, List.map_nil, List.set_cons_zero, List.set_cons_succ, List.replicate_succ, List.replicate_zero, List.cons_append, List.nil_append, Nat.reduceAdd, Nat.reduceSub, Nat.reduceLeDiff, Nat.zero_add, Nat.sub_self, Nat.reduceLT, sz, decide_eq_true_eq, decide_true, decide_false, if_true, if_false, ite_true, ite_false, Bool.false_eq_true, Bool.true_eq_false, Bool.not_true, Bool.not_false, not_true_eq_false, not_false_eq_true, eqD_int, eqD_ni, List.foldl_cons, List.foldl_nil, List.zip_cons_cons, List.zip_nil_left, Bool.not_eq_true', decide_eq_false_iff_not, reduceCtorEq, and_true, true_and, and_self, Int.cast_ofNat_Int, Int.natCast_add, Int.natCast_zero, Int.natCast_one, Int.reduceEq, Int.reduceNe, Int.reduceLT, Int.reduceLE, Int.reduceAdd, Int.reduceSub, Int.reduceMul, Int.reduceNeg, ne_eq, at0, g2, e2, x5, mo3, hbe])).trans ?_
    simp only [exSs, x_asg, x_asgN, x_aug, x_app, x_set, x_clr, x_frz, x_ife, x_ret, x_retO, x_retN, x_brk, x_cnt, x_pass, asgD, evE, evEs, evAnd, evOr, evI, evO, evN, getS, getB, ownL, asgD, outD_rt, outD_nx, binD, addD, intD, augD, ordD, cmpD, asC, isD, isnotD, isnD, isiD, lenD, biD, asB, asI, asL, startD, ixD, seqO_nx, seqO_rt, seqO_bk, seqO_ct, seqO_non, Option.bind_some, Option.bind_none, Option.map_some, Option.map_none, List.getElem?_cons_zero, List.getElem?_cons_succ, List.length_cons, List.length_nil, List.map_cons, List.map_nil, List.set_cons_zero, List.set_cons_succ, List.replicate_succ, List.replicate_zero, List.cons_append, List.nil_append, Nat.reduceAdd, Nat.reduceSub, Nat.reduceLeDiff, Nat.zero_add, Nat.sub_self, Nat.reduceLT, sz, decide_eq_true_eq, decide_true, decide_false, if_true, if_false, ite_true, ite_false, Bool.false_eq_true, Bool.true_eq_false, Bool.not_true, Bool.not_false, not_true_eq_false, not_false_eq_true, eqD_int, eqD_ni, List.foldl_cons, List.foldl_nil, List.zip_cons_cons, List.zip_nil_left, Bool.not_eq_true', decide_eq_false_iff_not, reduceCtorEq, and_true, true_and, and_self, Int.cast_ofNat_Int, Int.natCast_add, Int.natCast_zero, Int.natCast_one, Int.reduceEq, Int.reduceNe, Int.reduceLT, Int.reduceLE, Int.reduceAdd, Int.reduceSub, Int.reduceMul, Int.reduceNeg, ne_eq]
  rw [go]
  have hjn : ∀ r, jn before (g ++ (wb ++ r)) = false := by
    intro r
    by_cases hn : g = []
    · subst hn
      obtain ⟨c, w', rfl⟩ : ∃ c w', wb = c :: w' := by
        cases wb with
        | nil => exact absurd rfl hwb.ne
        | cons c w' => exact ⟨c, w', rfl⟩
      rw [List.nil_append, List.cons_append, jn_head before c _ w']
      exact hj rfl
    · exact jn_gap hg hn before _
  refine p16 k S H (.list (sl L)) M (.list (drL z 11)) (.list (drL u 11)) (.int nu) _ _ _ ex (text ++ g) wb b0 (mv g row col).1 (mv g row col).2 a5 a6 _ hex (by omega) hwb hb0 hbl0 (fun c hc => (List.mem_append.mp hc).elim (ht c) (hgs c)) (by simp; omega) (fun r hr => ?_) (inv_end hI hg)
  rw [List.append_assoc, hI _ (hjn r), tl_gap hg, tl_bad hwb hr]
theorem law_pure (k : Nat) (ns : List Int) : C (k + 5) 23 [klD (ns.map .int)] = some (false, .bool true) := by
  rw [c23 rfl]
  obtain ⟨u0, e0⟩ : ∃ c : Int, C (k + 4) 7 [klD (ns.map .int), .int 0] = some (false, .int c) := cell (k + 3) ns 0
  obtain ⟨u1, e1⟩ : ∃ c : Int, C (k + 4) 7 [klD (ns.map .int), .int 1] = some (false, .int c) := cell (k + 3) ns 1
  obtain ⟨u2, e2⟩ : ∃ c : Int, C (k + 4) 7 [klD (ns.map .int), .int 2] = some (false, .int c) := cell (k + 3) ns 2
  obtain ⟨u3, e3⟩ : ∃ c : Int, C (k + 4) 7 [klD (ns.map .int), .int 3] = some (false, .int c) := cell (k + 3) ns 3
  obtain ⟨u4, e4⟩ : ∃ c : Int, C (k + 4) 7 [klD (ns.map .int), .int 4] = some (false, .int c) := cell (k + 3) ns 4
  obtain ⟨u5, e5⟩ : ∃ c : Int, C (k + 4) 7 [klD (ns.map .int), .int 5] = some (false, .int c) := cell (k + 3) ns 5
  obtain ⟨u6, e6⟩ : ∃ c : Int, C (k + 4) 7 [klD (ns.map .int), .int 6] = some (false, .int c) := cell (k + 3) ns 6
  obtain ⟨x, hx, d0⟩ : ∃ x : Nat → Int, (∀ j, 0 ≤ x j ∧ x j < 1000) ∧ C (k + 4) 8 [.int u0, .int 6] = some (true, .list (drL x 6)) := draws (k + 3) u0 6 (by decide)
  obtain ⟨y, hy, d1⟩ : ∃ x : Nat → Int, (∀ j, 0 ≤ x j ∧ x j < 1000) ∧ C (k + 4) 8 [.int u1, .int 5] = some (true, .list (drL x 5)) := draws (k + 3) u1 5 (by decide)
  obtain ⟨z, hz, d2⟩ : ∃ x : Nat → Int, (∀ j, 0 ≤ x j ∧ x j < 1000) ∧ C (k + 4) 8 [.int u2, .int 11] = some (true, .list (drL x 11)) := draws (k + 3) u2 11 (by decide)
  obtain ⟨u, hu, d4⟩ : ∃ x : Nat → Int, (∀ j, 0 ≤ x j ∧ x j < 1000) ∧ C (k + 4) 8 [.int u4, .int 11] = some (true, .list (drL x 11)) := draws (k + 3) u4 11 (by decide)
  obtain ⟨v, hv, d6⟩ : ∃ x : Nat → Int, (∀ j, 0 ≤ x j ∧ x j < 1000) ∧ C (k + 4) 8 [.int u6, .int 3] = some (true, .list (drL x 3)) := draws (k + 3) u6 3 (by decide)
  obtain ⟨L, hl, hL, nm⟩ : ∃ L : List (List Nat), L.length = 30 ∧ (∀ w ∈ L, w ∈ poolL) ∧ C (k + 4) 10 [.int (x 0), .int (x 1)] = some (false, .list (sl L)) := names (k + 3) (x 0) (x 1)
  generalize klD (ns.map .int) = S at e0 e1 e2 e3 e4 e5 e6 ⊢
  have q2 := fm (a := x 2) (b := 6) (by decide)
  obtain ⟨n, hn⟩ := Int.eq_ofNat_of_zero_le q2.1
  obtain ⟨wb, hwb, bd⟩ : ∃ w, Bad w ∧ C (k + 4) 21 [.list (sl L), .int (x 3), .int u5] = some (false, .str (mkS w)) := bad (k + 1) L hl hL (x 3) u5
  obtain ⟨g0, gg, hg0, hgs0, hgl0⟩ : ∃ g, C (k + 4) 17 [.int (z 5), .int (u 5)] = some (false, .str (mkS g)) ∧ Gp g ∧ (∀ c ∈ g, c < 128) ∧ g.length ≤ 20 := gap (k + 2) (z 5) (u 5)
  obtain ⟨text, before, ex, row, col, tk1, hI, hex, hxl, ht, htl, hbf, hbl⟩ := tokens k L hl hL n (by omega) y z u 5 11 11 (by omega) (by omega) (by omega) u3
  have go : exSs gs (C (k + 4)) 5000 i_f_law (startD 18 [S]) = exSs gs (C (k + 4)) 5000 r11 [some (false, S), some (false, .list (drL x 6)), some (false, .list (sl L)), some (false, .int (n : Int)), some (false, .list (drL z 11)), some (false, .list (drL u 11)), some (false, .int u3), some (false, .list [.str (mkS text), .list [.int row, .int col], .str (mkS before), .list ex]), some (false, .str (mkS before)), some (false, .list ex), some (false, .str (mkS wb)), some (false, .str (mkS g0)), none, none, none, none, none, none] := by
    have x0 := dr0 (x := x) (n := 6) (by decide)
    have x1 := dr1 (x := x) (n := 6) (by decide)
    have x2 := dr2 (x := x) (n := 6) (by decide)
    have x3 := dr3 (x := x) (n := 6) (by decide)
    have z5 := dr5 (x := z) (n := 11) (by decide)
    have w5 := dr5 (x := u) (n := 11) (by decide)
    generalize drL x 6 = X at d0 x0 x1 x2 x3 ⊢
    generalize drL y 5 = Y at d1 tk1
    generalize drL z 11 = Z at d2 z5 tk1 ⊢
    generalize drL u 11 = U at d4 w5 tk1 ⊢
    generalize sl L = N at nm bd tk1 ⊢
    generalize mkS text = T1 at tk1 ⊢
    generalize mkS before = T2 at tk1 ⊢
    generalize mkS wb = T3 at bd ⊢
    generalize mkS g0 = T4 at gg ⊢
    rw [law_eq, r0]
    generalize r11 = R
    refine (asg1 (.list X) (by simp only [exSs, x_asg, x_asgN, x_aug, x_app, x_set, x_clr, x_frz, x_ife, x_ret, x_retO, x_retN, x_brk, x_cnt, x_pass, asgD, evE, evEs, evAnd, evOr, evI, evO, evN, getS, getB, ownL, asgD, outD_rt, outD_nx, binD, addD, intD, augD, ordD, cmpD, asC, isD, isnotD, isnD, isiD, lenD, biD, asB, asI, asL, startD, ixD, seqO_nx, seqO_rt, seqO_bk, seqO_ct, seqO_non, Option.bind_some, Option.bind_none, Option.map_some, Option.map_none, List.getElem?_cons_zero, List.getElem?_cons_succ, List.length_cons, List.length_nil, List.map_cons, List.map_nil, List.set_cons_zero, List.set_cons_succ, List.replicate_succ, List.replicate_zero, List.cons_append, List.nil_append, Nat.reduceAdd, Nat.reduceSub, Nat.reduceLeDiff, Nat.zero_add, Nat.sub_self, Nat.reduceLT, sz, decide_eq_true_eq, decide_true, decide_false, if_true, if_false, ite_true, ite_false, Bool.false_eq_true, Bool.true_eq_false, Bool.not_true, Bool.not_false, not_true_eq_false, not_false_eq_true, eqD_int, eqD_ni, List.foldl_cons, List.foldl_nil, List.zip_cons_cons, List.zip_nil_left, Bool.not_eq_true', decide_eq_false_iff_not, reduceCtorEq, and_true, true_and, and_self, Int.cast_ofNat_Int, Int.natCast_add, Int.natCast_zero, Int.natCast_one, Int.reduceEq, Int.reduceNe, Int.reduceLT, Int.reduceLE, Int.reduceAdd, Int.reduceSub, Int.reduceMul, Int.reduceNeg, ne_eq, e0, d0])).trans ?_
    refine (asg1 (.list N) (by simp only [exSs, x_asg, x_asgN, x_aug, x_app, x_set, x_clr, x_frz, x_ife, x_ret, x_retO, x_retN, x_brk, x_cnt, x_pass, asgD, evE, evEs, evAnd, evOr, evI, evO, evN, getS, getB, ownL, asgD, outD_rt, outD_nx, binD, addD, intD, augD, ordD, cmpD, asC, isD, isnotD, isnD, isiD, lenD, biD, asB, asI, asL, startD, ixD, seqO_nx, seqO_rt, seqO_bk, seqO_ct, seqO_non, Option.bind_some, Option.bind_none, Option.map_some, Option.map_none, List.getElem?_cons_zero, List.getElem?_cons_succ, List.length_cons, List.length_nil, List.map_cons, List.map_nil, List.set_cons_zero, List.set_cons_succ, List.replicate_succ, List.replicate_zero, List.cons_append, List.nil_append, Nat.reduceAdd, Nat.reduceSub, Nat.reduceLeDiff, Nat.zero_add, Nat.sub_self, Nat.reduceLT, sz, decide_eq_true_eq, decide_true, decide_false, if_true, if_false, ite_true, ite_false, Bool.false_eq_true, Bool.true_eq_false, Bool.not_true, Bool.not_false, not_true_eq_false, not_false_eq_true, eqD_int, eqD_ni, List.foldl_cons, List.foldl_nil, List.zip_cons_cons, List.zip_nil_left, Bool.not_eq_true', decide_eq_false_iff_not, reduceCtorEq, and_true, true_and, and_self, Int.cast_ofNat_Int, Int.natCast_add, Int.natCast_zero, Int.natCast_one, Int.reduceEq, Int.reduceNe, Int.reduceLT, Int.reduceLE, Int.reduceAdd, Int.reduceSub, Int.reduceMul, Int.reduceNeg, ne_eq, x0, x1, nm])).trans ?_
    refine (asg1 (.int (n : Int)) (by simp only [exSs, x_asg, x_asgN, x_aug, x_app, x_set, x_clr, x_frz, x_ife, x_ret, x_retO, x_retN, x_brk, x_cnt, x_pass, asgD, evE, evEs, evAnd, evOr, evI, evO, evN, getS, getB, ownL, asgD, outD_rt, outD_nx, binD, addD, intD, augD, ordD, cmpD, asC, isD, isnotD, isnD, isiD, lenD, biD, asB, asI, asL, startD, ixD, seqO_nx, seqO_rt, seqO_bk, seqO_ct, seqO_non, Option.bind_some, Option.bind_none, Option.map_some, Option.map_none, List.getElem?_cons_zero, List.getElem?_cons_succ, List.length_cons, List.length_nil, List.map_cons, List.map_nil, List.set_cons_zero, List.set_cons_succ, List.replicate_succ, List.replicate_zero, List.cons_append, List.nil_append, Nat.reduceAdd, Nat.reduceSub, Nat.reduceLeDiff, Nat.zero_add, Nat.sub_self, Nat.reduceLT, sz, decide_eq_true_eq, decide_true, decide_false, if_true, if_false, ite_true, ite_false, Bool.false_eq_true, Bool.true_eq_false, Bool.not_true, Bool.not_false, not_true_eq_false, not_false_eq_true, eqD_int, eqD_ni, List.foldl_cons, List.foldl_nil, List.zip_cons_cons, List.zip_nil_left, Bool.not_eq_true', decide_eq_false_iff_not, reduceCtorEq, and_true, true_and, and_self, Int.cast_ofNat_Int, Int.natCast_add, Int.natCast_zero, Int.natCast_one, Int.reduceEq, Int.reduceNe, Int.reduceLT, Int.reduceLE, Int.reduceAdd, Int.reduceSub, Int.reduceMul, Int.reduceNeg, ne_eq, x2, mo6, hn])).trans ?_
    refine (asg1 (.list Z) (by simp only [exSs, x_asg, x_asgN, x_aug, x_app, x_set, x_clr, x_frz, x_ife, x_ret, x_retO, x_retN, x_brk, x_cnt, x_pass, asgD, evE, evEs, evAnd, evOr, evI, evO, evN, getS, getB, ownL, asgD, outD_rt, outD_nx, binD, addD, intD, augD, ordD, cmpD, asC, isD, isnotD, isnD, isiD, lenD, biD, asB, asI, asL, startD, ixD, seqO_nx, seqO_rt, seqO_bk, seqO_ct, seqO_non, Option.bind_some, Option.bind_none, Option.map_some, Option.map_none, List.getElem?_cons_zero, List.getElem?_cons_succ, List.length_cons, List.length_nil, List.map_cons, List.map_nil, List.set_cons_zero, List.set_cons_succ, List.replicate_succ, List.replicate_zero, List.cons_append, List.nil_append, Nat.reduceAdd, Nat.reduceSub, Nat.reduceLeDiff, Nat.zero_add, Nat.sub_self, Nat.reduceLT, sz, decide_eq_true_eq, decide_true, decide_false, if_true, if_false, ite_true, ite_false, Bool.false_eq_true, Bool.true_eq_false, Bool.not_true, Bool.not_false, not_true_eq_false, not_false_eq_true, eqD_int, eqD_ni, List.foldl_cons, List.foldl_nil, List.zip_cons_cons, List.zip_nil_left, Bool.not_eq_true', decide_eq_false_iff_not, reduceCtorEq, and_true, true_and, and_self, Int.cast_ofNat_Int, Int.natCast_add, Int.natCast_zero, Int.natCast_one, Int.reduceEq, Int.reduceNe, Int.reduceLT, Int.reduceLE, Int.reduceAdd, Int.reduceSub, Int.reduceMul, Int.reduceNeg, ne_eq, e2, d2])).trans ?_
    refine (asg1 (.list U) (by simp only [exSs, x_asg, x_asgN, x_aug, x_app, x_set, x_clr, x_frz, x_ife, x_ret, x_retO, x_retN, x_brk, x_cnt, x_pass, asgD, evE, evEs, evAnd, evOr, evI, evO, evN, getS, getB, ownL, asgD, outD_rt, outD_nx, binD, addD, intD, augD, ordD, cmpD, asC, isD, isnotD, isnD, isiD, lenD, biD, asB, asI, asL, startD, ixD, seqO_nx, seqO_rt, seqO_bk, seqO_ct, seqO_non, Option.bind_some, Option.bind_none, Option.map_some, Option.map_none, List.getElem?_cons_zero, List.getElem?_cons_succ, List.length_cons, List.length_nil, List.map_cons, List.map_nil, List.set_cons_zero, List.set_cons_succ, List.replicate_succ, List.replicate_zero, List.cons_append, List.nil_append, Nat.reduceAdd, Nat.reduceSub, Nat.reduceLeDiff, Nat.zero_add, Nat.sub_self, Nat.reduceLT, sz, decide_eq_true_eq, decide_true, decide_false, if_true, if_false, ite_true, ite_false, Bool.false_eq_true, Bool.true_eq_false, Bool.not_true, Bool.not_false, not_true_eq_false, not_false_eq_true, eqD_int, eqD_ni, List.foldl_cons, List.foldl_nil, List.zip_cons_cons, List.zip_nil_left, Bool.not_eq_true', decide_eq_false_iff_not, reduceCtorEq, and_true, true_and, and_self, Int.cast_ofNat_Int, Int.natCast_add, Int.natCast_zero, Int.natCast_one, Int.reduceEq, Int.reduceNe, Int.reduceLT, Int.reduceLE, Int.reduceAdd, Int.reduceSub, Int.reduceMul, Int.reduceNeg, ne_eq, e4, d4])).trans ?_
    refine (asg1 (.int u3) (by simp only [exSs, x_asg, x_asgN, x_aug, x_app, x_set, x_clr, x_frz, x_ife, x_ret, x_retO, x_retN, x_brk, x_cnt, x_pass, asgD, evE, evEs, evAnd, evOr, evI, evO, evN, getS, getB, ownL, asgD, outD_rt, outD_nx, binD, addD, intD, augD, ordD, cmpD, asC, isD, isnotD, isnD, isiD, lenD, biD, asB, asI, asL, startD, ixD, seqO_nx, seqO_rt, seqO_bk, seqO_ct, seqO_non, Option.bind_some, Option.bind_none, Option.map_some, Option.map_none, List.getElem?_cons_zero, List.getElem?_cons_succ, List.length_cons, List.length_nil, List.map_cons, List.map_nil, List.set_cons_zero, List.set_cons_succ, List.replicate_succ, List.replicate_zero, List.cons_append, List.nil_append, Nat.reduceAdd, Nat.reduceSub, Nat.reduceLeDiff, Nat.zero_add, Nat.sub_self, Nat.reduceLT, sz, decide_eq_true_eq, decide_true, decide_false, if_true, if_false, ite_true, ite_false, Bool.false_eq_true, Bool.true_eq_false, Bool.not_true, Bool.not_false, not_true_eq_false, not_false_eq_true, eqD_int, eqD_ni, List.foldl_cons, List.foldl_nil, List.zip_cons_cons, List.zip_nil_left, Bool.not_eq_true', decide_eq_false_iff_not, reduceCtorEq, and_true, true_and, and_self, Int.cast_ofNat_Int, Int.natCast_add, Int.natCast_zero, Int.natCast_one, Int.reduceEq, Int.reduceNe, Int.reduceLT, Int.reduceLE, Int.reduceAdd, Int.reduceSub, Int.reduceMul, Int.reduceNeg, ne_eq, e3])).trans ?_
    refine (asg1 (.list [.str T1, .list [.int row, .int col], .str T2, .list ex]) (by simp only [exSs, x_asg, x_asgN, x_aug, x_app, x_set, x_clr, x_frz, x_ife, x_ret, x_retO, x_retN, x_brk, x_cnt, x_pass, asgD, evE, evEs, evAnd, evOr, evI, evO, evN, getS, getB, ownL, asgD, outD_rt, outD_nx, binD, addD, intD, augD, ordD, cmpD, asC, isD, isnotD, isnD, isiD, lenD, biD, asB, asI, asL, startD, ixD, seqO_nx, seqO_rt, seqO_bk, seqO_ct, seqO_non, Option.bind_some, Option.bind_none, Option.map_some, Option.map_none, List.getElem?_cons_zero, List.getElem?_cons_succ, List.length_cons, List.length_nil, List.map_cons, List.map_nil, List.set_cons_zero, List.set_cons_succ, List.replicate_succ, List.replicate_zero, List.cons_append, List.nil_append, Nat.reduceAdd, Nat.reduceSub, Nat.reduceLeDiff, Nat.zero_add, Nat.sub_self, Nat.reduceLT, sz, decide_eq_true_eq, decide_true, decide_false, if_true, if_false, ite_true, ite_false, Bool.false_eq_true, Bool.true_eq_false, Bool.not_true, Bool.not_false, not_true_eq_false, not_false_eq_true, eqD_int, eqD_ni, List.foldl_cons, List.foldl_nil, List.zip_cons_cons, List.zip_nil_left, Bool.not_eq_true', decide_eq_false_iff_not, reduceCtorEq, and_true, true_and, and_self, Int.cast_ofNat_Int, Int.natCast_add, Int.natCast_zero, Int.natCast_one, Int.reduceEq, Int.reduceNe, Int.reduceLT, Int.reduceLE, Int.reduceAdd, Int.reduceSub, Int.reduceMul, Int.reduceNeg, ne_eq, e1, d1, tk1])).trans ?_
    refine (asg1 (.str T2) (by simp only [exSs, x_asg, x_asgN, x_aug, x_app, x_set, x_clr, x_frz, x_ife, x_ret, x_retO, x_retN, x_brk, x_cnt, x_pass, asgD, evE, evEs, evAnd, evOr, evI, evO, evN, getS, getB, ownL, asgD, outD_rt, outD_nx, binD, addD, intD, augD, ordD, cmpD, asC, isD, isnotD, isnD, isiD, lenD, biD, asB, asI, asL, startD, ixD, seqO_nx, seqO_rt, seqO_bk, seqO_ct, seqO_non, Option.bind_some, Option.bind_none, Option.map_some, Option.map_none, List.getElem?_cons_zero, List.getElem?_cons_succ, List.length_cons, List.length_nil, List.map_cons, List.map_nil, List.set_cons_zero, List.set_cons_succ, List.replicate_succ, List.replicate_zero, List.cons_append, List.nil_append, Nat.reduceAdd, Nat.reduceSub, Nat.reduceLeDiff, Nat.zero_add, Nat.sub_self, Nat.reduceLT, sz, decide_eq_true_eq, decide_true, decide_false, if_true, if_false, ite_true, ite_false, Bool.false_eq_true, Bool.true_eq_false, Bool.not_true, Bool.not_false, not_true_eq_false, not_false_eq_true, eqD_int, eqD_ni, List.foldl_cons, List.foldl_nil, List.zip_cons_cons, List.zip_nil_left, Bool.not_eq_true', decide_eq_false_iff_not, reduceCtorEq, and_true, true_and, and_self, Int.cast_ofNat_Int, Int.natCast_add, Int.natCast_zero, Int.natCast_one, Int.reduceEq, Int.reduceNe, Int.reduceLT, Int.reduceLE, Int.reduceAdd, Int.reduceSub, Int.reduceMul, Int.reduceNeg, ne_eq, at2])).trans ?_
    refine (asg1 (.list ex) (by simp only [exSs, x_asg, x_asgN, x_aug, x_app, x_set, x_clr, x_frz, x_ife, x_ret, x_retO, x_retN, x_brk, x_cnt, x_pass, asgD, evE, evEs, evAnd, evOr, evI, evO, evN, getS, getB, ownL, asgD, outD_rt, outD_nx, binD, addD, intD, augD, ordD, cmpD, asC, isD, isnotD, isnD, isiD, lenD, biD, asB, asI, asL, startD, ixD, seqO_nx, seqO_rt, seqO_bk, seqO_ct, seqO_non, Option.bind_some, Option.bind_none, Option.map_some, Option.map_none, List.getElem?_cons_zero, List.getElem?_cons_succ, List.length_cons, List.length_nil, List.map_cons, List.map_nil, List.set_cons_zero, List.set_cons_succ, List.replicate_succ, List.replicate_zero, List.cons_append, List.nil_append, Nat.reduceAdd, Nat.reduceSub, Nat.reduceLeDiff, Nat.zero_add, Nat.sub_self, Nat.reduceLT, sz, decide_eq_true_eq, decide_true, decide_false, if_true, if_false, ite_true, ite_false, Bool.false_eq_true, Bool.true_eq_false, Bool.not_true, Bool.not_false, not_true_eq_false, not_false_eq_true, eqD_int, eqD_ni, List.foldl_cons, List.foldl_nil, List.zip_cons_cons, List.zip_nil_left, Bool.not_eq_true', decide_eq_false_iff_not, reduceCtorEq, and_true, true_and, and_self, Int.cast_ofNat_Int, Int.natCast_add, Int.natCast_zero, Int.natCast_one, Int.reduceEq, Int.reduceNe, Int.reduceLT, Int.reduceLE, Int.reduceAdd, Int.reduceSub, Int.reduceMul, Int.reduceNeg, ne_eq, at3])).trans ?_
    refine (asg1 (.str T3) (by simp only [exSs, x_asg, x_asgN, x_aug, x_app, x_set, x_clr, x_frz, x_ife, x_ret, x_retO, x_retN, x_brk, x_cnt, x_pass, asgD, evE, evEs, evAnd, evOr, evI, evO, evN, getS, getB, ownL, asgD, outD_rt, outD_nx, binD, addD, intD, augD, ordD, cmpD, asC, isD, isnotD, isnD, isiD, lenD, biD, asB, asI, asL, startD, ixD, seqO_nx, seqO_rt, seqO_bk, seqO_ct, seqO_non, Option.bind_some, Option.bind_none, Option.map_some, Option.map_none, List.getElem?_cons_zero, List.getElem?_cons_succ, List.length_cons, List.length_nil, List.map_cons, List.map_nil, List.set_cons_zero, List.set_cons_succ, List.replicate_succ, List.replicate_zero, List.cons_append, List.nil_append, Nat.reduceAdd, Nat.reduceSub, Nat.reduceLeDiff, Nat.zero_add, Nat.sub_self, Nat.reduceLT, sz, decide_eq_true_eq, decide_true, decide_false, if_true, if_false, ite_true, ite_false, Bool.false_eq_true, Bool.true_eq_false, Bool.not_true, Bool.not_false, not_true_eq_false, not_false_eq_true, eqD_int, eqD_ni, List.foldl_cons, List.foldl_nil, List.zip_cons_cons, List.zip_nil_left, Bool.not_eq_true', decide_eq_false_iff_not, reduceCtorEq, and_true, true_and, and_self, Int.cast_ofNat_Int, Int.natCast_add, Int.natCast_zero, Int.natCast_one, Int.reduceEq, Int.reduceNe, Int.reduceLT, Int.reduceLE, Int.reduceAdd, Int.reduceSub, Int.reduceMul, Int.reduceNeg, ne_eq, x3, e5, bd])).trans ?_
    refine (asg1 (.str T4) (by simp only [exSs, x_asg, x_asgN, x_aug, x_app, x_set, x_clr, x_frz, x_ife, x_ret, x_retO, x_retN, x_brk, x_cnt, x_pass, asgD, evE, evEs, evAnd, evOr, evI, evO, evN, getS, getB, ownL, asgD, outD_rt, outD_nx, binD, addD, intD, augD, ordD, cmpD, asC, isD, isnotD, isnD, isiD, lenD, biD, asB, asI, asL, startD, ixD, seqO_nx, seqO_rt, seqO_bk, seqO_ct, seqO_non, Option.bind_some, Option.bind_none, Option.map_some, Option.map_none, List.getElem?_cons_zero, List.getElem?_cons_succ, List.length_cons, List.length_nil, List.map_cons, List.map_nil, List.set_cons_zero, List.set_cons_succ, List.replicate_succ, List.replicate_zero, List.cons_append, List.nil_append, Nat.reduceAdd, Nat.reduceSub, Nat.reduceLeDiff, Nat.zero_add, Nat.sub_self, Nat.reduceLT, sz, decide_eq_true_eq, decide_true, decide_false, if_true, if_false, ite_true, ite_false, Bool.false_eq_true, Bool.true_eq_false, Bool.not_true, Bool.not_false, not_true_eq_false, not_false_eq_true, eqD_int, eqD_ni, List.foldl_cons, List.foldl_nil, List.zip_cons_cons, List.zip_nil_left, Bool.not_eq_true', decide_eq_false_iff_not, reduceCtorEq, and_true, true_and, and_self, Int.cast_ofNat_Int, Int.natCast_add, Int.natCast_zero, Int.natCast_one, Int.reduceEq, Int.reduceNe, Int.reduceLT, Int.reduceLE, Int.reduceAdd, Int.reduceSub, Int.reduceMul, Int.reduceNeg, ne_eq, z5, w5, gg])).trans ?_
    simp only [exSs, x_asg, x_asgN, x_aug, x_app, x_set, x_clr, x_frz, x_ife, x_ret, x_retO, x_retN, x_brk, x_cnt, x_pass, asgD, evE, evEs, evAnd, evOr, evI, evO, evN, getS, getB, ownL, asgD, outD_rt, outD_nx, binD, addD, intD, augD, ordD, cmpD, asC, isD, isnotD, isnD, isiD, lenD, biD, asB, asI, asL, startD, ixD, seqO_nx, seqO_rt, seqO_bk, seqO_ct, seqO_non, Option.bind_some, Option.bind_none, Option.map_some, Option.map_none, List.getElem?_cons_zero, List.getElem?_cons_succ, List.length_cons, List.length_nil, List.map_cons, List.map_nil, List.set_cons_zero, List.set_cons_succ, List.replicate_succ, List.replicate_zero, List.cons_append, List.nil_append, Nat.reduceAdd, Nat.reduceSub, Nat.reduceLeDiff, Nat.zero_add, Nat.sub_self, Nat.reduceLT, sz, decide_eq_true_eq, decide_true, decide_false, if_true, if_false, ite_true, ite_false, Bool.false_eq_true, Bool.true_eq_false, Bool.not_true, Bool.not_false, not_true_eq_false, not_false_eq_true, eqD_int, eqD_ni, List.foldl_cons, List.foldl_nil, List.zip_cons_cons, List.zip_nil_left, Bool.not_eq_true', decide_eq_false_iff_not, reduceCtorEq, and_true, true_and, and_self, Int.cast_ofNat_Int, Int.natCast_add, Int.natCast_zero, Int.natCast_one, Int.reduceEq, Int.reduceNe, Int.reduceLT, Int.reduceLE, Int.reduceAdd, Int.reduceSub, Int.reduceMul, Int.reduceNeg, ne_eq]
  rw [go]
  exact p11 k S (.list (drL x 6)) L hl hL (.int (n : Int)) x z u v u6 u3 text before wb g0 ex row col none none none none none none e6 rfl d6 hI hex (by omega) ht (by omega) hbf hbl hwb hg0 hgs0 hgl0
theorem pure_ok : pureLaw := ⟨5000, fun ns _ => law_pure 15 ns⟩
end K02
theorem k02_holds : PySem.Challenge.rw_wokenlives_k02_first_bad_token.Holds := k02_holds_of K02.pure_ok
end
theorem PySem.Challenge.cw_wokenlives_k02_first_bad_token_holds : PySem.Challenge.rw_wokenlives_k02_first_bad_token.Holds :=
  k02_holds
