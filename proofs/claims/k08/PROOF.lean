import PyProof.Rows.All
import Wide.All
import OpenK.AllK
import Wide.FinOn
import HandS.List
import HandS.Text
import HandS.StrMore
import PyProof.ReprReads
import HandS.ForMost
import HandS.Walk
import HandS.Wide
import HandS.Property
import HandS.TupAny
import HandS.IsInst
import HandS.WideBits
import HandS.Gcd
import KE.KOpsOwn
import HandS.Sort
import KE.KMathG
import HandS.Star
import HandS.FStr
import HandS.More
import PyProof.CallFns
import PyProof.ReprRoads
import OpenK.KOps
import HandS.Zip
import KE.GoesMore
import PyProof.LongRange
import KE.GoesEnum
import HandS.NoneIn
import HandS.Style
import HandS.Iter
import HandS.Comp
import PyProof.Rows.ReprR
import HandS.Small
import HandS.EndBits
import PySem.Challenge.RW_viewstairs_k08_whole_moved
set_option Elab.async false
set_option linter.all false
set_option maxRecDepth 100000
namespace Vw
open PySem
inductive D where
  | non | bl (b : Bool) | int (i : Int) | str (x : Str)
  | tup (l : List D) | lst (l : List D) | obj (c : Nat) (fs : List D) | cel (k : Nat)
abbrev Cel := List (Str × D)
abbrev Mu := List Cel
inductive Sl where
  | und | val (d : D) | own (l : List D)
abbrev Rho := List Sl
abbrev Ex := Nat × List D
inductive Out (α : Type) where
  | ok (a : α) (μ : Mu) | err (x : Ex) (μ : Mu) | bad
def Out.bind {α β : Type} (o : Out α) (f : α → Mu → Out β) : Out β :=
  match o with
  | .ok a μ => f a μ
  | .err x μ => .err x μ
  | .bad => .bad
@[simp] theorem Out.bind_ok {α β : Type} (a : α) (μ : Mu) (f : α → Mu → Out β) : (Out.ok a μ).bind f = f a μ := rfl
@[simp] theorem Out.bind_bad {α β : Type} (f : α → Mu → Out β) : (Out.bad : Out α).bind f = .bad := rfl
theorem Out.bind_eq_ok {α β : Type} {o : Out α} {f : α → Mu → Out β} {b : β} {μ : Mu} (h : o.bind f = .ok b μ) : ∃ a μ1, o = .ok a μ1 ∧ f a μ1 = .ok b μ := by
  cases o with
  | ok a μ1 => exact ⟨a, μ1, rfl, h⟩
  | err x μ1 => cases h
  | bad => cases h
def Sl.get : Rho → Nat → Sl
  | [], _ => .und
  | s :: _, 0 => s
  | _ :: r, i + 1 => Sl.get r i
def Sl.put : Rho → Nat → Sl → Rho
  | [], _, _ => []
  | _ :: r, 0, t => t :: r
  | s :: r, i + 1, t => s :: Sl.put r i t
inductive Blt where
  | len | abs | int | tuple | list | divmod | all | min2 | max2 | lcm | str | strD | repr | isInt | isBool | isTup | isStr | isObj (c : Nat) | maxL | minL | sumL
mutual
inductive E where
  | var (i : Nat) | int (i : Int) | bl (b : Bool) | non | str (x : Str)
  | con (g : Nat)
  | bin (op : Operator) (a b : E) | un (op : UnaryOp) (a : E)
  | cmp (op : CmpOp) (a b : E) | chain (op op2 : CmpOp) (a b c : E)
  | isN (a : E) | notN (a : E)
  | and (a b : E) | or (a b : E) | one (a : E) | not (a : E)
  | ife (c a b : E)
  | tup (es : Es) | lst (es : Es)
  | lstar (a : E) (es : Es) | tstar (a b : E)
  | ix (a b : E) | sl (a : E) (lo hi : Oe) | rev (a : E)
  | call (f : Nat) (as : Es) | meth (o : E) (m : Nat) (as : Es) | fld (o : E) (f : Nat) | new (c : Nat) (as : Es) | app (i : Nat) (as : Es)
  | blt (b : Blt) (as : Es)
  | lc (own : List Nat) (t : Tg) (it : It) (c : Oe) (e : E)
  | lc2 (own : List Nat) (t : Tg) (it : It) (own2 : List Nat) (t2 : Tg) (it2 : It) (e : E)
  | dget (o : E) (key : Str) | dict (keys : List Str) (es : Es)
  | oix (i : Nat) (b : E) | olen (i : Nat)
  | stat (f : Nat) (as : Es) | appE (o : E) (as : Es) | zfill (o a : E) | join (o a : E) | fs (es : Es)
inductive Es where
  | nil | cons (e : E) (es : Es) | star (e : E) (es : Es)
inductive Oe where
  | none | some (e : E)
inductive Tg where
  | nm (i : Nat) | tp (is : List Nat)
inductive It where
  | seq (e : E) | r1 (a : E) | r2 (a b : E) | r3 (a b : E) (c : Int) | enum (e : E) | zip (a b : E) | zip3 (a b c : E)
end
mutual
inductive S where
  | set (i : Nat) (e : E) | bld (i : Nat) (e : E) | par (i j : Nat) (a b : E) (oi oj : Bool) | un (is : List Nat) (e : E)
  | app (i : Nat) (e : E) | put (i : Nat) (k e : E) | dput (o : E) (key : Str) (e : E) | dput2 (o1 : E) (k1 : Str) (o2 : E) (k2 : Str) (e1 e2 : E)
  | frz (i : Nat)
  | ife (c : E) (t e : Ss) | whl (c : E) (b : Ss) | for (t : Tg) (it : It) (b : Ss)
  | ret (e : E) | retN | brk | cnt | pas | exp (e : E)
  | init (c : Nat) (e : E)
  | never
inductive Ss where
  | nil | cons (s : S) (ss : Ss)
end
structure Fd where
  lead : Nat
  slots : Nat
  pars : Nat
  body : Ss
structure Pr where
  con : Nat → Option Int
  meth : Nat → Nat → Option Nat
  init : Nat → Option Nat
  nflds : Nat → Nat
  fld : Nat → Nat → Option Nat
  prop : Nat → Nat → Option Nat
  oi : Operator → Bool
  sta : Nat → Option (Nat × Nat) := fun _ => none
def opM : Operator → Nat
  | .Add => 0 | .Sub => 1 | .Mult => 2 | .BitAnd => 3 | .BitOr => 4 | .FloorDiv => 5 | .Mod => 6 | .Pow => 7 | .LShift => 8 | .RShift => 9 | .BitXor => 10 | .MatMult => 11 | .Div => 12
def ropM : Operator → Nat
  | .Add => 20 | .Sub => 21 | .Mult => 22 | _ => 23
def cmpM : CmpOp → Nat
  | .Eq => 30 | .NotEq => 31 | .Lt => 32 | .LtE => 33 | .Gt => 34 | .GtE => 35 | .Is => 36 | .IsNot => 37 | .In => 38 | .NotIn => 39
def unM : UnaryOp → Nat
  | .Invert => 40 | .Not => 41 | .UAdd => 42 | .USub => 43
abbrev mLen : Nat := 50
abbrev mGet : Nat := 51
abbrev mCall : Nat := 52
abbrev mRepr : Nat := 53
abbrev mStr : Nat := 54
abbrev cap : Nat := 16777216
abbrev Gam := Nat → List D → Mu → Out D
mutual
def D.py : D → Option PyData
  | .non => some .none
  | .bl b => some (.bool b)
  | .int i => some (.int i)
  | .str x => some (.str x)
  | .tup l => (D.pys l).map .tuple
  | .lst l => (D.pys l).map .list
  | .obj _ _ => none
  | .cel _ => none
def D.pys : List D → Option (List PyData)
  | [] => some []
  | d :: r => match D.py d, D.pys r with
    | some x, some xs => some (x :: xs)
    | _, _ => none
end
def deq (a b : D) : Option Bool :=
  match a.py, b.py with
  | some x, some y => if SeqAt.shaped x = true ∧ SeqAt.shaped y = true then some (PyData.eqv x y) else none
  | _, _ => none
def D.flat : D → Bool
  | .non => true | .bl _ => true | .int _ => true | .str _ => true | _ => false
def flatEq : D → D → Bool
  | .non, .non => true
  | .bl a, .bl b => a == b
  | .bl a, .int j => (if a then 1 else 0) == j
  | .int i, .bl b => i == (if b then 1 else 0)
  | .int i, .int j => i == j
  | .str x, .str y => decide (x = y)
  | _, _ => false
def lenOk (l : List D) (μ : Mu) (f : List D → D) : Out D := if l.length ≤ cap then .ok (f l) μ else .bad
def callM (P : Pr) (Γ : Gam) (c m : Nat) (ds : List D) (μ : Mu) : Out D :=
  match P.meth c m with
  | some f => Γ f ds μ
  | none => .bad
def bop (P : Pr) (Γ : Gam) (op : Operator) (a b : D) (μ : Mu) : Out D :=
  match a, b with
  | .int i, .int j =>
    match op with
    | .Add => .ok (.int (i + j)) μ
    | .Sub => .ok (.int (i - j)) μ
    | .Mult => if i.natAbs.log2 + j.natAbs.log2 < 1000000 then .ok (.int (i * j)) μ else .bad
    | .FloorDiv => if 0 < j ∧ j.natAbs.log2 < 9000 then .ok (.int (i / j)) μ else .bad
    | .Mod => if 0 < j then .ok (.int (i % j)) μ else .bad
    | .Pow => if 0 ≤ j ∧ j ≤ 1000000 ∧ i.natAbs < 2 ^ 64 then .ok (.int (i ^ j.toNat)) μ else .bad
    | .RShift => if 0 ≤ j then .ok (.int (i / 2 ^ j.toNat)) μ else .bad
    | .BitAnd => .ok (.int (Builtin.bitAnd i j)) μ
    | _ => .bad
  | .str x, .str y => if op = .Add ∧ x.length + y.length ≤ cap then .ok (.str (x ++ y)) μ else .bad
  | .lst x, .lst y => if op = .Add then lenOk (x ++ y) μ .lst else .bad
  | .lst x, .int k => if op = .Mult ∧ 0 ≤ k ∧ k < 2 ^ 62 ∧ x.length * k.toNat ≤ cap then .ok (.lst (List.replicate k.toNat x).flatten) μ else .bad
  | .tup x, .tup y => if op = .Add then lenOk (x ++ y) μ .tup else .bad
  | .int i, .obj c fs => if op = .Add ∧ (P.meth c (opM .Add)).isSome = true then callM P Γ c 20 [.obj c fs, .int i] μ else .bad
  | .obj c fs, .int j => if P.oi op = true then callM P Γ c (opM op) [.obj c fs, .int j] μ else .bad
  | .obj c fs, .obj c' fs' => if c = c' then callM P Γ c (opM op) [.obj c fs, .obj c' fs'] μ else .bad
  | _, _ => .bad
def uop (P : Pr) (Γ : Gam) (op : UnaryOp) (a : D) (μ : Mu) : Out D :=
  match a with
  | .int i => match op with
    | .USub => .ok (.int (-i)) μ
    | _ => .bad
  | .obj c fs => match op with
    | .USub => callM P Γ c (unM op) [.obj c fs] μ
    | .Invert => callM P Γ c (unM op) [.obj c fs] μ
    | _ => .bad
  | _ => .bad
def objEqOk (c : Nat) : D → Bool
  | .obj c' _ => c == c'
  | .non => true | .bl _ => true | .int _ => true | .str _ => true | .tup _ => true | .lst _ => true
  | _ => false
def cop (P : Pr) (Γ : Gam) (op : CmpOp) (a b : D) (μ : Mu) : Out D :=
  match op with
  | .Lt => match a, b with
    | .int i, .int j => .ok (.bl (decide (i < j))) μ
    | .obj c fs, .obj c' fs' => if c = c' then callM P Γ c (cmpM op) [.obj c fs, .obj c' fs'] μ else .bad
    | _, _ => .bad
  | .LtE => match a, b with
    | .int i, .int j => .ok (.bl (decide (i ≤ j))) μ
    | .obj c fs, .obj c' fs' => if c = c' then callM P Γ c (cmpM op) [.obj c fs, .obj c' fs'] μ else .bad
    | _, _ => .bad
  | .Gt => match a, b with
    | .int i, .int j => .ok (.bl (decide (j < i))) μ
    | .obj c fs, .obj c' fs' => if c = c' then callM P Γ c (cmpM op) [.obj c fs, .obj c' fs'] μ else .bad
    | _, _ => .bad
  | .GtE => match a, b with
    | .int i, .int j => .ok (.bl (decide (j ≤ i))) μ
    | .obj c fs, .obj c' fs' => if c = c' then callM P Γ c (cmpM op) [.obj c fs, .obj c' fs'] μ else .bad
    | _, _ => .bad
  | .Eq => match a with
    | .obj c fs => if objEqOk c b = true then callM P Γ c (cmpM op) [.obj c fs, b] μ else .bad
    | _ => match deq a b with
      | some k => .ok (.bl k) μ
      | none => .bad
  | .NotEq => match a with
    | .obj c fs => if objEqOk c b = true then (callM P Γ c 30 [.obj c fs, b] μ).bind fun r μ1 => match r with
      | .bl k => .ok (.bl (!k)) μ1
      | _ => .bad
      else .bad
    | _ => match deq a b with
      | some k => .ok (.bl (!k)) μ
      | none => .bad
  | .In => match b with
    | .obj c fs => (callM P Γ c 38 [.obj c fs, a] μ).bind fun r μ1 => match r with
      | .bl k => .ok (.bl k) μ1
      | _ => .bad
    | .lst l => if a.flat = true ∧ l.all D.flat = true then .ok (.bl (l.any fun y => flatEq y a)) μ else .bad
    | .tup l => if a.flat = true ∧ l.all D.flat = true then .ok (.bl (l.any fun y => flatEq y a)) μ else .bad
    | _ => .bad
  | .NotIn => match b with
    | .lst l => if a.flat = true ∧ l.all D.flat = true then .ok (.bl (!(l.any fun y => flatEq y a))) μ else .bad
    | .tup l => if a.flat = true ∧ l.all D.flat = true then .ok (.bl (!(l.any fun y => flatEq y a))) μ else .bad
    | .obj c fs => (callM P Γ c 38 [.obj c fs, a] μ).bind fun r μ1 => match r with
      | .bl k => .ok (.bl (!k)) μ1
      | _ => .bad
    | _ => .bad
  | _ => .bad
def at? {α : Type} (l : List α) (i : Int) : Option α := L2.atI l i
def ixop (P : Pr) (Γ : Gam) (a b : D) (μ : Mu) : Out D :=
  match a, b with
  | .lst l, .int i => match at? l i with
    | some d => .ok d μ
    | none => .bad
  | .tup l, .int i => match at? l i with
    | some d => .ok d μ
    | none => .bad
  | _, _ => .bad
def cut {α : Type} (xs : List α) (lo hi : Option Int) : List α := (xs.drop (HT.sIx xs.length 0 lo)).take (HT.sIx xs.length xs.length hi - HT.sIx xs.length 0 lo)
def part (o : Option D) : Option (Option Int) := match o with
  | none => some none
  | some (.int i) => some (some i)
  | _ => none
def slop (a : D) (lo hi : Option D) (μ : Mu) : Out D :=
  match part lo, part hi with
  | some l, some h => match a with
    | .lst xs => .ok (.lst (cut xs l h)) μ
    | .tup xs => .ok (.tup (cut xs l h)) μ
    | _ => .bad
  | _, _ => .bad
def intsOf : List D → Option (List Int)
  | [] => some []
  | .int i :: r => (intsOf r).map (i :: ·)
  | _ :: _ => none
def bools : List D → Option (List Bool)
  | [] => some []
  | .bl b :: r => (bools r).map (b :: ·)
  | _ :: _ => none
def itx (i : Int) : Str := (toString i : String)
def strsOf : List D → Option (List Str)
  | [] => some []
  | .str x :: r => (strsOf r).map (x :: ·)
  | _ :: _ => none
def ftxt : D → Option Str
  | .str y => some y
  | .int i => if i.natAbs.log2 < 1920 then some (itx i) else none
  | _ => none
def fsJ : List D → Str → Option Str
  | [], acc => some acc
  | d :: r, acc => match ftxt d with
    | some y => if (acc ++ y).length ≤ cap then fsJ r (acc ++ y) else none
    | none => none
def zfop (a b : D) (μ : Mu) : Out D :=
  match a, b with
  | .str x, .int i => if PadOk i = true then .ok (.str (Txt.zfill x i)) μ else .bad
  | _, _ => .bad
def jnop (a b : D) (μ : Mu) : Out D :=
  match a, b with
  | .str x, .lst l => match strsOf l with
    | some ys => if (ys.map (·.length)).sum + ys.length * x.length ≤ 16777216 then .ok (.str (Txt.join x ys)) μ else .bad
    | none => .bad
  | _, _ => .bad
def rptx (d : D) : Option Str := match d.py with
  | some x => if PyData.showable x = true ∧ x.shown.length ≤ cap ∧ x.depth ≤ 64 then some x.shown else none
  | none => none
def bltop (P : Pr) (Γ : Gam) (b : Blt) (ds : List D) (μ : Mu) : Out D :=
  match b, ds with
  | .len, [.lst l] => .ok (.int l.length) μ
  | .len, [.tup l] => .ok (.int l.length) μ
  | .abs, [.int i] => .ok (.int (if i < 0 then -i else i)) μ
  | .int, [.int i] => .ok (.int i) μ
  | .tuple, [.lst l] => .ok (.tup l) μ
  | .tuple, [.tup l] => .ok (.tup l) μ
  | .list, [.lst l] => .ok (.lst l) μ
  | .list, [.tup l] => .ok (.lst l) μ
  | .divmod, [.int i, .int j] => if 0 < j ∧ j.natAbs.log2 < 9000 then .ok (.tup [.int (i / j), .int (i % j)]) μ else .bad
  | .all, [.lst l] => match bools l with
    | some bs => .ok (.bl (bs.all id)) μ
    | none => .bad
  | .maxL, [.lst l] => match intsOf l with
    | some (i :: r) => .ok (.int (r.foldl max i)) μ
    | _ => .bad
  | .minL, [.lst l] => match intsOf l with
    | some (i :: r) => .ok (.int (r.foldl min i)) μ
    | _ => .bad
  | .sumL, [.lst l] => match intsOf l with
    | some r => .ok (.int r.sum) μ
    | _ => .bad
  | .min2, [.int i, .int j] => .ok (.int (if j < i then j else i)) μ
  | .max2, [.int i, .int j] => .ok (.int (if j > i then j else i)) μ
  | .lcm, [.int i, .int j] => if i.natAbs.log2 < 6000 ∧ j.natAbs.log2 < 6000 then .ok (.int (Nat.lcm i.natAbs j.natAbs : Nat)) μ else .bad
  | .str, [.int i] => if i.natAbs.log2 < 1920 then .ok (.str (itx i)) μ else .bad
  | .strD, [d] => match d with
    | .int i => if i.natAbs.log2 < 1920 then .ok (.str (itx i)) μ else .bad
    | .tup l => match rptx (.tup l) with
      | some x => .ok (.str x) μ
      | none => .bad
    | _ => .bad
  | .repr, [d] => match d with
    | .obj c fs => (callM P Γ c 53 [.obj c fs] μ).bind fun r μ1 => match r with
      | .str x => .ok (.str x) μ1
      | _ => .bad
    | _ => match rptx d with
      | some x => .ok (.str x) μ
      | none => .bad
  | .isInt, [d] => match d with
    | .int _ => .ok (.bl true) μ
    | .bl _ => .ok (.bl true) μ
    | .non => .ok (.bl false) μ
    | .str _ => .ok (.bl false) μ
    | .tup _ => .ok (.bl false) μ
    | .lst _ => .ok (.bl false) μ
    | .cel _ => .ok (.bl false) μ
    | .obj _ _ => .ok (.bl false) μ
  | .isBool, [d] => match d with
    | .int _ => .ok (.bl false) μ
    | .bl _ => .ok (.bl true) μ
    | .non => .ok (.bl false) μ
    | .str _ => .ok (.bl false) μ
    | .tup _ => .ok (.bl false) μ
    | .lst _ => .ok (.bl false) μ
    | .cel _ => .ok (.bl false) μ
    | .obj _ _ => .ok (.bl false) μ
  | .isTup, [d] => match d with
    | .int _ => .ok (.bl false) μ
    | .bl _ => .ok (.bl false) μ
    | .non => .ok (.bl false) μ
    | .str _ => .ok (.bl false) μ
    | .tup _ => .ok (.bl true) μ
    | .lst _ => .ok (.bl false) μ
    | .cel _ => .ok (.bl false) μ
    | .obj _ _ => .ok (.bl false) μ
  | .isObj c, [d] => match d with
    | .int _ => .ok (.bl false) μ
    | .bl _ => .ok (.bl false) μ
    | .non => .ok (.bl false) μ
    | .str _ => .ok (.bl false) μ
    | .tup _ => .ok (.bl false) μ
    | .lst _ => .ok (.bl false) μ
    | .obj c' _ => if c = c' then .ok (.bl true) μ else .bad
    | _ => .bad
  | _, _ => .bad
def Sl.wipe (ρ : Rho) : List Nat → Rho
  | [] => ρ
  | v :: vs => Sl.put (Sl.wipe ρ vs) v .und
def tgo (t : Tg) (d : D) (ρ : Rho) : Option Rho :=
  match t with
  | .nm i => some (Sl.put ρ i (.val d))
  | .tp is => match d with
    | .tup l => if l.length = is.length then some ((is.zip l).foldl (fun r p => Sl.put r p.1 (.val p.2)) ρ) else none
    | .lst l => if l.length = is.length then some ((is.zip l).foldl (fun r p => Sl.put r p.1 (.val p.2)) ρ) else none
    | _ => none
def lcgo (f : D → Mu → Out (Option D)) : List D → Mu → Out (List D)
  | [], μ => .ok [] μ
  | d :: ds, μ => (f d μ).bind fun o μ1 => (lcgo f ds μ1).bind fun r μ2 => match o with
    | some x => .ok (x :: r) μ2
    | none => .ok r μ2
def rngs (lo : Int) (n : Nat) (c : Int) : List D := (List.range n).map fun (i : Nat) => D.int (lo + (i : Int) * c)
def rngN (lo hi c : Int) : Nat := if 0 < c then ((hi - lo + c - 1) / c).toNat else if c < 0 then ((lo - hi + (-c) - 1) / (-c)).toNat else 0
def inR (i : Int) : Bool := decide (-(2 ^ 62) ≤ i) && decide (i < 2 ^ 62)
def seqOf : D → Option (List D)
  | .lst l => some l
  | .tup l => some l
  | _ => none
def zip3 (l l2 l3 : List D) : List D := (l.zip (l2.zip l3)).map fun p => .tup [p.1, p.2.1, p.2.2]
def enumF : Nat → List D → List D
  | _, [] => []
  | n, d :: r => .tup [.int (n : Nat), d] :: enumF (n + 1) r
section
variable (P : Pr) (Γ : Gam)
mutual
def ev : E → Rho → Mu → Out D
  | .var i, ρ, μ => match Sl.get ρ i with
    | .val d => .ok d μ
    | _ => .bad
  | .int i, _, μ => .ok (.int i) μ
  | .bl b, _, μ => .ok (.bl b) μ
  | .non, _, μ => .ok .non μ
  | .str x, _, μ => .ok (.str x) μ
  | .con g, _, μ => match P.con g with
    | some i => .ok (.int i) μ
    | none => .bad
  | .bin op a b, ρ, μ => (ev a ρ μ).bind fun x μ1 => (ev b ρ μ1).bind fun y μ2 => bop P Γ op x y μ2
  | .un op a, ρ, μ => (ev a ρ μ).bind fun x μ1 => uop P Γ op x μ1
  | .cmp op a b, ρ, μ => (ev a ρ μ).bind fun x μ1 => (ev b ρ μ1).bind fun y μ2 => cop P Γ op x y μ2
  | .chain op op2 a b c, ρ, μ => (ev a ρ μ).bind fun x μ1 => (ev b ρ μ1).bind fun y μ2 => (cop P Γ op x y μ2).bind fun k μ3 => match k with
    | .bl true => (ev c ρ μ3).bind fun z μ4 => cop P Γ op2 y z μ4
    | .bl false => .ok (.bl false) μ3
    | _ => .bad
  | .isN a, ρ, μ => (ev a ρ μ).bind fun x μ1 => .ok (.bl (match x with | .non => true | _ => false)) μ1
  | .notN a, ρ, μ => (ev a ρ μ).bind fun x μ1 => .ok (.bl (match x with | .non => false | _ => true)) μ1
  | .and a b, ρ, μ => (ev a ρ μ).bind fun x μ1 => match x with
    | .bl true => ev b ρ μ1
    | .bl false => .ok (.bl false) μ1
    | _ => .bad
  | .or a b, ρ, μ => (ev a ρ μ).bind fun x μ1 => match x with
    | .bl true => .ok (.bl true) μ1
    | .bl false => ev b ρ μ1
    | _ => .bad
  | .one a, ρ, μ => (ev a ρ μ).bind fun x μ1 => match x with
    | .bl k => .ok (.bl k) μ1
    | _ => .bad
  | .not a, ρ, μ => (ev a ρ μ).bind fun x μ1 => match x with
    | .bl k => .ok (.bl (!k)) μ1
    | _ => .bad
  | .ife c a b, ρ, μ => (ev c ρ μ).bind fun x μ1 => match x with
    | .bl true => ev a ρ μ1
    | .bl false => ev b ρ μ1
    | _ => .bad
  | .tup es, ρ, μ => (evs es ρ μ).bind fun ds μ1 => lenOk ds μ1 .tup
  | .lst es, ρ, μ => (evs es ρ μ).bind fun ds μ1 => lenOk ds μ1 .lst
  | .lstar a es, ρ, μ => (ev a ρ μ).bind fun x μ1 => match seqOf x with
    | some l => (evs es ρ μ1).bind fun ds μ2 => lenOk (l ++ ds) μ2 .lst
    | none => .bad
  | .tstar a b, ρ, μ => (ev a ρ μ).bind fun x μ1 => match seqOf x with
    | some l => (ev b ρ μ1).bind fun y μ2 => match seqOf y with
      | some l2 => lenOk (l ++ l2) μ2 .tup
      | none => .bad
    | none => .bad
  | .ix a b, ρ, μ => (ev a ρ μ).bind fun x μ1 => (ev b ρ μ1).bind fun y μ2 => ixop P Γ x y μ2
  | .sl a lo hi, ρ, μ => (ev a ρ μ).bind fun x μ1 => (evo lo ρ μ1).bind fun l μ2 => (evo hi ρ μ2).bind fun h μ3 => slop x l h μ3
  | .rev a, ρ, μ => (ev a ρ μ).bind fun x μ1 => match x with
    | .lst l => .ok (.lst l.reverse) μ1
    | _ => .bad
  | .call f as, ρ, μ => (evs as ρ μ).bind fun ds μ1 => Γ f ds μ1
  | .meth o m as, ρ, μ => (ev o ρ μ).bind fun x μ1 => (evs as ρ μ1).bind fun ds μ2 => match x with
    | .obj c fs => callM P Γ c m (.obj c fs :: ds) μ2
    | _ => .bad
  | .fld o f, ρ, μ => (ev o ρ μ).bind fun x μ1 => match x with
    | .obj c fs => match P.fld c f with
      | some i => match fs[i]? with
        | some d => .ok d μ1
        | none => .bad
      | none => match P.prop c f with
        | some g => Γ g [.obj c fs] μ1
        | none => .bad
    | _ => .bad
  | .new c as, ρ, μ => (evs as ρ μ).bind fun ds μ1 => match P.init c with
    | some f => (Γ f ds μ1).bind fun r μ2 => match r with
      | .obj c' fs => if c = c' then .ok (.obj c fs) μ2 else .bad
      | _ => .bad
    | none => .bad
  | .app i as, ρ, μ => match Sl.get ρ i with
    | .val (.obj c fs) => (evs as ρ μ).bind fun ds μ1 => callM P Γ c 52 (.obj c fs :: ds) μ1
    | _ => .bad
  | .stat f as, ρ, μ => (evs as ρ μ).bind fun ds μ1 => Γ f ds μ1
  | .appE o as, ρ, μ => (ev o ρ μ).bind fun x μ1 => match x with
    | .obj c fs => (evs as ρ μ1).bind fun ds μ2 => callM P Γ c 52 (.obj c fs :: ds) μ2
    | _ => .bad
  | .zfill o a, ρ, μ => (ev o ρ μ).bind fun x μ1 => match x with
    | .str _ => (ev a ρ μ1).bind fun y μ2 => zfop x y μ2
    | _ => .bad
  | .join o a, ρ, μ => (ev o ρ μ).bind fun x μ1 => match x with
    | .str _ => (ev a ρ μ1).bind fun y μ2 => jnop x y μ2
    | _ => .bad
  | .fs es, ρ, μ => (evs es ρ μ).bind fun ds μ1 => match fsJ ds Str.empty with
    | some t => .ok (.str t) μ1
    | none => .bad
  | .blt b as, ρ, μ => (evs as ρ μ).bind fun ds μ1 => bltop P Γ b ds μ1
  | .lc own t it c e, ρ, μ => (evi it ρ μ).bind fun items μ1 =>
      (lcgo (fun d μ => match tgo t d (Sl.wipe ρ own) with
        | none => .bad
        | some ρ1 => (evo c ρ1 μ).bind fun k μ1 => match k with
          | none => (ev e ρ1 μ1).bind fun x μ2 => .ok (some x) μ2
          | some (.bl true) => (ev e ρ1 μ1).bind fun x μ2 => .ok (some x) μ2
          | some (.bl false) => .ok none μ1
          | _ => .bad) items μ1).bind fun l μ2 => lenOk l μ2 .lst
  | .lc2 own t it own2 t2 it2 e, ρ, μ => (evi it ρ μ).bind fun items μ1 =>
      (lcgo (fun d μ => match tgo t d (Sl.wipe ρ own) with
        | none => .bad
        | some ρ1 => (evi it2 ρ1 μ).bind fun items2 μ1 => (lcgo (fun d2 μ => match tgo t2 d2 (Sl.wipe ρ1 own2) with
          | none => .bad
          | some ρ2 => (ev e ρ2 μ).bind fun x μ2 => .ok (some x) μ2) items2 μ1).bind fun l μ2 => .ok (some (.lst l)) μ2) items μ1).bind fun ls μ2 =>
            lenOk (ls.flatMap fun d => match d with | .lst l => l | _ => []) μ2 .lst
  | .dget o key, ρ, μ => (ev o ρ μ).bind fun x μ1 => match x with
    | .cel k => match μ1[k]? with
      | some kvs => match kvs.lookup key with
        | some d => .ok d μ1
        | none => .bad
      | none => .bad
    | _ => .bad
  | .dict keys es, ρ, μ => (evs es ρ μ).bind fun ds μ1 => if keys.length = ds.length ∧ keys.length ≤ 15 ∧ keys.Nodup then .ok (.cel μ1.length) (μ1 ++ [keys.zip ds]) else .bad
  | .oix i b, ρ, μ => (ev b ρ μ).bind fun y μ1 => match Sl.get ρ i, y with
    | .own l, .int k => match at? l k with
      | some d => .ok d μ1
      | none => .bad
    | _, _ => .bad
  | .olen i, ρ, μ => match Sl.get ρ i with
    | .own l => .ok (.int l.length) μ
    | _ => .bad
def evs : Es → Rho → Mu → Out (List D)
  | .nil, _, μ => .ok [] μ
  | .cons e es, ρ, μ => (ev e ρ μ).bind fun d μ1 => (evs es ρ μ1).bind fun ds μ2 => .ok (d :: ds) μ2
  | .star e es, ρ, μ => (ev e ρ μ).bind fun x μ1 => match seqOf x with
    | some l => (evs es ρ μ1).bind fun ds μ2 => .ok (l ++ ds) μ2
    | none => .bad
def evo : Oe → Rho → Mu → Out (Option D)
  | .none, _, μ => .ok none μ
  | .some e, ρ, μ => (ev e ρ μ).bind fun d μ1 => .ok (some d) μ1
def evi : It → Rho → Mu → Out (List D)
  | .seq e, ρ, μ => (ev e ρ μ).bind fun x μ1 => match seqOf x with
    | some l => .ok l μ1
    | none => .bad
  | .r1 a, ρ, μ => (ev a ρ μ).bind fun x μ1 => match x with
    | .int i => .ok (rngs 0 i.toNat 1) μ1
    | _ => .bad
  | .r2 a b, ρ, μ => (ev a ρ μ).bind fun x μ1 => (ev b ρ μ1).bind fun y μ2 => match x, y with
    | .int i, .int j => .ok (rngs i (j - i).toNat 1) μ2
    | _, _ => .bad
  | .r3 a b c, ρ, μ => (ev a ρ μ).bind fun x μ1 => (ev b ρ μ1).bind fun y μ2 => match x, y with
    | .int i, .int j => if inR i = true ∧ inR j = true ∧ c = -1 then .ok (rngs i (i - j).toNat (-1)) μ2 else .bad
    | _, _ => .bad
  | .enum e, ρ, μ => (ev e ρ μ).bind fun x μ1 => match seqOf x with
    | some l => .ok (enumF 0 l) μ1
    | none => .bad
  | .zip a b, ρ, μ => (ev a ρ μ).bind fun x μ1 => (ev b ρ μ1).bind fun y μ2 => match x, y with
    | .lst l, .lst l2 => .ok ((l.zip l2).map fun p => .tup [p.1, p.2]) μ2
    | _, _ => .bad
  | .zip3 a b c, ρ, μ => (ev a ρ μ).bind fun x μ1 => (ev b ρ μ1).bind fun y μ2 => (ev c ρ μ2).bind fun z μ3 => match x, y, z with
    | .lst l, .lst l2, .lst l3 => .ok (zip3 l l2 l3) μ3
    | _, _, _ => .bad
end
end
inductive So where
  | nx (ρ : Rho) (μ : Mu) | ret (d : D) (μ : Mu) | brk (ρ : Rho) (μ : Mu) | cnt (ρ : Rho) (μ : Mu) | err (x : Ex) (μ : Mu) | bad
def So.bind (o : So) (f : Rho → Mu → So) : So :=
  match o with
  | .nx ρ μ => f ρ μ
  | o => o
@[simp] theorem So.bind_nx (ρ : Rho) (μ : Mu) (f : Rho → Mu → So) : (So.nx ρ μ).bind f = f ρ μ := rfl
def Out.so {α : Type} (o : Out α) (f : α → Mu → So) : So :=
  match o with
  | .ok a μ => f a μ
  | .err x μ => .err x μ
  | .bad => .bad
@[simp] theorem Out.so_ok {α : Type} (a : α) (μ : Mu) (f : α → Mu → So) : (Out.ok a μ).so f = f a μ := rfl
def forgo (f : D → Rho → Mu → So) : List D → Rho → Mu → So
  | [], ρ, μ => .nx ρ μ
  | d :: ds, ρ, μ => match f d ρ μ with
    | .nx ρ1 μ1 => forgo f ds ρ1 μ1
    | .cnt ρ1 μ1 => forgo f ds ρ1 μ1
    | .brk ρ1 μ1 => .nx ρ1 μ1
    | o => o
def whlgo (c : Rho → Mu → Out D) (f : Rho → Mu → So) : Nat → Rho → Mu → So
  | 0, _, _ => .bad
  | n + 1, ρ, μ => (c ρ μ).so fun k μ1 => match k with
    | .bl true => match f ρ μ1 with
      | .nx ρ1 μ2 => whlgo c f n ρ1 μ2
      | .cnt ρ1 μ2 => whlgo c f n ρ1 μ2
      | .brk ρ1 μ2 => .nx ρ1 μ2
      | o => o
    | .bl false => .nx ρ μ1
    | _ => .bad
def fuel : Nat := 2 ^ 40
def slot (own : Bool) (d : D) : Option Sl := if own then (match d with | .lst l => some (.own l) | _ => none) else some (.val d)
def dset (kvs : Cel) (key : Str) (d : D) : Option Cel := if (kvs.lookup key).isSome = true ∧ kvs.length ≤ 15 then some (kvs.map fun p => if p.1 = key then (key, d) else p) else none
section
variable (P : Pr) (Γ : Gam)
mutual
def exs : S → Rho → Mu → So
  | .set i e, ρ, μ => (ev P Γ e ρ μ).so fun d μ1 => .nx (Sl.put ρ i (.val d)) μ1
  | .bld i e, ρ, μ => (ev P Γ e ρ μ).so fun d μ1 => match d with
    | .lst l => .nx (Sl.put ρ i (.own l)) μ1
    | _ => .bad
  | .par i j a b oi oj, ρ, μ => (ev P Γ a ρ μ).so fun x μ1 => (ev P Γ b ρ μ1).so fun y μ2 => match slot oi x, slot oj y with
    | some s, some t => .nx (Sl.put (Sl.put ρ i s) j t) μ2
    | _, _ => .bad
  | .un is e, ρ, μ => (ev P Γ e ρ μ).so fun d μ1 => match tgo (.tp is) d ρ with
    | some ρ1 => .nx ρ1 μ1
    | none => .bad
  | .app i e, ρ, μ => (ev P Γ e ρ μ).so fun d μ1 => match Sl.get ρ i with
    | .own l => if l.length < cap then .nx (Sl.put ρ i (.own (l ++ [d]))) μ1 else .bad
    | _ => .bad
  | .put i k e, ρ, μ => (ev P Γ e ρ μ).so fun d μ1 => (ev P Γ k ρ μ1).so fun y μ2 => match Sl.get ρ i, y with
    | .own l, .int n => match L2.ixN l.length n with
      | some j => .nx (Sl.put ρ i (.own (l.set j d))) μ2
      | none => .bad
    | _, _ => .bad
  | .dput o key e, ρ, μ => (ev P Γ e ρ μ).so fun d μ1 => (ev P Γ o ρ μ1).so fun x μ2 => match x with
    | .cel k => match μ2[k]? with
      | some kvs => match dset kvs key d with
        | some kvs' => .nx ρ (μ2.set k kvs')
        | none => .bad
      | none => .bad
    | _ => .bad
  | .dput2 o1 k1 o2 k2 e1 e2, ρ, μ => (ev P Γ e1 ρ μ).so fun d1 μ1 => (ev P Γ e2 ρ μ1).so fun d2 μ2 => (ev P Γ o1 ρ μ2).so fun x1 μ3 => match x1 with
    | .cel k => match μ3[k]? with
      | some kvs => match dset kvs k1 d1 with
        | some kvs' => (ev P Γ o2 ρ (μ3.set k kvs')).so fun x2 μ4 => match x2 with
          | .cel m => match μ4[m]? with
            | some kvs2 => match dset kvs2 k2 d2 with
              | some kvs2' => .nx ρ (μ4.set m kvs2')
              | none => .bad
            | none => .bad
          | _ => .bad
        | none => .bad
      | none => .bad
    | _ => .bad
  | .frz i, ρ, μ => match Sl.get ρ i with
    | .own l => .nx (Sl.put ρ i (.val (.lst l))) μ
    | _ => .bad
  | .ife c t e, ρ, μ => (ev P Γ c ρ μ).so fun k μ1 => match k with
    | .bl true => exss t ρ μ1
    | .bl false => exss e ρ μ1
    | _ => .bad
  | .whl c b, ρ, μ => whlgo (ev P Γ c) (exss b) fuel ρ μ
  | .for t it b, ρ, μ => (evi P Γ it ρ μ).so fun items μ1 => forgo (fun d ρ μ => match tgo t d ρ with
    | some ρ1 => exss b ρ1 μ
    | none => .bad) items ρ μ1
  | .ret e, ρ, μ => (ev P Γ e ρ μ).so fun d μ1 => .ret d μ1
  | .retN, _, μ => .ret .non μ
  | .brk, ρ, μ => .brk ρ μ
  | .cnt, ρ, μ => .cnt ρ μ
  | .pas, ρ, μ => .nx ρ μ
  | .exp e, ρ, μ => (ev P Γ e ρ μ).so fun _ μ1 => .nx ρ μ1
  | .init c e, ρ, μ => (ev P Γ e ρ μ).so fun d μ1 => match d with
    | .tup l => if l.length = P.nflds c then .ret (.obj c l) μ1 else .bad
    | _ => .bad
  | .never, _, _ => .bad
def exss : Ss → Rho → Mu → So
  | .nil, ρ, μ => .nx ρ μ
  | .cons s ss, ρ, μ => (exs s ρ μ).bind (exss ss)
end
end
def begins (fd : Fd) (ds : List D) : Rho := List.replicate fd.lead .und ++ (ds.map .val ++ List.replicate (fd.slots - (fd.lead + ds.length)) .und)
def callF (P : Pr) (Γ : Gam) (fd : Fd) (ds : List D) (μ : Mu) : Out D :=
  if ds.length = fd.pars then
    match exss P Γ fd.body (begins fd ds) μ with
    | .nx _ μ1 => .ok .non μ1
    | .ret d μ1 => .ok d μ1
    | .err x μ1 => .err x μ1
    | _ => .bad
  else .bad
def run (P : Pr) (fds : Nat → Option Fd) : Nat → Gam
  | 0 => fun _ _ _ => .bad
  | k + 1 => fun f ds μ => match fds f with
    | some fd => callF P (run P fds k) fd ds μ
    | none => .bad
end Vw
set_option Elab.async false
set_option linter.all false
set_option maxRecDepth 100000
set_option maxHeartbeats 4000000
namespace Vw
open PySem PySem.Spec L2
abbrev Cls0 := Nat → Option (Addr × List Str)
def Fz (K : PySem.W.Frag) (H : Hp) (a : Addr) (xs : List V) : Prop :=
  (∃ o, H a = some (.frz o (.lst xs))) ∨
    ∃ (o : Obj) (its : Array Value) (n : Nat), K.lookup a = some o ∧ o.cls = .type "list" ∧ o.dict = none ∧ o.data = .seq its n ∧ its.size ≤ sizeLine ∧ Vals xs its.toList
theorem Fz.sq {K : PySem.W.Frag} {H : Hp} {a : Addr} {xs : List V} (h : Fz K H a xs) : SqL K H a xs := by
  rcases h with ⟨o, h⟩ | h
  · exact .inl (.inr ⟨o, h⟩)
  · exact .inr h
section
variable (K : PySem.W.Frag) (cl : Cls0) (H : Hp) (π : List Addr)
mutual
inductive Rp : D → V → Prop
  | non : Rp .non .non
  | bl (b : Bool) : Rp (.bl b) (.bl b)
  | int (i : Int) : Rp (.int i) (.int i)
  | str (x : Str) : Rp (.str x) (.str x)
  | tup {a : Addr} {ds : List D} {xs : List V} : SqT K H a xs → Rps ds xs → Rp (.tup ds) (.ref a)
  | lst {a : Addr} {ds : List D} {xs : List V} : Fz K H a xs → Rps ds xs → Rp (.lst ds) (.ref a)
  | obj {c : Nat} {C a dx : Addr} {ns : List Str} {ds : List D} {xs : List V} : cl c = some (C, ns) → H a = some (.ins C dx (ns.zip xs)) → ns.length = xs.length → Rps ds xs → Rp (.obj c ds) (.ref a)
  | cel {k : Nat} {a : Addr} : π[k]? = some a → Rp (.cel k) (.ref a)
inductive Rps : List D → List V → Prop
  | nil : Rps [] []
  | cons {d : D} {ds : List D} {x : V} {xs : List V} : Rp d x → Rps ds xs → Rps (d :: ds) (x :: xs)
end
end
section
variable {K : PySem.W.Frag} {cl : Cls0} {H H' H1 H2 : Hp} {π π' π1 π2 : List Addr} {d : D} {ds es : List D} {v : V} {xs ys : List V}
def PiOk (H : Hp) (π : List Addr) : Prop := ∀ a ∈ π, ∃ kvs, H a = some (.dK kvs)
structure Mv (H : Hp) (π : List Addr) (H' : Hp) (π' : List Addr) : Prop where
  ext : ∃ e, π' = π ++ e ∧ ∀ a ∈ e, H a = none
  keep : ∀ b o, H b = some o → b ∉ π → H' b = some o
  cells : PiOk H' π'
theorem Mv.refl (p : PiOk H π) : Mv H π H π := ⟨⟨[], by simp, by simp⟩, fun _ _ h _ => h, p⟩
theorem Mv.trans (a : Mv H π H1 π1) (b : Mv H1 π1 H2 π2) : Mv H π H2 π2 := by
  obtain ⟨e1, q1, n1⟩ := a.ext
  obtain ⟨e2, q2, n2⟩ := b.ext
  refine ⟨⟨e1 ++ e2, by rw [q2, q1, List.append_assoc], fun x hx => ?_⟩, fun x o h n => ?_, b.cells⟩
  · rcases List.mem_append.mp hx with hx | hx
    · exact n1 x hx
    · have z := n2 x hx
      cases q : H x with
      | none => rfl
      | some o =>
        by_cases hp : x ∈ π
        · obtain ⟨kvs, e⟩ := a.cells x (by rw [q1]; exact List.mem_append_left _ hp)
          rw [z] at e; cases e
        · rw [a.keep x o q hp] at z; cases z
  · refine b.keep x o (a.keep x o h n) fun hx => ?_
    rw [q1] at hx
    rcases List.mem_append.mp hx with hx | hx
    · exact n hx
    · rw [n1 x hx] at h; cases h
theorem Mv.at (a : Mv H π H1 π1) {k : Nat} {x : Addr} (h : π[k]? = some x) : π1[k]? = some x := by
  obtain ⟨e1, q1, n1⟩ := a.ext
  rw [q1, List.getElem?_append_left (List.getElem?_eq_some_iff.mp h).1]; exact h
theorem PiOk.notTup {a : Addr} {xs : List V} (p : PiOk H π) (h : H a = some (.tup xs)) : a ∉ π := fun m => by
  obtain ⟨k, e⟩ := p a m
  rw [h] at e; cases e
theorem PiOk.notFrz {a : Addr} {o : Obj} {u : HO} (p : PiOk H π) (h : H a = some (.frz o u)) : a ∉ π := fun m => by
  obtain ⟨k, e⟩ := p a m
  rw [h] at e; cases e
theorem PiOk.notIns {a C dx : Addr} {fs : List (Str × V)} (p : PiOk H π) (h : H a = some (.ins C dx fs)) : a ∉ π := fun m => by
  obtain ⟨k, e⟩ := p a m
  rw [h] at e; cases e
theorem PiOk.notLst {a : Addr} {xs : List V} (p : PiOk H π) (h : H a = some (.lst xs)) : a ∉ π := fun m => by
  obtain ⟨k, e⟩ := p a m
  rw [h] at e; cases e
theorem SqT.mv {a : Addr} (p : PiOk H π) (m : Mv H π H' π') (h : SqT K H a xs) : SqT K H' a xs := by
  rcases h with (h | ⟨o, h⟩) | h
  · exact .inl (.inl (m.keep _ _ h (p.notTup h)))
  · exact .inl (.inr ⟨o, m.keep _ _ h (p.notFrz h)⟩)
  · exact .inr h
theorem Fz.mv {a : Addr} (p : PiOk H π) (m : Mv H π H' π') (h : Fz K H a xs) : Fz K H' a xs := by
  rcases h with ⟨o, h⟩ | h
  · exact .inl ⟨o, m.keep _ _ h (p.notFrz h)⟩
  · exact .inr h
mutual
theorem Rp.mv (p : PiOk H π) (m : Mv H π H' π') : ∀ {d : D} {v : V}, Rp K cl H π d v → Rp K cl H' π' d v
  | _, _, .non => .non
  | _, _, .bl b => .bl b
  | _, _, .int b => .int b
  | _, _, .str b => .str b
  | _, _, .tup h r => .tup (SqT.mv p m h) (Rps.mv p m r)
  | _, _, .lst h r => .lst (Fz.mv p m h) (Rps.mv p m r)
  | _, _, .obj c h n r => .obj c (m.keep _ _ h (p.notIns h)) n (Rps.mv p m r)
  | _, _, .cel h => .cel (m.at h)
theorem Rps.mv (p : PiOk H π) (m : Mv H π H' π') : ∀ {ds : List D} {xs : List V}, Rps K cl H π ds xs → Rps K cl H' π' ds xs
  | _, _, .nil => .nil
  | _, _, .cons a b => .cons (Rp.mv p m a) (Rps.mv p m b)
end
def Ste (H H' : Hp) : Prop := ∀ b o, H b = some o → (match o with | .dK _ => False | .lst _ => False | _ => True) → H' b = some o
mutual
theorem Rp.st (m : Ste H H') (hp : ∀ (k : Nat) a, π[k]? = some a → π'[k]? = some a) : ∀ {d : D} {v : V}, Rp K cl H π d v → Rp K cl H' π' d v
  | _, _, .non => .non
  | _, _, .bl b => .bl b
  | _, _, .int b => .int b
  | _, _, .str b => .str b
  | _, _, .tup h r => .tup (by
      rcases h with (h | ⟨o, h⟩) | h
      · exact .inl (.inl (m _ _ h trivial))
      · exact .inl (.inr ⟨o, m _ _ h trivial⟩)
      · exact .inr h) (Rps.st m hp r)
  | _, _, .lst h r => .lst (by
      rcases h with ⟨o, h⟩ | h
      · exact .inl ⟨o, m _ _ h trivial⟩
      · exact .inr h) (Rps.st m hp r)
  | _, _, .obj c h n r => .obj c (m _ _ h trivial) n (Rps.st m hp r)
  | _, _, .cel h => .cel (hp _ _ h)
theorem Rps.st (m : Ste H H') (hp : ∀ (k : Nat) a, π[k]? = some a → π'[k]? = some a) : ∀ {ds : List D} {xs : List V}, Rps K cl H π ds xs → Rps K cl H' π' ds xs
  | _, _, .nil => .nil
  | _, _, .cons a b => .cons (Rp.st m hp a) (Rps.st m hp b)
end
theorem Ste.dK {a : Addr} {kv kv' : List (Key × V)} (h : H a = some (.dK kv)) : Ste H (upd H a (.dK kv')) := fun b o e k => by
  by_cases hb : b = a
  · subst hb
    rw [h] at e
    cases e
    exact k.elim
  · rw [upd_ne hb]; exact e
theorem Rps.length : ∀ {ds : List D} {xs : List V}, Rps K cl H π ds xs → ds.length = xs.length
  | _, _, .nil => rfl
  | _, _, .cons _ b => by simp [Rps.length b]
theorem Rps.get : ∀ {ds : List D} {xs : List V} {i : Nat} {d : D}, Rps K cl H π ds xs → ds[i]? = some d → ∃ x, xs[i]? = some x ∧ Rp K cl H π d x
  | _, _, _, _, .nil, e => by simp at e
  | _, _, 0, _, .cons r _, e => by simp at e; subst e; exact ⟨_, rfl, r⟩
  | _, _, i + 1, d, .cons _ t, e => by
    obtain ⟨u, h1, h2⟩ := Rps.get (i := i) (d := d) t (by simpa using e)
    exact ⟨u, by simpa using h1, h2⟩
theorem Rps.append : ∀ {ds es : List D} {xs ys : List V}, Rps K cl H π ds xs → Rps K cl H π es ys → Rps K cl H π (ds ++ es) (xs ++ ys)
  | _, _, _, _, .nil, s => s
  | _, _, _, _, .cons a b, s => .cons a (Rps.append b s)
theorem Rps.take : ∀ {ds : List D} {xs : List V} (n : Nat), Rps K cl H π ds xs → Rps K cl H π (ds.take n) (xs.take n)
  | _, _, 0, _ => by simp; exact .nil
  | _, _, n + 1, .nil => .nil
  | _, _, n + 1, .cons a b => .cons a (Rps.take n b)
theorem Rps.drop : ∀ {ds : List D} {xs : List V} (n : Nat), Rps K cl H π ds xs → Rps K cl H π (ds.drop n) (xs.drop n)
  | _, _, 0, r => r
  | _, _, n + 1, .nil => .nil
  | _, _, n + 1, .cons a b => Rps.drop n b
theorem Rps.set {d : D} {x : V} (r : Rp K cl H π d x) : ∀ {ds : List D} {xs : List V} (i : Nat), Rps K cl H π ds xs → Rps K cl H π (ds.set i d) (xs.set i x)
  | _, _, _, .nil => .nil
  | _, _, 0, .cons _ t => .cons r t
  | _, _, i + 1, .cons q t => .cons q (Rps.set r i t)
theorem Rps.reverse {ds : List D} {xs : List V} (h : Rps K cl H π ds xs) : Rps K cl H π ds.reverse xs.reverse := by
  induction ds generalizing xs with
  | nil => cases h; exact .nil
  | cons d ds ih =>
    cases h with
    | cons a b =>
      rw [List.reverse_cons, List.reverse_cons]
      exact Rps.append (ih b) (.cons a .nil)
theorem Rps.cutR {ds : List D} {xs : List V} (h : Rps K cl H π ds xs) (lo hi : Option Int) : Rps K cl H π (cut ds lo hi) (cutV xs lo hi) := by
  unfold Vw.cut cutV
  rw [h.length]
  exact Rps.take _ (Rps.drop _ h)
theorem Rps.at {i : Int} {d : D} {ds : List D} {xs : List V} (h : Rps K cl H π ds xs) (e : at? ds i = some d) : ∃ x, atI xs i = some x ∧ Rp K cl H π d x := by
  unfold at? atI at e
  unfold atI
  rw [h.length] at e
  cases q : ixN xs.length i with
  | none => rw [q] at e; cases e
  | some j =>
    rw [q] at e
    have e' : ds[j]? = some d := e
    exact h.get e'
structure CR (K : PySem.W.Frag) (cl : Cls0) (H : Hp) (π : List Addr) (μ : Mu) : Prop where
  len : π.length = μ.length
  nd : π.Nodup
  ok : PiOk H π
  at_ : ∀ (k : Nat) (kvs : Cel), μ[k]? = some kvs → ∃ a kv, π[k]? = some a ∧ H a = some (.dK kv) ∧ kv.map (·.1) = kvs.map (fun p => (Sum.inr p.1 : Key)) ∧ (kvs.map (·.1)).Nodup ∧ Rps K cl H π (kvs.map (·.2)) (kv.map (·.2))
structure RelS (K : PySem.W.Frag) (cl : Cls0) (H0 : Hp) (ρ : Rho) (σ : St) (H : Hp) (π : List Addr) : Prop where
  len : σ.length = ρ.length
  val : ∀ i d, Sl.get ρ i = .val d → ∃ v, σ[i]? = some (some v) ∧ Rp K cl H π d v
  own : ∀ i l, Sl.get ρ i = .own l → ∃ p vs, σ[i]? = some (some (.ref p)) ∧ H p = some (.lst vs) ∧ H0 p = none ∧ Rps K cl H π l vs
  sep : ∀ i j l l' p, i ≠ j → Sl.get ρ i = .own l → Sl.get ρ j = .own l' → σ[i]? = some (some (.ref p)) → σ[j]? ≠ some (some (.ref p))
theorem RelS.mv {H0 : Hp} {ρ : Rho} {σ : St} (r : RelS K cl H0 ρ σ H π) (p : PiOk H π) (m : Mv H π H' π') : RelS K cl H0 ρ σ H' π' := by
  refine ⟨r.len, fun i d e => ?_, fun i l e => ?_, r.sep⟩
  · obtain ⟨v, h1, h2⟩ := r.val i d e
    exact ⟨v, h1, h2.mv p m⟩
  · obtain ⟨q, vs, h1, h2, h3, h4⟩ := r.own i l e
    exact ⟨q, vs, h1, m.keep _ _ h2 (p.notLst h2), h3, h4.mv p m⟩
theorem get_put_same : ∀ (ρ : Rho) (i : Nat) (s : Sl), i < ρ.length → Sl.get (Sl.put ρ i s) i = s
  | [], _, _, h => by simp at h
  | _ :: _, 0, _, _ => rfl
  | _ :: r, i + 1, s, h => get_put_same r i s (by simpa using h)
theorem get_put_ne : ∀ (ρ : Rho) (i j : Nat) (s : Sl), j ≠ i → Sl.get (Sl.put ρ i s) j = Sl.get ρ j
  | [], _, _, _, _ => rfl
  | _ :: _, 0, 0, _, h => absurd rfl h
  | _ :: _, 0, _ + 1, _, _ => rfl
  | _ :: _, _ + 1, 0, _, _ => rfl
  | _ :: r, i + 1, j + 1, s, h => get_put_ne r i j s (fun e => h (by rw [e]))
theorem put_length : ∀ (ρ : Rho) (i : Nat) (s : Sl), (Sl.put ρ i s).length = ρ.length
  | [], _, _ => rfl
  | _ :: _, 0, _ => rfl
  | _ :: r, i + 1, s => by simp [Sl.put, put_length r i s]
theorem get_lt : ∀ {ρ : Rho} {i : Nat}, Sl.get ρ i ≠ .und → i < ρ.length
  | [], _, h => absurd rfl h
  | _ :: _, 0, _ => Nat.zero_lt_succ _
  | _ :: r, i + 1, h => by
    have := get_lt (ρ := r) (i := i) h
    simpa using this
theorem RelS.setV {H0 : Hp} {ρ : Rho} {σ : St} {i : Nat} (r : RelS K cl H0 ρ σ H π) (hi : i < σ.length) (rv : Rp K cl H π d v) : RelS K cl H0 (Sl.put ρ i (.val d)) (σ.set i (some v)) H π := by
  have hi' : i < ρ.length := by rw [← r.len]; exact hi
  refine ⟨by rw [List.length_set, put_length]; exact r.len, fun j e q => ?_, fun j l q => ?_, fun j k l l' p hjk q1 q2 s1 => ?_⟩
  · by_cases hj : j = i
    · subst hj
      rw [get_put_same _ _ _ hi'] at q
      cases q
      exact ⟨v, by rw [List.getElem?_set_self hi], rv⟩
    · rw [get_put_ne _ _ _ _ hj] at q
      obtain ⟨u, h1, h2⟩ := r.val j e q
      exact ⟨u, by rw [List.getElem?_set_ne (Ne.symm hj)]; exact h1, h2⟩
  · by_cases hj : j = i
    · subst hj
      rw [get_put_same _ _ _ hi'] at q
      cases q
    · rw [get_put_ne _ _ _ _ hj] at q
      obtain ⟨p, vs, h1, h2⟩ := r.own j l q
      exact ⟨p, vs, by rw [List.getElem?_set_ne (Ne.symm hj)]; exact h1, h2⟩
  · have hj : j ≠ i := fun e => by
      subst e
      rw [get_put_same _ _ _ hi'] at q1; cases q1
    have hk : k ≠ i := fun e => by
      subst e
      rw [get_put_same _ _ _ hi'] at q2; cases q2
    rw [get_put_ne _ _ _ _ hj] at q1
    rw [get_put_ne _ _ _ _ hk] at q2
    rw [List.getElem?_set_ne (Ne.symm hj)] at s1
    rw [List.getElem?_set_ne (Ne.symm hk)]
    exact r.sep j k l l' p hjk q1 q2 s1
end
end Vw
set_option Elab.async false
set_option linter.all false
set_option maxRecDepth 100000
set_option maxHeartbeats 4000000
namespace Vw
open PySem PySem.Spec L2
structure Nm where
  fn : Nat → Str
  con : Nat → Str
  cls : Nat → Str
  mth : Nat → Str
  rp : Bool
structure Fa where
  addr : Nat → Addr
  dat : Nat → FuncData
  ps : Nat → List Str
def spF (K : PySem.W.Frag) (cl : Cls0) (F : List D → Mu → Out D) : Sp := fun vs H Q _ => ∃ ds μ π d μ', Rps K cl H π ds vs ∧ CR K cl H π μ ∧ F ds μ = .ok d μ' ∧
  ∀ v H' π', Rp K cl H' π' d v → Mv H π H' π' → CR K cl H' π' μ' → Q v H'
def spI (K : PySem.W.Frag) (cl : Cls0) (c : Nat) (F : List D → Mu → Out D) : Sp := fun vs H Q _ => ∃ x C dx ns vs' ds μ π fs μ', vs = .ref x :: vs' ∧ cl c = some (C, ns) ∧ H x = some (.ins C dx []) ∧ Rps K cl H π ds vs' ∧ CR K cl H π μ ∧ F ds μ = .ok (.obj c fs) μ' ∧
  ∀ H' π' xs, H' x = some (.ins C dx (ns.zip xs)) → ns.length = xs.length → Rps K cl H' π' fs xs → (∃ e, π' = π ++ e ∧ ∀ a ∈ e, H a = none) → (∀ b o, H b = some o → b ∉ π → b ≠ x → H' b = some o) → CR K cl H' π' μ' → Q .non H'
def bltNames : List Str := ["len", "abs", "int", "tuple", "list", "divmod", "all", "min", "max", "isinstance", "range", "enumerate", "zip", "bool", "str", "repr", "sum"]
structure GF (nm : Nm) (P : Pr) (cl : Cls0) (fa : Fa) (K : PySem.W.Frag) (mg : Str → Option Value) : Prop where
  con : ∀ g i, P.con g = some i → ∃ t, mg (nm.con g) = some (.int i t)
  blt : ∀ x ∈ bltNames, mg x = none
  lcm : mg "lcm" = some (.builtin "math.lcm")
  cls : ∀ c C ns, cl c = some (C, ns) → Cls K C ∧ mg (nm.cls c) = some (.ref C) ∧ ns.length = P.nflds c ∧ ns.Nodup ∧ (∀ f ∈ ns, NoAttr K C f)
  iso : ∀ c C ns, cl c = some (C, ns) → (PySem.W.findIn K (.ref C) "__class__" = some (some (.builtin "object.__class__")) ∧ PySem.W.specialIn K (.builtin "object.__class__") "__get__" = some (some (.builtin "getset_descriptor.__get__")) ∧
    PySem.W.takesIn K (.builtin "object.__class__") = some true ∧ PySem.W.mroIn K C (.type "object") = some true)
  isk : ∀ c C ns, cl c = some (C, ns) → (∀ T : String, T ∈ ["NoneType", "bool", "int", "str", "tuple", "list"] → PySem.W.kitOne K (.type T) (.ref C) = some false) ∧ PySem.W.kitOne K (.ref C) (.ref C) = some true ∧
    (∀ T : String, T ∈ ["bool", "int", "str", "tuple"] → PySem.W.kitOne K (.ref C) (.type T) = some false)
  sub : ∀ c C ns, cl c = some (C, ns) → ∀ T : String, T ∈ ["NoneType", "bool", "int", "str", "tuple", "list"] → PySem.W.subIn K (.type T) (.ref C) = some false
  sbo : ∀ c C ns, cl c = some (C, ns) → ∀ T : String, T ∈ ["bool", "int", "str", "tuple"] → PySem.W.subIn K (.ref C) (.type T) = some false
  self : ∀ c C ns, cl c = some (C, ns) → PySem.W.selfFirst K C = true ∧ PySem.W.noSeq K C = true
  mth : ∀ c m f C ns, P.meth c m = some f → cl c = some (C, ns) → Meth K C (nm.mth m) (fa.addr f)
  fld : ∀ c f i C ns, P.fld c f = some i → cl c = some (C, ns) → ns[i]? = some (nm.mth f)
  opn : ∀ op : Operator, nm.mth (opM op) = PySem.dunder op.info.2
  opr : nm.mth 20 = dunderR "add"
  unn : nm.mth 40 = "__invert__" ∧ nm.mth 43 = "__neg__"
  cmn : nm.mth 30 = "__eq__" ∧ nm.mth 32 = "__lt__" ∧ nm.mth 33 = "__le__" ∧ nm.mth 34 = "__gt__" ∧ nm.mth 35 = "__ge__" ∧ nm.mth 38 = "__contains__"
  rpn : nm.mth 53 = "__repr__"
  neo : ∀ c C ns, cl c = some (C, ns) → PySem.W.findIn K (.ref C) "__ne__" = some (some (.builtin "object.__ne__"))
  spn : nm.mth 50 = "__len__" ∧ nm.mth 51 = "__getitem__" ∧ nm.mth 52 = "__call__"
  prop : ∀ c f g C ns, P.prop c f = some g → cl c = some (C, ns) → ∃ p, PropOf K C (nm.mth f) p (fa.addr g)
  app : ∀ c f C ns, P.meth c 52 = some f → cl c = some (C, ns) → PySem.W.fnIn K (fa.addr f) = true
  sta : ∀ f c m, P.sta f = some (c, m) → ∃ C ns mc p rest, cl c = some (C, ns) ∧ PySem.W.readsIn K C mc = true ∧ PySem.W.specialIn K (.ref C) "__getattribute__" = some (some (.builtin "type.__getattribute__")) ∧ PySem.W.typeIn K (.ref C) = some mc ∧
    PySem.W.findCls K (.ref C) mc (nm.mth m) = some (.get (.builtin "staticmethod.__get__") (.ref p) .none (.ref C)) ∧ PySem.W.recIn K p "staticmethod" = some (.ref (fa.addr f) :: rest)
  made : ∀ c f C ns, P.init c = some f → cl c = some (C, ns) → Mk K C (fa.addr f)
  rop : ∀ (op : Operator) c C ns g, P.oi op = true → P.meth c (opM op) = some g → cl c = some (C, ns) → ∃ rc fo ro, PySem.W.findIn K (.ref C) (dunderR op.info.2) = some rc ∧ (rc = none ∨ ∃ g : Addr, rc = some (.ref g)) ∧
    PySem.W.findIn K (.type "int") (PySem.dunder op.info.2) = some fo ∧ PySem.W.findIn K (.type "int") (dunderR op.info.2) = some ro ∧ PySem.W.subIn K (.type "int") (.ref C) = some false
structure FF (nm : Nm) (P : Pr) (Γ : Gam) (cl : Cls0) (fa : Fa) (prog : Program) (w : World) (K : PySem.W.Frag) (mg : Str → Option Value) (base : Heap) (gl : Nat → Bool) (df : Nat → Bool) (j : Nat) : Prop where
  ok : ∀ f, df f = true → FnOk prog w K mg base CX0 j (fa.addr f) (fa.dat f) (fa.ps f) (spF K cl (Γ f)) ∧ Binds K (fa.dat f) (fa.ps f) [] ∧ PySem.W.keepIn K (.ref (fa.addr f)) = true
  name : ∀ f, gl f = true → df f = true ∧ mg (nm.fn f) = some (.ref (fa.addr f))
  meth : ∀ c m f, P.meth c m = some f → df f = true
  prop : ∀ c m f, P.prop c m = some f → df f = true
  sta : ∀ f cm, P.sta f = some cm → df f = true
  init : ∀ c f, P.init c = some f → (∃ C ns, cl c = some (C, ns)) ∧ FnOk prog w K mg base CX0 j (fa.addr f) (fa.dat f) (fa.ps f) (spI K cl c (Γ f)) ∧ Binds K (fa.dat f) (fa.ps f) []
section
variable {K : PySem.W.Frag} {cl : Cls0} {H0 : Hp}
def LE (K : PySem.W.Frag) (cl : Cls0) (H0 : Hp) (r : Rho → Mu → Out D) : TE := fun σ H Q => ∃ ρ μ π d μ', RelS K cl H0 ρ σ H π ∧ CR K cl H π μ ∧ r ρ μ = .ok d μ' ∧
  ∀ v H' π', Rp K cl H' π' d v → Mv H π H' π' → CR K cl H' π' μ' → Q v H'
def LT (K : PySem.W.Frag) (cl : Cls0) (H0 : Hp) (r : Rho → Mu → Out D) : TT := fun σ H Q => ∃ ρ μ π b μ', RelS K cl H0 ρ σ H π ∧ CR K cl H π μ ∧ r ρ μ = .ok (.bl b) μ' ∧
  ∀ H' π', Mv H π H' π' → CR K cl H' π' μ' → Q b H'
def LA (K : PySem.W.Frag) (cl : Cls0) (H0 : Hp) (r : Rho → Mu → Out (List D)) : TA := fun σ H Q => ∃ ρ μ π ds μ', RelS K cl H0 ρ σ H π ∧ CR K cl H π μ ∧ r ρ μ = .ok ds μ' ∧
  ∀ vs H' π', Rps K cl H' π' ds vs → Mv H π H' π' → CR K cl H' π' μ' → Q vs H'
def RR (K : PySem.W.Frag) (cl : Cls0) (f : D → D → Mu → Out D) : R2 := fun x y H Q => ∃ a b μ π d μ', Rp K cl H π a x ∧ Rp K cl H π b y ∧ CR K cl H π μ ∧ f a b μ = .ok d μ' ∧
  ∀ v H' π', Rp K cl H' π' d v → Mv H π H' π' → CR K cl H' π' μ' → Q v H'
def RU (K : PySem.W.Frag) (cl : Cls0) (f : D → Mu → Out D) : V → Hp → VK → Prop := fun x H Q => ∃ a μ π d μ', Rp K cl H π a x ∧ CR K cl H π μ ∧ f a μ = .ok d μ' ∧
  ∀ v H' π', Rp K cl H' π' d v → Mv H π H' π' → CR K cl H' π' μ' → Q v H'
theorem LE.bin {ra rb : Rho → Mu → Out D} {f : D → D → Mu → Out D} {σ : L2.St} {H : Hp} {Q : VK}
    (h : LE K cl H0 (fun ρ μ => (ra ρ μ).bind fun x μ1 => (rb ρ μ1).bind fun y μ2 => f x y μ2) σ H Q) : tOp (RR K cl f) (LE K cl H0 ra) (LE K cl H0 rb) σ H Q := by
  obtain ⟨ρ, μ, π, d, μ', rs, cr, e, k⟩ := h
  obtain ⟨a, μ1, ea, e⟩ := Out.bind_eq_ok e
  obtain ⟨b, μ2, eb, e⟩ := Out.bind_eq_ok e
  exact ⟨ρ, μ, π, a, μ1, rs, cr, ea, fun v1 H1 π1 r1 m1 c1 => ⟨ρ, μ1, π1, b, μ2, rs.mv cr.ok m1, c1, eb, fun v2 H2 π2 r2 m2 c2 =>
    ⟨a, b, μ2, π2, d, μ', r1.mv c1.ok m2, r2, c2, e, fun v H' π' r m c => k v H' π' r ((m1.trans m2).trans m) c⟩⟩⟩
theorem LE.un {ra : Rho → Mu → Out D} {f : D → Mu → Out D} {σ : L2.St} {H : Hp} {Q : VK}
    (h : LE K cl H0 (fun ρ μ => (ra ρ μ).bind fun x μ1 => f x μ1) σ H Q) : LE K cl H0 ra σ H fun x H1 => RU K cl f x H1 Q := by
  obtain ⟨ρ, μ, π, d, μ', rs, cr, e, k⟩ := h
  obtain ⟨a, μ1, ea, e⟩ := Out.bind_eq_ok e
  exact ⟨ρ, μ, π, a, μ1, rs, cr, ea, fun v1 H1 π1 r1 m1 c1 => ⟨a, μ1, π1, d, μ', r1, c1, e, fun v H' π' r m c => k v H' π' r (m1.trans m) c⟩⟩
end
theorem PE.of {X : Cx} {e : Expr} {t t' : TE} (h : PE X e t) (k : ∀ σ H Q, t' σ H Q → t σ H Q) : PE X e t' := ⟨fun pins s σ H Q I q => h.run pins s σ H Q I (k σ H Q q)⟩
theorem PT.of {X : Cx} {e : Expr} {t t' : TT} (h : PT X e t) (k : ∀ σ H Q, t' σ H Q → t σ H Q) : PT X e t' := ⟨fun pins s σ H Q I q => h.run pins s σ H Q I (k σ H Q q)⟩
theorem OpR.of {X : Cx} {f : Value → Value → Sem Value} {r r' : R2} (h : OpR X f r) (k : ∀ x y H Q, r' x y H Q → r x y H Q) : OpR X f r' := fun pins s σ H x y v u Q I rx ry q => h pins s σ H x y v u Q I rx ry (k x y H Q q)
section
variable {X : Cx} {pins : List (Addr × Obj)} {σ : L2.St} {H : Hp} {s : Shared} {a : Addr} {xs : List V}
theorem freeze (I : Inv X pins σ H s) (h : H a = some (.lst xs)) : ∃ o, Inv X pins σ (upd H a (.frz o (.lst xs))) s := by
  obtain ⟨hz, its, n, rv, ho⟩ := (show ObjOk X.prog X.w H s.heap a (.lst xs) from I.hok a _ h)
  refine ⟨{ cls := .type "list", data := .seq its.toArray n }, I.ok, I.os, I.bare, ⟨?_, ?_, ?_, I.base.there, ?_, ?_, ?_⟩, I.loc, I.cell, ?_, ?_, ?_, ?_, I.len⟩
  · exact fun b o e n hb hx => I.base.keep b o e n hb hx
  · exact fun b o e n hb hx => I.base.slot b o e n hb hx
  · intro b o e n hx
    have z := I.base.free b o e n hx
    rw [upd_ne (fun q => by rw [q, h] at z; cases z)]; exact z
  · intro b ys e
    have z := I.base.tups b ys e
    rw [upd_ne (fun q => by rw [q, h] at z; cases z)]; exact z
  · intro b o ys e
    have z := I.base.frzs b o ys e
    rw [upd_ne (fun q => by rw [q, h] at z; cases z)]; exact z
  · intro b ps e
    obtain ⟨more, z⟩ := I.base.tbls b ps e
    exact ⟨more, by rw [upd_ne (fun q => by rw [q, h] at z; cases z)]; exact z⟩
  · rw [upd_ne (fun q => by have z := I.free; rw [q, h] at z; cases z)]; exact I.free
  · intro x c e
    rw [upd_ne (fun q => by have z := I.freeC x c e; rw [q, h] at z; cases z)]; exact I.freeC x c e
  · intro p hp
    obtain ⟨q1, q2, q3⟩ := I.pin p hp
    exact ⟨q1, by rw [upd_ne (fun q => by rw [q, h] at q2; cases q2)]; exact q2, q3⟩
  · intro b o e
    by_cases hb : b = a
    · subst hb
      rw [upd_same] at e
      cases e
      exact ⟨ho, hz, its, n, rv, ho⟩
    · rw [upd_ne hb] at e
      refine (I.hok b o e).stay (fun _ _ _ q => q) (fun c q => ?_) fun c ys q => ?_
      · rw [upd_ne (fun z => by rw [z, h] at q; cases q)]; exact q
      · rw [upd_ne (fun z => by rw [z, h] at q; cases q)]; exact q
end
theorem PE.frz {X : Cx} {e : Expr} {t : TE} (h : PE X e t) : PE X e (fun σ H Q => t σ H fun v H1 => Q v H1 ∨ ∃ p xs, H1 p = some (.lst xs) ∧ ∀ o, Q v (upd H1 p (.frz o (.lst xs)))) := by
  refine ⟨fun pins s σ H Q I q => thn (h.run pins s σ H _ I q) fun u s1 ⟨v, H1, I1, r1, q1⟩ => ?_⟩
  rcases q1 with q1 | ⟨p, xs, e1, q1⟩
  · exact ⟨v, H1, I1, r1, q1⟩
  · obtain ⟨o, I2⟩ := freeze I1 e1
    exact ⟨v, _, I2, r1, q1 o⟩
theorem OpR.frz {X : Cx} {f : Value → Value → Sem Value} {r : R2} (h : OpR X f r) : OpR X f (fun x y H Q => r x y H fun v H1 => Q v H1 ∨ ∃ p xs, H1 p = some (.lst xs) ∧ ∀ o, Q v (upd H1 p (.frz o (.lst xs)))) := by
  intro pins s σ H x y v u Q I rx ry q
  refine thn (h pins s σ H x y v u _ I rx ry q) fun u s1 ⟨v, H1, I1, r1, q1⟩ => ?_
  rcases q1 with q1 | ⟨p, xs, e1, q1⟩
  · exact ⟨v, H1, I1, r1, q1⟩
  · obtain ⟨o, I2⟩ := freeze I1 e1
    exact ⟨v, _, I2, r1, q1 o⟩
section
variable {K : PySem.W.Frag} {cl : Cls0} {H H' : Hp} {π π' : List Addr} {μ : Mu} {p : Addr} {o : HO}
theorem Mv.new (ok : PiOk H π) (h : H p = none) : Mv H π (upd H p o) π :=
  ⟨⟨[], by simp, by simp⟩, fun b u e _ => by rw [upd_ne (ne_of_none e h)]; exact e, fun a m => by
    obtain ⟨k, e⟩ := ok a m
    exact ⟨k, by rw [upd_ne (ne_of_none e h)]; exact e⟩⟩
theorem CR.mv (c : CR K cl H π μ) (m : Mv H π H' π) (k : ∀ a ∈ π, H' a = H a) : CR K cl H' π μ := by
  refine ⟨c.len, c.nd, m.cells, fun n kvs e => ?_⟩
  obtain ⟨a, kv, h1, h2, h3, h4, h5⟩ := c.at_ n kvs e
  exact ⟨a, kv, h1, by rw [k a (List.mem_of_getElem? h1)]; exact h2, h3, h4, h5.mv c.ok m⟩
theorem CR.new (c : CR K cl H π μ) (h : H p = none) : CR K cl (upd H p o) π μ :=
  c.mv (Mv.new c.ok h) fun a m => by
    obtain ⟨k, e⟩ := c.ok a m
    exact upd_ne (ne_of_none e h)
theorem upd_upd2 {H : Hp} {p : Addr} {o u : HO} : upd (upd H p o) p u = upd H p u := upd_upd
theorem tup_new {ds : List D} {xs : List V} (ok : PiOk H π) (h : H p = none) (r : Rps K cl H π ds xs) : Rp K cl (upd H p (.tup xs)) π (.tup ds) (.ref p) :=
  .tup (SqT.of upd_same) (r.mv ok (Mv.new ok h))
theorem frz_new {ds : List D} {xs : List V} {o : Obj} (ok : PiOk H π) (h : H p = none) (r : Rps K cl H π ds xs) : Rp K cl (upd H p (.frz o (.lst xs))) π (.lst ds) (.ref p) :=
  .lst (.inl ⟨o, upd_same⟩) (r.mv ok (Mv.new ok h))
end
end Vw
set_option Elab.async false
set_option linter.all false
set_option maxRecDepth 100000
set_option maxHeartbeats 4000000
namespace Vw
open PySem PySem.Spec PyProof.Rows L2
theorem times_list (l : Addr) (xs : Array Value) (n : Nat) (dd : Option Addr) (sl : Array (Option Value)) (i : Int) (t : Tok) (h0 : ¬(!Builtin.List.listFitsIndex i) = true) (h1 : ¬xs.size * i.toNat > (2 ^ 63 - 1) / 8) (h2 : ¬Builtin.List.listTooLong (xs.size * i.toNat) = true) :
    Meets (Builtin.«list.__mul__» ⟨[.ref l, .int i t], []⟩) (fun _ R s => s.heap.get? l = some { cls := .type "list", dict := dd, data := .seq xs n, slots := sl } ∧
      R (.ok (.ret (Value.ref s.heap.objs.size))) { s with heap := s.heap.push { cls := Value.type "list", data := Data.seq (List.foldl (fun a b => a ++ b) #[] (List.replicate (if xs.isEmpty = true then 0 else i.toNat) xs)) } }) :=
  .of_wp fun prog w A R s h => by
    obtain ⟨hh, gg, ff, tt, oo⟩ := s
    obtain ⟨hl, h⟩ := h
    have fits := AutoListH.joined_fits h2
    wp_walk
    refine wpAny_ite_false (decide_eq_false (Nat.not_lt.mpr fits)) ?_
    wp_walk
    exact ⟨_, rfl, h⟩
theorem rtimes_list (i : Int) (t : Tok) (l : Addr) (xs : Array Value) (n : Nat) (dd : Option Addr) (sl : Array (Option Value)) :
    Meets (Builtin.«int.__rmul__» ⟨[.int i t, .ref l], []⟩) (fun _ R s => s.heap.get? l = some { cls := .type "list", dict := dd, data := .seq xs n, slots := sl } ∧ R (.ok (.ret Value.notImplemented)) s) :=
  .of_wp fun prog w A R s h => by
    obtain ⟨hh, gg, ff, tt, oo⟩ := s
    obtain ⟨hl, h⟩ := h
    wp_walk
    exact ⟨_, rfl, h⟩
section
variable {X : Cx}
theorem op_times : OpR X (binaryOp .Mult) (fun x y H Q => ∃ a i xs, x = .ref a ∧ y = .int i ∧ SqL X.K H a xs ∧ 0 ≤ i ∧ i < 2 ^ 62 ∧ xs.length * i.toNat ≤ sizeLine ∧ ∀ p, H p = none → Q (.ref p) (upd H p (.lst (List.replicate i.toNat xs).flatten))) := by
  intro pins s σ H x y v u Q I rx ry h
  obtain ⟨a, i, xs, rfl, rfl, hs, i0, i1, hz, q⟩ := h
  obtain rfl : v = Value.ref a := rx
  obtain ⟨t, rfl⟩ := ry
  obtain ⟨its, rv, ⟨⟨cls, dd, data, sl⟩, n, ho, hc, hdn, hd⟩, hlen⟩ := I.list hs
  obtain rfl : cls = Value.type "list" := hc
  obtain rfl : data = Data.seq its.toArray n := hd
  have lenI : its.toArray.size * i.toNat ≤ sizeLine := by rw [List.size_toArray, ← rv.length]; exact hz
  have c0 : ¬ (!Builtin.List.listFitsIndex i) = true := by
    rw [fitsIndex_both (by omega) (by omega)]
    exact Bool.false_ne_true
  have c1 : ¬ its.toArray.size * i.toNat > (2 ^ 63 - 1) / 8 := by
    have : (sizeLine : Nat) ≤ (2 ^ 63 - 1) / 8 := by decide
    omega
  have c2 : ¬ Builtin.List.listTooLong (its.toArray.size * i.toNat) = true := by
    rw [notLongL lenI]
    exact Bool.false_ne_true
  have copies : List.foldl (fun a b => a ++ b) #[] (List.replicate (if its.toArray.isEmpty = true then 0 else i.toNat) its.toArray) = (List.replicate i.toNat its).flatten.toArray := by
    have go : ∀ m : Nat, List.foldl (fun a b => a ++ b) #[] (List.replicate m its.toArray) = (List.replicate m its).flatten.toArray := fun m => by
      have z := foldl_rep its m []
      rw [List.nil_append] at z
      exact z
    rw [go]
    cases its with
    | nil => simp
    | cons b r => rw [if_neg (by simp)]
  refine wpAny_binaryOp_repeat_ref (T := "list") (U := "int") (by decide) ⟨_, ho, rfl⟩ (fun s' => typeIs_int s' i t) noFill_list_mul F.fills_int_mul F.slot_int_rmul repeat_list F.slot_int_index.lookup
    (call_meets F.slot_int_rmul (typeIs_int s i t) F.entry_int_rmul (F.args_int_rmul_2 _ _) (rtimes_list i t a its.toArray n dd sl)
      ⟨ho, rfl, ⟨_, ho, rfl⟩, call_meets F.slot_list_mul ⟨_, ho, rfl⟩ F.entry_list_mul (F.args_list_mul_2 _ _) (times_list a its.toArray n dd sl i t c0 c1 c2) ⟨ho, ?_⟩⟩)
  rw [copies]
  exact ⟨.ref _, _, I.lnew (t' := s.toks) (rv.rep i.toNat) (by rw [PyProof.Rows.lm_len_rep_flat, Nat.mul_comm]; exact hz), rfl, q _ I.fresh⟩
end
end Vw
set_option Elab.async false
set_option linter.all false
set_option maxRecDepth 100000
set_option maxHeartbeats 4000000
namespace Vw
open PySem PySem.Spec L2
section
variable {prog : Program} {w : World} {A : Around} {E : Value → Shared → Prop} {s : Shared} {K : PySem.W.Frag} {x C L f g dx : Addr} {h₀ : Heap} {m : Str → Option Value} {od : Option Obj} {i : Int} {t : Tok} {Q : Value → Shared → Prop}
theorem int_declines (I : PySem.W.InstAt s.heap x (PySem.W.instObj C dx) C od) {R : Option Value → Shared → Prop} (h : R none s) : wpAny (model prog w) A (tryMethod (.int i t) (PySem.dunder "add") (.ref x)) R E s := by
  refine wpAny_tryMethod_declines (typeIs_int s i t) F.slot_int_add ?_
  refine wpAny_call (codeAny_call_builtin F.slot_int_add.plain F.entry_int_add (F.slot_int_add.check _ _ _ _ _ _ _ _ (typeIs_int s i t) (F.args_int_add_2 _ _) ?_))
  unfold Builtin.«int.__add__» Builtin.Int.intBinary
  obtain ⟨hh, gg, d, tt, os⟩ := s
  repeat lk
  refine (PySem.W.Looks.ld (M := model prog w) (part := none) I.at_).here ?_
  unfold PySem.W.instObj
  dsimp only
  repeat lk
  exact ⟨rfl, h⟩
theorem radd_K (Fr0 : PyProof.Rows.Fr h₀ L s.heap m) (X₀ : K.In h₀) (I : PySem.W.InstAt s.heap x (PySem.W.instObj C dx) C od) (hc : PySem.W.selfFirst K C = true) (hs : PySem.W.findIn K (.ref C) (PySem.dunder "add") = some (some (.ref g)))
    (hr : PySem.W.findIn K (.ref C) (dunderR "add") = some (some (.ref f))) (hf : PySem.W.isFn K (.ref f) = true) (hsub : PySem.W.subIn K (.ref C) (.type "int") = some false)
    (h : wpAny (model prog w) A (call (.ref f) [.ref x, .int i t]) (PySem.W.CmpBack Q) E s) : wpAny (model prog w) A (binaryOp .Add (.int i t) (.ref x)) Q E s := by
  have X := X₀.keeps Fr0.keep
  obtain ⟨cd, rest, hcd, hm⟩ := PySem.W.ksp_first hc
  have one := PySem.W.ksp_try (M := model prog w) X I hr hf h
  have zero := fun R h => int_declines (prog := prog) (w := w) (A := A) (E := E) (i := i) (t := t) (R := R) I h
  have hi : Operator.Add.info = ("+", "add") := rfl
  obtain ⟨hh, gg, d, tt, os⟩ := s
  have L1 : PySem.W.Looks (model prog w) hh (typeOf (.int i t)) (.type "int") := PySem.W.Looks.of_pure rfl
  have L2 : PySem.W.Looks (model prog w) hh (typeOf (.ref x)) (.ref C) := I.type
  have L3 : PySem.W.Looks (model prog w) hh (fillsNumberSlot (.type "int") "add") true := PySem.W.Looks.of_pure F.fills_int_add
  have L4 : PySem.W.Looks (model prog w) hh (fillsNumberSlot (.ref C) "add") true := PySem.W.fills_K X hcd hm hs
  have L5 : PySem.W.Looks (model prog w) hh (isSubtype (.ref C) (.type "int")) false := PySem.W.looks_subIn X hsub
  have L6 : PySem.W.Looks (model prog w) hh (numberSlotInPython (.type "int") "add") false := PySem.W.Looks.of_pure rfl
  have hne : (Value.type "int" == Value.ref C) = false := Bool.eq_false_iff.mpr fun q => by cases beq_iff_eq.mp q
  simp only [binaryOp, hi]
  refine wpAny_holding (wpAny_bind ?_)
  unfold binaryOp1
  refine wpAny_bind (L1.at (wpAny_bind (L2.at (wpAny_bind (L3.at ?_)))))
  simp only [hne, Bool.false_eq_true, if_false]
  ksp_lk
  refine zero _ ?_
  ksp_lk
  refine wpAny_mono one (fun r s' hr' => ?_) fun _ _ e => e
  obtain ⟨v, rfl, hq⟩ := hr'
  ksp_lk
  exact hq
end
end Vw
set_option Elab.async false
set_option linter.all false
set_option maxRecDepth 100000
set_option maxHeartbeats 4000000
namespace Vw
open PySem PySem.Spec L2
structure Bd (X : Cx) (nm : Nm) (P : Pr) (Γ : Gam) (cl : Cls0) (fa : Fa) (gl df : Nat → Bool) (j : Nat) : Prop where
  gf : GF nm P cl fa X.K X.mg
  ff : FF nm P Γ cl fa X.prog X.w X.K X.mg X.base gl df j
  room : Room (j + 1) X.A
  calm : X.calm = true
  gd : nm.rp = true → X.A.guards = some []
section
variable {X : Cx} {nm : Nm} {P : Pr} {Γ : Gam} {cl : Cls0} {fa : Fa} {gl df : Nat → Bool} {j : Nat}
variable {pins : List (Addr × Obj)} {s : Shared} {σ : L2.St} {H : Hp} {π : List Addr} {μ μ' : Mu} {Q : VK}
theorem run_df {us : List Value} {vs : List V} {ds : List D} {d : D} {f : Nat} (B : Bd X nm P Γ cl fa gl df j) (hf : df f = true) (I : Inv X pins σ H s) (r : Vals vs us) (rp : Rps X.K cl H π ds vs) (cr : CR X.K cl H π μ)
    (e : Γ f ds μ = .ok d μ') (k : ∀ v H' π', Rp X.K cl H' π' d v → Mv H π H' π' → CR X.K cl H' π' μ' → Q v H') : wpAny (model X.prog X.w) X.A (call (.ref (fa.addr f)) us) (EP X pins σ Q) X.xe s := by
  obtain ⟨F, hb, hk⟩ := B.ff.ok f hf
  exact run_fn (E := E0) (dvs := []) (ds := []) F (B.room.mono (Nat.le_succ _)) hb .nil pass0 I r (by rw [List.append_nil]; exact ⟨ds, μ, π, d, μ', rp, cr, e, k⟩)
theorem run_meth {us : List Value} {vs : List V} {ds : List D} {d : D} {c m : Nat} {C : Addr} {ns : List Str} (B : Bd X nm P Γ cl fa gl df j) (hc : cl c = some (C, ns)) (I : Inv X pins σ H s) (r : Vals vs us) (rp : Rps X.K cl H π ds vs) (cr : CR X.K cl H π μ)
    (e : callM P Γ c m ds μ = .ok d μ') (k : ∀ v H' π', Rp X.K cl H' π' d v → Mv H π H' π' → CR X.K cl H' π' μ' → Q v H') :
    ∃ f, P.meth c m = some f ∧ Meth X.K C (nm.mth m) (fa.addr f) ∧ wpAny (model X.prog X.w) X.A (call (.ref (fa.addr f)) us) (EP X pins σ Q) X.xe s := by
  unfold callM at e
  cases hm : P.meth c m with
  | none => rw [hm] at e; cases e
  | some f =>
    rw [hm] at e
    exact ⟨f, rfl, B.gf.mth c m f C ns hm hc, run_df B (B.ff.meth c m f hm) I r rp cr e k⟩
theorem back_of {u : Value} {s' : Shared} {R : Value → Shared → Prop} (h : EP X pins σ Q u s') (hR : ∀ v H', Inv X pins σ H' s' → RelV v u → Q v H' → R u s') : PySem.W.CmpBack R u s' := by
  obtain ⟨v, H', I, r, q⟩ := h
  have z := hR v H' I r q
  cases v with
  | non => cases r; exact z
  | bl _ => cases r; exact z
  | int _ => obtain ⟨t, rfl⟩ := r; exact z
  | str _ => obtain ⟨t, rfl⟩ := r; exact z
  | byt _ => obtain ⟨t, rfl⟩ := r; exact z
  | flt _ => obtain ⟨t, rfl⟩ := r; exact z
  | ref _ => cases r; exact z
  | ty _ => cases r; exact z
theorem inst_of {a C dx : Addr} {fs : List (Str × V)} (I : Inv X pins σ H s) (h : H a = some (.ins C dx fs)) : ∃ od, PySem.W.InstAt s.heap a (PySem.W.instObj C dx) C (some od) := by
  obtain ⟨mA, O, _⟩ := ins_get I.hok h
  obtain ⟨od, J, _⟩ := O.look
  exact ⟨od, J⟩
theorem bin_int (op : Operator) {i j' : Int} {d : D} {v u : Value} (I : Inv X pins σ H s) (rx : RelV (.int i) v) (ry : RelV (.int j') u) (cr : CR X.K cl H π μ) (e : bop P Γ op (.int i) (.int j') μ = .ok d μ')
    (k : ∀ v H' π', Rp X.K cl H' π' d v → Mv H π H' π' → CR X.K cl H' π' μ' → Q v H') : wpAny (model X.prog X.w) X.A (binaryOp op v u) (EP X pins σ Q) X.xe s := by
  have fin : ∀ n : Int, (Out.ok (D.int n) μ : Out D) = .ok d μ' → Q (.int n) H := fun n q => by
    cases q
    exact k _ H π (.int n) (Mv.refl cr.ok) cr
  cases op <;> simp only [bop] at e <;> first | (cases e; done) | skip
  · exact op_add pins s σ H _ _ v u Q I rx ry ⟨i, j', rfl, rfl, fin _ e⟩
  · exact op_sub pins s σ H _ _ v u Q I rx ry ⟨i, j', rfl, rfl, fin _ e⟩
  · split at e
    · rename_i hc
      exact op_mulW pins s σ H _ _ v u Q I rx ry ⟨i, j', rfl, rfl, hc, fin _ e⟩
    · cases e
  · split at e
    · rename_i hc
      exact op_mod pins s σ H _ _ v u Q I rx ry ⟨i, j', rfl, rfl, hc, fin _ e⟩
    · cases e
  · split at e
    · rename_i hc
      exact op_pow pins s σ H _ _ v u Q I rx ry ⟨i, j', rfl, rfl, hc, fin _ e⟩
    · cases e
  · split at e
    · rename_i hc
      exact op_shr pins s σ H _ _ v u Q I rx ry ⟨i, j', rfl, rfl, hc, fin _ e⟩
    · cases e
  · exact op_and pins s σ H _ _ v u Q I rx ry ⟨i, j', rfl, rfl, fin _ e⟩
  · split at e
    · rename_i hc
      exact op_fdivW pins s σ H _ _ v u Q I rx ry ⟨i, j', rfl, rfl, hc, fin _ e⟩
    · cases e
theorem cat_lst {l b : Addr} {xs ys : List V} {v u : Value} (I : Inv X pins σ H s) (rx : RelV (.ref l) v) (ry : RelV (.ref b) u) (hl : SqL X.K H l xs) (hb : SqL X.K H b ys) (hz : xs.length + ys.length ≤ sizeLine)
    (k : ∀ p, H p = none → Q (.ref p) (upd H p (.lst (xs ++ ys)))) : wpAny (model X.prog X.w) X.A (binaryOp .Add v u) (EP X pins σ Q) X.xe s := by
  cases rx
  cases ry
  obtain ⟨its, r1, p1, _⟩ := I.list hl
  obtain ⟨its2, r2, p2, _⟩ := I.list hb
  obtain ⟨o1, n1, h1, c1, d1, e1⟩ := p1
  obtain ⟨o2, n2, h2, c2, d2, e2⟩ := p2
  obtain ⟨cls, dd, data, sl⟩ := o1
  obtain ⟨cls2, dd2, data2, sl2⟩ := o2
  simp only at c1 d1 e1 c2 d2 e2
  subst c1 d1 e1 c2 d2 e2
  have q1 := r1.length
  have q2 := r2.length
  have e : its.toArray ++ its2.toArray = (its ++ its2).toArray := by simp
  refine PySem.concat_meets ⟨_, h1, rfl⟩ ⟨_, h2, rfl⟩ PySem.noFill_list_add PySem.seq_list_add PySem.F.slot_list_add PySem.F.entry_list_add (PySem.F.args_list_add_2 _ _) (PyProof.Rows.list_addW l b its.toArray its2.toArray n1 n2 none none sl sl2 (by simp; omega)) ⟨h1, h2, ?_⟩
  rw [e]
  exact ⟨.ref _, _, I.lnew (t' := s.toks) (r1.append r2) (by rw [List.length_append]; omega), rfl, k _ I.fresh⟩
theorem rps_rep {K : PySem.W.Frag} {H : Hp} {π : List Addr} {ds : List D} {vs : List V} (r : Rps K cl H π ds vs) : ∀ n : Nat, Rps K cl H π (List.replicate n ds).flatten (List.replicate n vs).flatten
  | 0 => .nil
  | n + 1 => by
    rw [List.replicate_succ, List.replicate_succ, List.flatten_cons, List.flatten_cons]
    exact r.append (rps_rep r n)
theorem RelV.int_of {i : Int} {v : Value} (r : RelV (.int i) v) : ∃ t, v = Value.int i t := r
theorem op_bin (B : Bd X nm P Γ cl fa gl df j) (op : Operator) : OpR X (binaryOp op) (RR X.K cl (bop P Γ op)) := by
  intro pins s σ H x y v u Q I rx ry h
  obtain ⟨a, b, μ, π, d, μ', ra, rb, cr, e, k⟩ := h
  obtain ⟨m, F⟩ := I.fr
  cases ra with
  | int i =>
    cases rb with
    | int n => exact bin_int op I rx ry cr e k
    | @obj c C ad dx ns ds xs hc hH hn hr =>
      simp only [bop] at e
      split at e
      · rename_i ho
        obtain ⟨rfl, ho⟩ := ho
        obtain ⟨t, rfl⟩ := rx
        cases ry
        obtain ⟨od, J⟩ := inst_of I hH
        obtain ⟨g, hg⟩ := Option.isSome_iff_exists.mp ho
        obtain ⟨f, hf, M, w⟩ := run_meth (us := [.ref ad, .int i t]) (vs := [.ref ad, .int i]) B hc I (.cons rfl (.cons ⟨t, rfl⟩ .nil)) (.cons (.obj hc hH hn hr) (.cons (.int i) .nil)) cr e k
        have hs := (B.gf.mth c (opM .Add) g C ns hg hc).at_
        rw [B.gf.opn .Add] at hs
        have hr' := M.at_
        rw [B.gf.opr] at hr'
        exact radd_K F I.mod.kin J (B.gf.self c C ns hc).1 hs hr' M.fn (B.gf.sbo c C ns hc "int" (by decide)) (thn w fun u' s' h' => back_of h' fun v' H' I' r' q' => ⟨v', H', I', r', q'⟩)
      · cases e
    | _ => simp only [bop] at e; cases e
  | str x1 =>
    cases rb with
    | str y1 =>
      simp only [bop] at e
      split at e
      · rename_i ho
        obtain ⟨rfl, hz⟩ := ho
        cases e
        exact op_add_str pins s σ H _ _ v u Q I rx ry ⟨x1, y1, rfl, rfl, by rw [PySem.sizeLine_eq]; exact hz, k _ H π (.str _) (Mv.refl cr.ok) cr⟩
      · cases e
    | _ => simp only [bop] at e; cases e
  | @lst p xs vs hl hr =>
    cases rb with
    | @lst p2 ys ws hl2 hr2 =>
      simp only [bop] at e
      split at e
      · rename_i ho
        subst ho
        unfold lenOk at e
        split at e
        · rename_i hz
          cases e
          have q1 := hr.length
          have q2 := hr2.length
          have hz' : vs.length + ws.length ≤ sizeLine := by rw [PySem.sizeLine_eq]; rw [List.length_append] at hz; unfold cap at hz; omega
          refine thn (cat_lst (Q := fun v H1 => ∃ p, H p = none ∧ v = .ref p ∧ H1 = upd H p (.lst (vs ++ ws))) I rx ry hl.sq hl2.sq hz' fun p hp => ⟨p, hp, rfl, rfl⟩) fun u' s' ⟨v', H', I', r', p, hp, ev, eh⟩ => ?_
          subst ev eh
          obtain ⟨o, I2⟩ := freeze I' upd_same
          rw [upd_upd] at I2
          exact ⟨.ref p, _, I2, r', k _ _ π (frz_new cr.ok hp (hr.append hr2)) (Mv.new cr.ok hp) (cr.new hp)⟩
        · cases e
      · cases e
    | int n =>
      simp only [bop] at e
      split at e
      · rename_i hz
        obtain ⟨rfl, n0, n1, hz⟩ := hz
        cases e
        rw [hr.length] at hz
        refine OpR.frz op_times pins s σ H _ _ v u Q I rx ry ⟨p, n, vs, rfl, rfl, hl.sq, n0, n1, hz, fun q hq => .inr ⟨q, _, upd_same, fun o => ?_⟩⟩
        rw [upd_upd]
        exact k _ _ π (frz_new cr.ok hq (rps_rep hr n.toNat)) (Mv.new cr.ok hq) (cr.new hq)
      · cases e
    | _ => simp only [bop] at e; cases e
  | @tup p xs vs hl hr =>
    cases rb with
    | @tup p2 ys ws hl2 hr2 =>
      simp only [bop] at e
      split at e
      · rename_i ho
        subst ho
        unfold lenOk at e
        split at e
        · rename_i hz
          cases e
          have q1 := hr.length
          have q2 := hr2.length
          have hz' : vs.length + ws.length ≤ sizeLine := by rw [PySem.sizeLine_eq]; rw [List.length_append] at hz; unfold cap at hz; omega
          refine op_catA pins s σ H _ _ v u Q I rx ry ⟨p, p2, vs, ws, rfl, rfl, hl, hl2, hz', fun h0 => ?_, fun h0 h1 => ?_, fun h0 h1 q hq => ?_⟩
          · subst h0
            cases hr
            exact k _ H π (.tup hl2 hr2) (Mv.refl cr.ok) cr
          · subst h1
            cases hr2
            rw [List.append_nil] at k
            exact k _ H π (.tup hl hr) (Mv.refl cr.ok) cr
          · exact k _ _ π (tup_new cr.ok hq (hr.append hr2)) (Mv.new cr.ok hq) (cr.new hq)
        · cases e
      · cases e
    | _ => simp only [bop] at e; cases e
  | @obj c C ad dx ns ds xs hc hH hn hr =>
    cases rx
    obtain ⟨od, J⟩ := inst_of I hH
    cases rb with
    | int n =>
      simp only [bop] at e
      split at e
      rotate_left
      · cases e
      rename_i hoi
      obtain ⟨t, rfl⟩ := ry
      obtain ⟨f, hf, M, w⟩ := run_meth (us := [.ref ad, .int n t]) (vs := [.ref ad, .int n]) B hc I (.cons rfl (.cons ⟨t, rfl⟩ .nil)) (.cons (.obj hc hH hn hr) (.cons (.int n) .nil)) cr e k
      obtain ⟨rc, fo, ro, z1, z2, z3, z4, z5⟩ := B.gf.rop op c C ns f hoi hf hc
      have hs := M.at_
      rw [B.gf.opn op] at hs
      exact PySem.W.ksp_binT F I.mod.kin J rfl (B.gf.self c C ns hc).1 hs M.fn z1 z2 z3 z4 z5 (thn w fun u' s' h' => back_of h' fun v' H' I' r' q' => ⟨v', H', I', r', q'⟩)
    | @obj c' C' ad' dx' ns' ds' xs' hc' hH' hn' hr' =>
      simp only [bop] at e
      split at e
      · rename_i hcc
        subst hcc
        rw [hc] at hc'
        cases hc'
        cases ry
        obtain ⟨od', J'⟩ := inst_of I hH'
        obtain ⟨f, hf, M, w⟩ := run_meth (us := [.ref ad, .ref ad']) (vs := [.ref ad, .ref ad']) B hc I (.cons rfl (.cons rfl .nil)) (.cons (.obj hc hH hn hr) (.cons (.obj hc hH' hn' hr') .nil)) cr e k
        have hs := M.at_
        rw [B.gf.opn op] at hs
        exact PySem.W.binop_K F I.mod.kin J J'.type (B.gf.self c C ns hc).1 hs M.fn (thn w fun u' s' h' => back_of h' fun v' H' I' r' q' => ⟨v', H', I', r', q'⟩)
      · cases e
    | _ => simp only [bop] at e; cases e
  | _ => cases rb <;> simp only [bop] at e <;> cases e
theorem op_un (B : Bd X nm P Γ cl fa gl df j) (op : UnaryOp) : UnR X (unaryOp op) (RU X.K cl (uop P Γ op)) := by
  intro pins s σ H x v Q I rx h
  obtain ⟨a, μ, π, d, μ', ra, cr, e, k⟩ := h
  obtain ⟨m, F⟩ := I.fr
  cases ra with
  | int i =>
    cases op <;> simp only [uop] at e <;> first | (cases e; done) | skip
    cases e
    exact un_neg pins s σ H _ v Q I rx ⟨i, rfl, k _ H π (.int _) (Mv.refl cr.ok) cr⟩
  | @obj c C ad dx ns ds xs hc hH hn hr =>
    cases rx
    obtain ⟨od, J⟩ := inst_of I hH
    cases op <;> simp only [uop] at e <;> first | (cases e; done) | skip
    · obtain ⟨f, hf, M, w⟩ := run_meth (us := [.ref ad]) (vs := [.ref ad]) B hc I (.cons rfl .nil) (.cons (.obj hc hH hn hr) .nil) cr e k
      have hs := M.at_
      rw [show unM .Invert = 40 from rfl, B.gf.unn.1] at hs
      exact PySem.W.ksp_inv F I.mod.kin J hs M.fn w
    · obtain ⟨f, hf, M, w⟩ := run_meth (us := [.ref ad]) (vs := [.ref ad]) B hc I (.cons rfl .nil) (.cons (.obj hc hH hn hr) .nil) cr e k
      have hs := M.at_
      rw [show unM .USub = 43 from rfl, B.gf.unn.2] at hs
      exact PySem.W.ksp_neg F I.mod.kin J hs M.fn w
  | _ => simp only [uop] at e; cases e
mutual
theorem Rp.dp {K : PySem.W.Frag} : ∀ {d : D} {v : V} {x : PyData}, Rp K cl H π d v → d.py = some x → Dp K H v x
  | _, _, x, .non, e => by rw [D.py] at e; cases e; exact .non
  | _, _, x, .bl b, e => by rw [D.py] at e; cases e; exact .bl b
  | _, _, x, .int b, e => by rw [D.py] at e; cases e; exact .int b
  | _, _, x, .str b, e => by rw [D.py] at e; cases e; exact .str b
  | _, _, x, .tup h r, e => by
    rw [D.py] at e
    obtain ⟨ys, e1, e2⟩ := Option.map_eq_some_iff.mp e
    cases e2
    exact .tup h (Rps.dp r e1)
  | _, _, x, .lst h r, e => by
    rw [D.py] at e
    obtain ⟨ys, e1, e2⟩ := Option.map_eq_some_iff.mp e
    cases e2
    exact .lst h.sq (Rps.dp r e1)
  | _, _, x, .obj c h n r, e => by rw [D.py] at e; cases e
  | _, _, x, .cel h, e => by rw [D.py] at e; cases e
theorem Rps.dp {K : PySem.W.Frag} : ∀ {ds : List D} {vs : List V} {xs : List PyData}, Rps K cl H π ds vs → D.pys ds = some xs → DpAll K H vs xs
  | _, _, xs, .nil, e => by rw [D.pys] at e; cases e; exact .nil
  | _, _, xs, .cons (d := d) (ds := ds) a b, e => by
    rw [D.pys] at e
    cases q1 : D.py d with
    | none => rw [q1] at e; simp at e
    | some x =>
      cases q2 : D.pys ds with
      | none => rw [q1, q2] at e; simp at e
      | some ys =>
        rw [q1, q2] at e
        simp at e
        subst e
        exact .cons (Rp.dp a q1) (Rps.dp b q2)
end
theorem deq_of {a b : D} {k : Bool} (h : deq a b = some k) : ∃ x y, a.py = some x ∧ b.py = some y ∧ SeqAt.shaped x = true ∧ SeqAt.shaped y = true ∧ PyData.eqv x y = k := by
  unfold deq at h
  split at h
  · rename_i x y hx hy
    split at h
    · rename_i hs
      exact ⟨x, y, hx, hy, hs.1, hs.2, Option.some.inj h⟩
    · cases h
  · cases h
theorem flat_of {K : PySem.W.Frag} {d : D} {v : V} (r : Rp K cl H π d v) (f : d.flat = true) : flatV v = true := by
  cases r <;> first | rfl | (unfold D.flat at f; cases f)
theorem flats_of {K : PySem.W.Frag} : ∀ {ds : List D} {vs : List V}, Rps K cl H π ds vs → ds.all D.flat = true → vs.all flatV = true
  | _, _, .nil, _ => rfl
  | _, _, .cons a b, h => by
    rw [List.all_cons, Bool.and_eq_true] at h
    rw [List.all_cons, flat_of a h.1, flats_of b h.2]; rfl
theorem flatEq_of {K : PySem.W.Frag} {d e : D} {v w : V} (r : Rp K cl H π d v) (r' : Rp K cl H π e w) (f : d.flat = true) (f' : e.flat = true) : flatEq d e = eqV v w := by
  cases r <;> cases r' <;> first | rfl | (unfold D.flat at f; cases f; done) | (unfold D.flat at f'; cases f'; done) | (simp [flatEq, eqV]; done) | skip
theorem any_of {K : PySem.W.Frag} {a : D} {x : V} (ra : Rp K cl H π a x) (fa' : a.flat = true) : ∀ {ds : List D} {vs : List V}, Rps K cl H π ds vs → ds.all D.flat = true → (ds.any fun y => flatEq y a) = inV x vs
  | _, _, .nil, _ => rfl
  | _, _, .cons p q, h => by
    rw [List.all_cons, Bool.and_eq_true] at h
    have ih := any_of ra fa' q h.2
    unfold inV at ih ⊢
    rw [List.any_cons, List.any_cons, flatEq_of p ra h.1 fa', ih]
theorem looks_of {a : D} {x : V} {u : Value} {c : Nat} {C : Addr} {ns : List Str} (B : Bd X nm P Γ cl fa gl df j) (hc : cl c = some (C, ns)) (I : Inv X pins σ H s) (r : Rp X.K cl H π a x) (ru : RelV x u) (ho : objEqOk c a = true) :
    ∃ tb, PySem.W.Looks (model X.prog X.w) s.heap (typeOf u) tb ∧ PySem.W.notFirst X.K C tb = true := by
  have z := B.gf.sub c C ns hc
  cases r with
  | non => cases ru; exact ⟨.type "NoneType", .of_pure rfl, by unfold PySem.W.notFirst; rw [z "NoneType" (by decide)]; simp⟩
  | bl b => cases ru; exact ⟨.type "bool", .of_pure rfl, by unfold PySem.W.notFirst; rw [z "bool" (by decide)]; simp⟩
  | int i => obtain ⟨t, rfl⟩ := ru; exact ⟨.type "int", .of_pure rfl, by unfold PySem.W.notFirst; rw [z "int" (by decide)]; simp⟩
  | str y => obtain ⟨t, rfl⟩ := ru; exact ⟨.type "str", .of_pure rfl, by unfold PySem.W.notFirst; rw [z "str" (by decide)]; simp⟩
  | @obj c' C' ad dx ns' ds xs hc' hH hn hr =>
    cases ru
    unfold objEqOk at ho
    have e := beq_iff_eq.mp ho
    subst e
    rw [hc] at hc'
    cases hc'
    obtain ⟨od, J⟩ := inst_of I hH
    exact ⟨_, J.type, by unfold PySem.W.notFirst; simp⟩
  | tup hl hr =>
    cases ru
    obtain ⟨its, _, ⟨o, h1, h2, _⟩, _⟩ := I.tuple hl
    exact ⟨.type "tuple", by rw [← h2]; exact (PySem.W.Looks.ld (part := none) h1).andThen .now, by unfold PySem.W.notFirst; rw [z "tuple" (by decide)]; simp⟩
  | lst hl hr =>
    cases ru
    obtain ⟨its, _, ⟨o, n, h1, h2, _⟩, _⟩ := I.list hl.sq
    exact ⟨.type "list", by rw [← h2]; exact (PySem.W.Looks.ld (part := none) h1).andThen .now, by unfold PySem.W.notFirst; rw [z "list" (by decide)]; simp⟩
  | _ => unfold objEqOk at ho; cases ho
theorem cmp_own {op : CmpOp} {c : Nat} {C ad dx : Addr} {ns : List Str} {fs : List D} {xs : List V} {b : D} {y : V} {u : Value} {d : D} {m : Nat} (B : Bd X nm P Γ cl fa gl df j) (I : Inv X pins σ H s)
    (hc : cl c = some (C, ns)) (hH : H ad = some (.ins C dx (ns.zip xs))) (hn : ns.length = xs.length) (hr : Rps X.K cl H π fs xs) (rb : Rp X.K cl H π b y) (ry : RelV y u) (cr : CR X.K cl H π μ) (ho : objEqOk c b = true)
    (hnm : nm.mth m = (cmpInfo op).2.1) (e : callM P Γ c m [.obj c fs, b] μ = .ok d μ')
    (k : ∀ v H' π', Rp X.K cl H' π' d v → Mv H π H' π' → CR X.K cl H' π' μ' → Q v H') : wpAny (model X.prog X.w) X.A (richCompare op (.ref ad) u) (EP X pins σ Q) X.xe s := by
  obtain ⟨mm, F⟩ := I.fr
  obtain ⟨od, J⟩ := inst_of I hH
  obtain ⟨f, hf, M, w⟩ := run_meth (us := [.ref ad, u]) (vs := [.ref ad, y]) B hc I (.cons rfl (.cons ry .nil)) (.cons (.obj hc hH hn hr) (.cons rb .nil)) cr e k
  obtain ⟨tb, L, z⟩ := looks_of B hc I rb ry ho
  have hs := M.at_
  rw [hnm] at hs
  exact PySem.W.cmp_K B.room.units0 F I.mod.kin J L z hs M.fn (thn w fun u' s' h' => back_of h' fun v' H' I' r' q' => ⟨v', H', I', r', q'⟩)
theorem run_in1 {pins : List (Addr × Obj)} {s : Shared} {σ : L2.St} {H : Hp} {π : List Addr} {μ μ' : Mu} {Q : VK} {us : List Value} {vs : List V} {ds : List D} {d : D} {f : Nat} (B : Bd X nm P Γ cl fa gl df j) (hf : df f = true) (I : Inv X pins σ H s) (r : Vals vs us) (rp : Rps X.K cl H π ds vs) (cr : CR X.K cl H π μ)
    (e : Γ f ds μ = .ok d μ') (k : ∀ v H' π', Rp X.K cl H' π' d v → Mv H π H' π' → CR X.K cl H' π' μ' → Q v H') : wpAny (model X.prog X.w) X.A.in1 (call (.ref (fa.addr f)) us) (EP X pins σ Q) X.xe s := by
  obtain ⟨F, hb, hk⟩ := B.ff.ok f hf
  have sp : spF X.K cl (Γ f) vs H Q E0 := ⟨ds, μ, π, d, μ', rp, cr, e, k⟩
  have hlen : us.length = (fa.ps f).length := by rw [← r.length]; exact F.len _ _ _ _ sp
  have bd := hb s us I.kIn (by simpa using hlen)
  rw [List.append_nil] at bd
  refine wpAny_call (codeAny_mono (F.run X.A.in1 X.stack s H ⟨us, []⟩ us vs Q E0 B.room.in1 I.env0.in1 bd r sp) fun o s2 ho => ?_)
  cases o with
  | error x => exact pass0 pins σ H s x s2 I ho
  | ok fl =>
    cases fl with
    | ret u => exact I.after ho
    | _ => exact ho.elim
theorem ne_K {A : Around} {E : Value → Shared → Prop} {s : Shared} {K : PySem.W.Frag} {x C L f : Addr} {h₀ : Heap} {m : Str → Option Value} {ox : Obj} {od : Option Obj} {b tb : Value} {prog : Program} {w : World} {Q : Value → Shared → Prop} (hu : A.units + 1 < cLine) (Fr0 : PyProof.Rows.Fr h₀ L s.heap m) (X₀ : K.In h₀) (I : PySem.W.InstAt s.heap x ox C od) (hb : PySem.W.Looks (model prog w) s.heap (typeOf b) tb) (hn : PySem.W.notFirst K C tb = true)
    (hs : PySem.W.findIn K (.ref C) "__ne__" = some (some (.builtin "object.__ne__"))) (hm : PySem.W.mroIn K C (.type "object") = some true) (he : PySem.W.findIn K (.ref C) "__eq__" = some (some (.ref f))) (hf : PySem.W.isFn K (.ref f) = true)
    (h : wpAny (model prog w) A.in1 (call (.ref f) [.ref x, b]) (fun v s' => ∃ k, v = .bool k ∧ Q (.bool (!k)) s') E s) : wpAny (model prog w) A (richCompare .NotEq (.ref x) b) Q E s := by
  have X := X₀.keeps Fr0.keep
  have entry : wpAny (model prog w) A.in1 (Builtin.«object.__ne__» ⟨[.ref x, b], []⟩) (fun r s' => ∃ k, r = .done (.ret (.bool k)) ∧ Q (.bool k) s') E s := by
    unfold Builtin.«object.__ne__»
    repeat (first
      | with_reducible refine wpAny_cRoomFor hu ?_
      | (refine wpAny_bind (m := callSpecialIfBound? (.ref x) (Str.ofString "__eq__") [b]) (PySem.W.ifBound_K X I he hf (wpAny_mono h (fun r s' hr => ?_) fun _ _ e => e)))
      | wp_step)
    obtain ⟨k, rfl, hq⟩ := hr
    repeat (first | exact ⟨_, rfl, hq⟩ | exact wpAny_pure ⟨_, rfl, hq⟩ | (refine wpAny_bind (m := truthy (.bool _)) (wpAny_truthy_bool ?_)) | wp_step)
  have callN : wpAny (model prog w) A (call (.builtin "object.__ne__") [.ref x, b]) (fun v s' => ∃ k, v = .bool k ∧ Q (.bool k) s') E s :=
    wpAny_call (codeAny_call_builtin F.cmp_object.ne.plain F.cmpEntry_ne (PySem.W.check_slot F.cmpKind_ne F.cmpSplit_ne (I.type.andThen (PySem.W.looks_mroIn X hm)) (F.cmpArgs_ne _ _) (wpAny_mono entry (fun r s' hr => by obtain ⟨k, rfl, hq⟩ := hr; exact ⟨k, rfl, hq⟩) fun _ _ e => e)))
  have bound : wpAny (model prog w) A (callSpecialIfBound? (.ref x) "__ne__" [b]) (fun r s' => ∃ k, r = some (.bool k) ∧ Q (.bool k) s') E s := by
    simp only [callSpecialIfBound?, bindSpecialIfBound?]
    refine wpAny_holding (wpAny_bind (wpAny_bind (wpAny_bind (I.type.here ((PySem.W.looks_findIn X hs).here ?_)))))
    refine wpAny_bind (wpAny_askSetting (wpAny_ite ?_))
    have fin : wpAny (model prog w) A (call (.builtin "object.__ne__") ([.ref x] ++ [b]) >>= fun v => pure (some v)) (fun r s' => ∃ k, r = some (.bool k) ∧ Q (.bool k) s') E s := wpAny_bind (wpAny_mono callN (fun v s' h' => wpAny_pure (by obtain ⟨k, rfl, hq⟩ := h'; exact ⟨k, rfl, hq⟩)) fun _ _ h' => h')
    split
    · exact wpAny_bind (wpAny_of_eq (F.cmp_object.ne.bind _) (wpAny_pure (by exact fin)))
    · exact wpAny_tryCatch (wpAny_bind (wpAny_of_eq (F.cmp_object.ne.bind _) (wpAny_pure (by exact fin))))
  have one : wpAny (model prog w) A (tryCompare (.ref x) (cmpInfo .NotEq).2.1 b) (fun r s' => ∃ v, r = some v ∧ Q v s') E s := by
    unfold tryCompare
    refine wpAny_bind (wpAny_mono bound (fun v s' hv => ?_) fun _ _ e => e)
    obtain ⟨k, rfl, hq⟩ := hv
    exact wpAny_pure ⟨_, rfl, hq⟩
  unfold richCompare
  simp only [oneThing_ref]
  refine wpAny_holding (wpAny_bind (wpAny_cRoomFor (by omega) ?_))
  refine wpAny_bind (I.type.here (wpAny_bind (hb.here ?_)))
  split
  · rename_i q
    have e : PySem.W.subIn K tb (.ref C) = some false := by
      rcases Bool.or_eq_true_iff.mp hn with e | e
      · rw [beq_iff_eq.mp e] at q; simp at q
      · exact beq_iff_eq.mp e
    refine wpAny_bind ((PySem.W.looks_subIn X e).here ?_)
    simp only [Bool.false_eq_true, if_false]
    refine wpAny_bind (wpAny_mono one (fun r s' z => ?_) fun _ _ e => e)
    obtain ⟨v, rfl, hq⟩ := z
    exact wpAny_pure hq
  · refine wpAny_bind (wpAny_pure ?_)
    simp only [Bool.false_eq_true, if_false]
    refine wpAny_bind (wpAny_mono one (fun r s' z => ?_) fun _ _ e => e)
    obtain ⟨v, rfl, hq⟩ := z
    exact wpAny_pure hq
theorem eqOk_obj {c c' : Nat} {fs : List D} (h : c = c') : objEqOk c (.obj c' fs) = true := by unfold objEqOk; simp [h]
theorem op_cmp (B : Bd X nm P Γ cl fa gl df j) (op : CmpOp) : OpR X (compareOp op) (RR X.K cl (cop P Γ op)) := by
  intro pins s σ H x y v u Q I rx ry h
  obtain ⟨a, b, μ, π, d, μ', ra, rb, cr, e, k⟩ := h
  obtain ⟨m, F⟩ := I.fr
  have fin : ∀ n : Bool, (Out.ok (D.bl n) μ : Out D) = .ok d μ' → Q (.bl n) H := fun n q => by
    cases q
    exact k _ H π (.bl n) (Mv.refl cr.ok) cr
  cases op with
  | Lt =>
    cases ra with
    | int i =>
      cases rb with
      | int n => exact op_lt pins s σ H _ _ v u Q I rx ry ⟨i, n, rfl, rfl, fin _ e⟩
      | _ => simp only [cop] at e; cases e
    | @obj c C ad dx ns ds xs hc hH hn hr =>
      cases rb with
      | @obj c' C' ad' dx' ns' ds' xs' hc' hH' hn' hr' =>
        simp only [cop] at e
        split at e
        · rename_i hcc
          cases rx
          exact PySem.W.cmp_ofLt (cmp_own B I hc hH hn hr (.obj hc' hH' hn' hr') ry cr (eqOk_obj hcc) (show nm.mth 32 = "__lt__" from B.gf.cmn.2.1) e k)
        · cases e
      | _ => simp only [cop] at e; cases e
    | _ => cases rb <;> simp only [cop] at e <;> cases e
  | LtE =>
    cases ra with
    | int i =>
      cases rb with
      | int n => exact op_le pins s σ H _ _ v u Q I rx ry ⟨i, n, rfl, rfl, fin _ e⟩
      | _ => simp only [cop] at e; cases e
    | @obj c C ad dx ns ds xs hc hH hn hr =>
      cases rb with
      | @obj c' C' ad' dx' ns' ds' xs' hc' hH' hn' hr' =>
        simp only [cop] at e
        split at e
        · rename_i hcc
          cases rx
          exact PySem.W.cmp_ofLtE (cmp_own B I hc hH hn hr (.obj hc' hH' hn' hr') ry cr (eqOk_obj hcc) (show nm.mth 33 = "__le__" from B.gf.cmn.2.2.1) e k)
        · cases e
      | _ => simp only [cop] at e; cases e
    | _ => cases rb <;> simp only [cop] at e <;> cases e
  | Gt =>
    cases ra with
    | int i =>
      cases rb with
      | int n => exact op_gt pins s σ H _ _ v u Q I rx ry ⟨i, n, rfl, rfl, fin _ e⟩
      | _ => simp only [cop] at e; cases e
    | @obj c C ad dx ns ds xs hc hH hn hr =>
      cases rb with
      | @obj c' C' ad' dx' ns' ds' xs' hc' hH' hn' hr' =>
        simp only [cop] at e
        split at e
        · rename_i hcc
          cases rx
          exact PySem.W.cmp_ofGt (cmp_own B I hc hH hn hr (.obj hc' hH' hn' hr') ry cr (eqOk_obj hcc) (show nm.mth 34 = "__gt__" from B.gf.cmn.2.2.2.1) e k)
        · cases e
      | _ => simp only [cop] at e; cases e
    | _ => cases rb <;> simp only [cop] at e <;> cases e
  | GtE =>
    cases ra with
    | int i =>
      cases rb with
      | int n => exact op_ge pins s σ H _ _ v u Q I rx ry ⟨i, n, rfl, rfl, fin _ e⟩
      | _ => simp only [cop] at e; cases e
    | @obj c C ad dx ns ds xs hc hH hn hr =>
      cases rb with
      | @obj c' C' ad' dx' ns' ds' xs' hc' hH' hn' hr' =>
        simp only [cop] at e
        split at e
        · rename_i hcc
          cases rx
          exact PySem.W.cmp_ofGtE (cmp_own B I hc hH hn hr (.obj hc' hH' hn' hr') ry cr (eqOk_obj hcc) (show nm.mth 35 = "__ge__" from B.gf.cmn.2.2.2.2.1) e k)
        · cases e
      | _ => simp only [cop] at e; cases e
    | _ => cases rb <;> simp only [cop] at e <;> cases e
  | Eq =>
    have dat : ∀ k', deq a b = some k' → (Out.ok (D.bl k') μ : Out D) = .ok d μ' → wpAny (model X.prog X.w) X.A (compareOp .Eq v u) (EP X pins σ Q) X.xe s := fun k' q1 q2 => by
      obtain ⟨x', y', h1, h2, h3, h4, h5⟩ := deq_of q1
      exact op_eqD B.room.units pins s σ H _ _ v u Q I rx ry ⟨x', y', ra.dp h1, rb.dp h2, h3, h4, by rw [h5]; exact fin _ q2⟩
    cases ra with
    | @obj c C ad dx ns ds xs hc hH hn hr =>
      simp only [cop] at e
      split at e
      · rename_i ho
        cases rx
        exact PySem.W.cmp_ofEq (cmp_own B I hc hH hn hr rb ry cr ho (show nm.mth 30 = "__eq__" from B.gf.cmn.1) e k)
      · cases e
    | _ =>
      simp only [cop] at e
      split at e
      · rename_i k' q
        exact dat k' q e
      · cases e
  | NotEq =>
    have dat : ∀ k', deq a b = some k' → (Out.ok (D.bl (!k')) μ : Out D) = .ok d μ' → wpAny (model X.prog X.w) X.A (compareOp .NotEq v u) (EP X pins σ Q) X.xe s := fun k' q1 q2 => by
      obtain ⟨x', y', h1, h2, h3, h4, h5⟩ := deq_of q1
      exact op_neD B.room.units pins s σ H _ _ v u Q I rx ry ⟨x', y', ra.dp h1, rb.dp h2, h3, h4, by rw [h5]; exact fin _ q2⟩
    cases ra with
    | @obj c C ad dx ns ds xs hc hH hn hr =>
      simp only [cop] at e
      split at e
      · rename_i ho
        cases rx
        obtain ⟨r0, μ1, e1, e2⟩ := Out.bind_eq_ok e
        obtain ⟨od, J⟩ := inst_of I hH
        have e1' := e1
        unfold callM at e1
        split at e1
        rotate_left
        · cases e1
        rename_i f hf
        have M := B.gf.mth c 30 f C ns hf hc
        have hs := M.at_
        rw [B.gf.cmn.1] at hs
        obtain ⟨tb, L, z⟩ := looks_of B hc I rb ry ho
        refine PySem.W.cmp_ofNotEq (ne_K (by have := B.room.un; omega) F I.mod.kin J L z (B.gf.neo c C ns hc) (B.gf.iso c C ns hc).2.2.2 hs M.fn ?_)
        refine wpAny_mono (run_in1 (us := [.ref ad, u]) (vs := [.ref ad, y]) (Q := fun v H1 => ∃ π1, Rp X.K cl H1 π1 r0 v ∧ Mv H π H1 π1 ∧ CR X.K cl H1 π1 μ1) B (B.ff.meth c 30 f hf) I (.cons rfl (.cons ry .nil)) (.cons (.obj hc hH hn hr) (.cons rb .nil)) cr e1 fun v H1 π1 a b c => ⟨π1, a, b, c⟩) (fun u s2 ⟨v2, H2, I2, r2, π2, a, b, c⟩ => ?_) fun _ _ z => z
        cases a with
        | bl kk =>
          cases r2
          simp only at e2
          cases e2
          exact ⟨kk, rfl, .bl _, H2, I2, rfl, k _ H2 π2 (.bl _) b c⟩
        | _ => simp only at e2; cases e2
      · cases e
    | _ =>
      simp only [cop] at e
      split at e
      · rename_i k' q
        exact dat k' q e
      · cases e
  | In =>
    cases rb with
    | @lst p xs vs hl hr =>
      simp only [cop] at e
      split at e
      · rename_i hf
        exact op_in_seq pins s σ H _ _ v u Q I rx ry ⟨p, vs, rfl, .inl hl.sq, flat_of ra hf.1, flats_of hr hf.2, by
          have z := any_of ra hf.1 hr hf.2
          rw [z] at e
          exact fin _ e⟩
      · cases e
    | @tup p xs vs hl hr =>
      simp only [cop] at e
      split at e
      · rename_i hf
        exact op_in_seq pins s σ H _ _ v u Q I rx ry ⟨p, vs, rfl, .inr hl, flat_of ra hf.1, flats_of hr hf.2, by
          have z := any_of ra hf.1 hr hf.2
          rw [z] at e
          exact fin _ e⟩
      · cases e
    | @obj c C ad dx ns ds xs hc hH hn hr =>
      simp only [cop] at e
      cases ry
      obtain ⟨od, J⟩ := inst_of I hH
      obtain ⟨o1, μ1, e1, e2⟩ := Out.bind_eq_ok e
      cases o1 with
      | bl kk =>
        cases e2
        obtain ⟨f, hf, M, w⟩ := run_meth (us := [.ref ad, v]) (vs := [.ref ad, x]) (Q := fun w' H' => ∃ b', w' = .bl b' ∧ Q (.bl b') H') B hc I (.cons rfl (.cons rx .nil)) (.cons (.obj hc hH hn hr) (.cons ra .nil)) cr e1
          (fun v' H' π' r' m' c' => by cases r'; exact ⟨kk, rfl, k _ H' π' (.bl kk) m' c'⟩)
        have hs := M.at_
        rw [B.gf.cmn.2.2.2.2.2] at hs
        refine PySem.W.in_K F I.mod.kin J hs M.fn (thn w fun u' s' h' => ?_)
        obtain ⟨v', H', I', r', b', ev, q'⟩ := h'
        subst ev
        cases r'
        exact wpAny_truthy_bool ⟨.bl b', H', I', rfl, q'⟩
      | _ => cases e2
    | _ => simp only [cop] at e; cases e
  | NotIn =>
    cases rb with
    | @lst p xs vs hl hr =>
      simp only [cop] at e
      split at e
      · rename_i hf
        exact op_notIn_seq pins s σ H _ _ v u Q I rx ry ⟨p, vs, rfl, .inl hl.sq, flat_of ra hf.1, flats_of hr hf.2, by
          have z := any_of ra hf.1 hr hf.2
          rw [z] at e
          exact fin _ e⟩
      · cases e
    | @tup p xs vs hl hr =>
      simp only [cop] at e
      split at e
      · rename_i hf
        exact op_notIn_seq pins s σ H _ _ v u Q I rx ry ⟨p, vs, rfl, .inr hl, flat_of ra hf.1, flats_of hr hf.2, by
          have z := any_of ra hf.1 hr hf.2
          rw [z] at e
          exact fin _ e⟩
      · cases e
    | @obj c C ad dx ns ds xs hc hH hn hr =>
      simp only [cop] at e
      cases ry
      obtain ⟨od, J⟩ := inst_of I hH
      obtain ⟨o1, μ1, e1, e2⟩ := Out.bind_eq_ok e
      cases o1 with
      | bl kk =>
        cases e2
        obtain ⟨f, hf, M, w⟩ := run_meth (us := [.ref ad, v]) (vs := [.ref ad, x]) (Q := fun w' H' => ∃ b', w' = .bl b' ∧ Q (.bl (!b')) H') B hc I (.cons rfl (.cons rx .nil)) (.cons (.obj hc hH hn hr) (.cons ra .nil)) cr e1
          (fun v' H' π' r' m' c' => by cases r'; exact ⟨kk, rfl, k _ H' π' (.bl _) m' c'⟩)
        have hs := M.at_
        rw [B.gf.cmn.2.2.2.2.2] at hs
        refine PySem.W.notIn_K F I.mod.kin J hs M.fn (thn w fun u' s' h' => ?_)
        obtain ⟨v', H', I', r', b', ev, q'⟩ := h'
        subst ev
        cases r'
        exact wpAny_truthy_bool ⟨.bl (!b'), H', I', rfl, q'⟩
      | _ => cases e2
    | _ => simp only [cop] at e; cases e
  | Is => simp only [cop] at e; cases e
  | IsNot => simp only [cop] at e; cases e
end
end Vw
set_option Elab.async false
set_option linter.all false
set_option maxRecDepth 100000
set_option maxHeartbeats 4000000
namespace Vw
open PySem PySem.Spec L2
def plainX : Expr → Bool
  | .Starred .. => false
  | _ => true
theorem star_cons {e : Expr} {es : List Expr} {env : Env} (h : plainX e = true) : starEach (e :: es) env = (false, eval e env) :: starEach es env := by
  cases e <;> first | rfl | cases h
theorem star_all {env : Env} : ∀ {es : List Expr} {pos : Pos}, es.all plainX = true → (backTo pos (starEach es env)).any (·.1) = false
  | [], _, _ => rfl
  | e :: es, pos, h => by
    rw [List.all_cons, Bool.and_eq_true] at h
    rw [star_cons h.1]
    show (false || (backTo pos (starEach es env)).any (·.1)) = false
    rw [star_all h.2]; rfl
def plainT : Expr → Bool
  | .UnaryOp .Not _ _ => false
  | .BoolOp .. => false
  | .IfExp .. => false
  | .Compare .. => false
  | _ => true
theorem isTrue_of {e : Expr} {env : Env} (h : plainT e = true) (whole : Sem Value) : isTrue e env whole = (do let v ← whole; standAt e.pos; holding [v] (truthy v)) := by
  cases e with
  | UnaryOp op x p => cases op <;> first | rfl | cases h
  | BoolOp => cases h
  | IfExp => cases h
  | Compare => cases h
  | _ => rfl
def plainA : Expr → Bool
  | .Call (.Name _ _) [] [] _ => false
  | _ => true
theorem attr_plain {e : Expr} {f : Str} {env : Env} (h : plainA e = true) : attributeBase e f env (eval e env) = eval e env := by
  unfold attributeBase
  split
  · cases h
  · rfl
def plainS : Expr → Bool
  | .Slice .. => false
  | _ => true
theorem subs_plain {e : Expr} (h : plainS e = true) : PlainIx e := fun o i => by
  cases e <;> first | rfl | cases h
def plainM : Expr → Bool
  | .Set .. => false
  | _ => true
theorem mark_plain {e : Expr} {op : CmpOp} (h : plainM e = true) : behindInMarks op e = false := by
  cases e <;> first | rfl | cases h
def plainF : Expr → Bool
  | .Name .. => false
  | .Attribute .. => false
  | _ => true
def negK (c : Int) : Expr → Bool
  | .UnaryOp .USub (.Constant (.int k) _ _) _ => decide (c = -k)
  | _ => false
def visB (sc : Scope) (x : Str) : Bool := match sc.names.lookup x with
  | some .local => true
  | some .cell => true
  | some .free => true
  | _ => false
theorem vis_of {sc : Scope} {x : Str} (h : visB sc x = true) : Vis sc x := by
  unfold visB at h
  unfold Vis
  split at h <;> first | (rename_i q; simp [q]; done) | cases h
def gloB (sc : Scope) (x : Str) : Bool := match sc.names.lookup x with
  | some .globalImplicit => true
  | _ => false
theorem glo_of {sc : Scope} {x : Str} (h : gloB sc x = true) : sc.names.lookup x = some .globalImplicit := by
  unfold gloB at h
  split at h <;> first | assumption | cases h
def nmB (N : List Str) (sc : Scope) (i : Nat) (x : Str) : Bool := decide (N[i]? = some x) && visB sc x && !(x == ("__debug__" : Str)) && !(x == ("__classdict__" : Str))
def glB (sc : Scope) (x y : Str) : Bool := decide (x = y) && gloB sc x && !(x == ("__debug__" : Str))
def bltN : Blt → Str
  | .len => "len" | .abs => "abs" | .int => "int" | .tuple => "tuple" | .list => "list" | .divmod => "divmod" | .all => "all" | .min2 => "min" | .max2 => "max" | .lcm => "lcm" | .str => "str" | .strD => "str" | .repr => "repr" | .maxL => "max" | .minL => "min" | .sumL => "sum"
  | _ => "isinstance"
def isB (nm : Nm) (sc : Scope) : Blt → Expr → Bool
  | .isInt, .Name x _ => glB sc x "int"
  | .isBool, .Name x _ => glB sc x "bool"
  | .isTup, .Name x _ => glB sc x "tuple"
  | .isObj c, .Name x _ => glB sc x (nm.cls c)
  | _, _ => false
def hasB (P : Pr) : Blt → Bool
  | .isObj c => (P.init c).isSome
  | _ => true
def notRp : Blt → Bool
  | .repr => false | .strD => false
  | _ => true
def isIs : Blt → Bool
  | .isInt => true | .isBool => true | .isTup => true | .isStr => true | .isObj _ => true
  | _ => false
def locB (sc : Scope) (x : Str) : Bool := match sc.names.lookup x with
  | some .local => true
  | some .cell => true
  | _ => false
theorem loc_of {sc : Scope} {x : Str} (h : locB sc x = true) : L2.Loc sc x := by
  unfold locB at h
  unfold L2.Loc
  split at h <;> first | (rename_i q; simp [q]; done) | cases h
def chkd : List Str → List (Option Expr) → Bool
  | [], [] => true
  | k :: ks, some (.Constant (.str x) _ _) :: xs => decide (k = x) && chkd ks xs
  | _, _ => false
section
variable (nm : Nm) (P : Pr) (gl : Nat → Bool)
def chkN (N : List Str) (sc : Scope) (fnc : Str → Bool) (i : Nat) : Expr → Bool
  | .Name x _ => decide (N[i]? = some x) && locB sc x && (fnc x || (match sc.names.lookup x with | some .local => true | _ => false))
  | _ => false
def chkNs (N : List Str) (sc : Scope) (fnc : Str → Bool) : List Nat → List Expr → Bool
  | [], [] => true
  | i :: is, x :: xs => chkN N sc fnc i x && chkNs N sc fnc is xs
  | _, _ => false
def chkT (N : List Str) (sc : Scope) (fnc : Str → Bool) : Tg → Expr → Bool
  | .nm i, x => chkN N sc fnc i x
  | .tp is, .Tuple xs _ _ => chkNs N sc fnc is xs
  | _, _ => false
def tgIs : Tg → List Nat
  | .nm i => [i]
  | .tp is => is
def blkS (scope sc : Scope) : Scope := relS scope sc
def ownOk (N : List Str) (sc scope : Scope) (own : List Nat) : Bool := blkC N sc scope (own.map fun i => (N.getD i Str.empty, i))
mutual
def chk (N : List Str) (sc : Scope) : E → Expr → Bool
  | .var i, .Name x _ => nmB N sc i x
  | .int i, .Constant (.int k) _ _ => decide (i = k)
  | .bl b, .Constant (.bool k) _ _ => b == k
  | .non, .Constant .none _ _ => true
  | .str s, .Constant (.str k) _ _ => decide (s = k)
  | .con g, .Name x _ => glB sc x (nm.con g)
  | .bin op a b, .BinOp x op' y _ => decide (op = op') && chk N sc a x && chk N sc b y
  | .un op a, .UnaryOp op' x _ => decide (op = op') && !decide (op = .Not) && chk N sc a x
  | .cmp op a b, .Compare x [op'] [y] _ => decide (op = op') && plainM y && chk N sc a x && chk N sc b y
  | .chain op op2 a b c, .Compare x [o1, o2] [y, z] _ => decide (op = o1) && decide (op2 = o2) && plainM y && plainM z && chk N sc a x && chk N sc b y && chk N sc c z
  | .isN a, .Compare x [.Is] [.Constant .none _ _] _ => chk N sc a x
  | .notN a, .Compare x [.IsNot] [.Constant .none _ _] _ => chk N sc a x
  | .and a b, .BoolOp .And (x :: y :: r) pos => chk N sc a x && chk N sc b (.BoolOp .And (y :: r) pos)
  | .or a b, .BoolOp .Or (x :: y :: r) pos => chk N sc a x && chk N sc b (.BoolOp .Or (y :: r) pos)
  | .one a, .BoolOp _ [x] _ => chk N sc a x
  | .not a, .UnaryOp .Not x _ => chk N sc a x
  | .ife c a b, .IfExp z x y _ => chk N sc c z && chk N sc a x && chk N sc b y
  | .tup es, .Tuple xs _ _ => chkq N sc es xs
  | .lst es, .List xs _ => chkq N sc es xs
  | .rev a, .Subscript x (.Slice none none (some (.UnaryOp .USub (.Constant (.int 1) _ _) _)) _) _ => chk N sc a x
  | .stat f as, .Call (.Attribute (.Name x _) n ap) (y :: xs) [] pos => (match P.sta f with | some (c, m) => glB sc x (nm.cls c) && decide (nm.mth m = n) && (ap.endLine == pos.line) && decide ((y :: xs).length < 29) && chks N sc as (y :: xs) | none => false)
  | .meth o m as, .Call (.Attribute x n ap) (y :: xs) [] pos => decide (nm.mth m = n) && plainA x && (ap.endLine == pos.line) && decide ((y :: xs).length < 29) && chk N sc o x && chks N sc as (y :: xs)
  | .ix a b, .Subscript x y _ => plainS y && chk N sc a x && chk N sc b y
  | .sl a lo hi, .Subscript x (.Slice l h none _) _ => chk N sc a x && chko N sc lo l && chko N sc hi h
  | .call f as, .Call (.Name x _) xs [] _ => gl f && glB sc x (nm.fn f) && chks N sc as xs
  | .fld o f, .Attribute x n _ => decide (nm.mth f = n) && plainA x && chk N sc o x
  | .new c as, .Call (.Name x _) (y :: xs) [] _ => glB sc x (nm.cls c) && chks N sc as (y :: xs)
  | .app i as, .Call (.Name x _) (y :: xs) [] _ => nmB N sc i x && chks N sc as (y :: xs)
  | .blt b as, .Call (.Name x _) xs [] _ => glB sc x (bltN b) && (if isIs b then (match xs with
      | [y, z] => chks N sc as [y] && isB nm sc b z && hasB P b
      | _ => false) else !xs.isEmpty && (nm.rp || notRp b) && chks N sc as xs)
  | .lc own t it c e, .ListComp elt [⟨tg, iter, ifs, 0⟩] scope _ => ownOk N sc scope own && (tgIs t).all (fun i => own.contains i) && chki N sc it tg iter && chkT N (blkS scope sc) (fun x => scope.names.lookup x == some .cell) t tg && chkc N (blkS scope sc) c ifs && chk N (blkS scope sc) e elt
  | .dget o key, .Subscript x (.Constant (.str k) _ _) _ => decide (key = k) && chk N sc o x
  | .dict keys es, .Dict ks xs _ => chkd keys ks && chks N sc es xs && decide (keys.length = xs.length)
  | .oix i b, .Subscript (.Name x _) y _ => nmB N sc i x && plainS y && chk N sc b y
  | .olen i, .Call (.Name x _) [.Name y _] [] _ => glB sc x "len" && nmB N sc i y
  | .appE o as, .Call x (y :: xs) [] _ => plainF x && chk N sc o x && chks N sc as (y :: xs)
  | .lc2 own t it own2 t2 it2 e, .ListComp elt [⟨tg, iter, [], 0⟩, ⟨tg2, iter2, [], 0⟩] scope _ => ownOk N sc scope own && (tgIs t).all (fun i => own.contains i) && own2.all (fun i => own.contains i) && (tgIs t2).all (fun i => own2.contains i) && chki N sc it tg iter && chkT N (blkS scope sc) (fun x => scope.names.lookup x == some .cell) t tg && chki N (blkS scope sc) it2 tg2 iter2 && chkT N (blkS scope sc) (fun x => scope.names.lookup x == some .cell) t2 tg2 && chk N (blkS scope sc) e elt
  | .zfill o a, .Call (.Attribute x n ap) [y] [] pos => decide (n = "zfill") && plainA x && (ap.endLine == pos.line) && plainX y && chk N sc o x && chk N sc a y
  | .join o a, .Call (.Attribute x n ap) [y] [] pos => decide (n = "join") && plainA x && (ap.endLine == pos.line) && plainX y && chk N sc o x && chk N sc a y
  | .fs es, .JoinedStr (x1 :: x2 :: xs) _ => chkf N sc es (x1 :: x2 :: xs)
  | _, _ => false
def chkf (N : List Str) (sc : Scope) : Es → List Expr → Bool
  | .nil, [] => true
  | .cons e es, .Constant (.str z) _ _ :: xs => (match e with | .str y => decide (y = z) | _ => false) && chkf N sc es xs
  | .cons e es, .FormattedValue x c none _ :: xs => decide (c = -1) && chk N sc e x && chkf N sc es xs
  | _, _ => false
def chkq (N : List Str) (sc : Scope) : Es → List Expr → Bool
  | .nil, [] => true
  | .cons e es, x :: xs => plainX x && chk N sc e x && chkq N sc es xs
  | .star e es, .Starred x _ :: xs => chk N sc e x && chkq N sc es xs
  | _, _ => false
def chks (N : List Str) (sc : Scope) : Es → List Expr → Bool
  | .nil, [] => true
  | .cons e es, x :: xs => plainX x && chk N sc e x && chks N sc es xs
  | _, _ => false
def chko (N : List Str) (sc : Scope) : Oe → Option Expr → Bool
  | .none, none => true
  | .some e, some x => chk N sc e x
  | _, _ => false
def chkc (N : List Str) (sc : Scope) : Oe → List Expr → Bool
  | .none, [] => true
  | .some e, [x] => chk N sc e x
  | _, _ => false
def chki (N : List Str) (sc : Scope) : It → Expr → Expr → Bool
  | .r1 a, _, .Call (.Name x _) [y] [] _ => glB sc x "range" && plainX y && chk N sc a y
  | .r2 a b, _, .Call (.Name x _) [y, z] [] _ => glB sc x "range" && plainX y && plainX z && chk N sc a y && chk N sc b z
  | .r3 a b c, _, .Call (.Name x _) [y, z, u] [] _ => glB sc x "range" && plainX y && plainX z && negK c u && chk N sc a y && chk N sc b z
  | .enum e, .Tuple _ _ _, .Call (.Name x _) [y] [] _ => glB sc x "enumerate" && plainX y && chk N sc e y
  | .zip a b, .Tuple _ _ _, .Call (.Name x _) [y, z] [] _ => glB sc x "zip" && plainX y && plainX z && chk N sc a y && chk N sc b z
  | .zip3 a b c, .Tuple _ _ _, .Call (.Name x _) [y, z, u] [] _ => glB sc x "zip" && plainX y && plainX z && plainX u && chk N sc a y && chk N sc b z && chk N sc c u
  | .seq e, _, x => plainM x && chk N sc e x
  | _, _, _ => false
end
end
section
variable {X : Cx} {nm : Nm} {P : Pr} {Γ : Gam} {cl : Cls0} {fa : Fa} {gl df : Nat → Bool} {j : Nat} {H0 : Hp}
structure Snd (X : Cx) (cl : Cls0) (H0 : Hp) (x : Expr) (r : Rho → Mu → Out D) : Prop where
  pe : PE X x (LE X.K cl H0 r)
  pt : PT X x (LT X.K cl H0 r)
theorem Snd.of {x : Expr} {r : Rho → Mu → Out D} (h : PE X x (LE X.K cl H0 r)) (hp : plainT x = true) : Snd X cl H0 x r :=
  ⟨h, PT.of (pt_val h (isTrue_of hp)) fun σ H Q ⟨ρ, μ, π, b, μ', rs, cr, e, k⟩ => ⟨ρ, μ, π, .bl b, μ', rs, cr, e, fun v H' π' rp m c => by
    cases rp
    exact ⟨b, rfl, k H' π' m c⟩⟩⟩
theorem LE.val {r : Rho → Mu → Out D} {σ : L2.St} {H : Hp} {Q : VK} {f : D → Mu → Out D} {R : V → Hp → VK → Prop} (h : LE X.K cl H0 (fun ρ μ => (r ρ μ).bind f) σ H Q)
    (hR : ∀ a μ1 d μ' v1 H1 π1 (Q' : VK), Rp X.K cl H1 π1 a v1 → CR X.K cl H1 π1 μ1 → f a μ1 = .ok d μ' → (∀ v H' π', Rp X.K cl H' π' d v → Mv H1 π1 H' π' → CR X.K cl H' π' μ' → Q' v H') → R v1 H1 Q') :
    LE X.K cl H0 r σ H fun v H1 => R v H1 Q := by
  obtain ⟨ρ, μ, π, d, μ', rs, cr, e, k⟩ := h
  obtain ⟨a, μ1, ea, e⟩ := Out.bind_eq_ok e
  exact ⟨ρ, μ, π, a, μ1, rs, cr, ea, fun v1 H1 π1 r1 m1 c1 => hR a μ1 d μ' v1 H1 π1 Q r1 c1 e fun v H' π' rr m c => k v H' π' rr (m1.trans m) c⟩
theorem nmB_of {N : List Str} {sc : Scope} {i : Nat} {x : Str} (h : nmB N sc i x = true) : N[i]? = some x ∧ Vis sc x ∧ (x == ("__debug__" : Str)) = false ∧ (x == ("__classdict__" : Str)) = false := by
  unfold nmB at h
  simp only [Bool.and_eq_true, decide_eq_true_eq, Bool.not_eq_true'] at h
  exact ⟨h.1.1.1, vis_of h.1.1.2, h.1.2, h.2⟩
theorem glB_of {sc : Scope} {x y : Str} (h : glB sc x y = true) : x = y ∧ sc.names.lookup x = some .globalImplicit ∧ (x == ("__debug__" : Str)) = false := by
  unfold glB at h
  simp only [Bool.and_eq_true, decide_eq_true_eq, Bool.not_eq_true'] at h
  exact ⟨h.1.1, glo_of h.1.2, h.2⟩
theorem snd_var {N : List Str} {sc : Scope} {i : Nat} {x : Str} {pos : Pos} (hN : X.N = N) (hs : X.env.scope = sc) (h : nmB N sc i x = true) : Snd X cl H0 (.Name x pos) (fun ρ μ => ev P Γ (.var i) ρ μ) := by
  obtain ⟨h1, h2, h3, h4⟩ := nmB_of h
  refine .of (PE.of (pe_var (i := i) (by rw [hN]; exact h1) (by rw [hs]; exact h2) h3 h4) fun σ H Q ⟨ρ, μ, π, d, μ', rs, cr, e, k⟩ => ?_) rfl
  simp only [ev] at e
  split at e
  · rename_i d' q
    cases e
    obtain ⟨v, e1, e2⟩ := rs.val i d q
    exact ⟨v, e1, k v H π e2 (Mv.refl cr.ok) cr⟩
  · cases e
theorem snd_c {x : Expr} {d : D} {v : V} (h : PE X x (tC v)) (hp : plainT x = true) (hd : ∀ H π, Rp X.K cl H π d v) : Snd X cl H0 x (fun _ μ => .ok d μ) :=
  .of (PE.of h fun σ H Q ⟨ρ, μ, π, d', μ', rs, cr, e, k⟩ => by
    cases e
    exact k v H π (hd H π) (Mv.refl cr.ok) cr) hp
theorem snd_con {sc : Scope} {g : Nat} {x : Str} {pos : Pos} (hs : X.env.scope = sc) (B : Bd X nm P Γ cl fa gl df j) (h : glB sc x (nm.con g) = true) : Snd X cl H0 (.Name x pos) (fun ρ μ => ev P Γ (.con g) ρ μ) := by
  obtain ⟨h1, h2, h3⟩ := glB_of h
  cases q : P.con g with
  | none =>
    refine .of ⟨fun pins s σ H Q I hw => ?_⟩ rfl
    obtain ⟨ρ, μ, π, d, μ', rs, cr, e, k⟩ := hw
    simp only [ev, q] at e
    cases e
  | some i =>
    obtain ⟨t, ht⟩ := B.gf.con g i q
    refine .of (PE.of (pe_glob (v := .int i) (show Gl X x from by show X.env.scope.names.lookup x = _; rw [hs]; exact h2) (by rw [h1]; exact ht) ⟨t, rfl⟩ h3) fun σ H Q ⟨ρ, μ, π, d, μ', rs, cr, e, k⟩ => ?_) rfl
    simp only [ev, q] at e
    cases e
    exact k _ H π (.int i) (Mv.refl cr.ok) cr
theorem snd_bin {op : Operator} {a b : E} {x y : Expr} {pos : Pos} (B : Bd X nm P Γ cl fa gl df j) (ha : Snd X cl H0 x (ev P Γ a)) (hb : Snd X cl H0 y (ev P Γ b)) : Snd X cl H0 (.BinOp x op y pos) (ev P Γ (.bin op a b)) :=
  .of (PE.of (pe_op (op_bin B op) ha.pe hb.pe) fun σ H Q h => LE.bin (by
    obtain ⟨ρ, μ, π, d, μ', rs, cr, e, k⟩ := h
    exact ⟨ρ, μ, π, d, μ', rs, cr, by simp only [ev] at e; exact e, k⟩)) rfl
theorem snd_un {op : UnaryOp} {a : E} {x : Expr} {pos : Pos} (B : Bd X nm P Γ cl fa gl df j) (hn : op ≠ .Not) (ha : Snd X cl H0 x (ev P Γ a)) : Snd X cl H0 (.UnaryOp op x pos) (ev P Γ (.un op a)) :=
  .of (PE.of (pe_un (op_un B op) ha.pe) fun σ H Q h => LE.un (f := uop P Γ op) (by
    obtain ⟨ρ, μ, π, d, μ', rs, cr, e, k⟩ := h
    exact ⟨ρ, μ, π, d, μ', rs, cr, by simp only [ev] at e; exact e, k⟩)) (by cases op <;> first | rfl | exact absurd rfl hn)
theorem tt_of {t : TE} {r : Rho → Mu → Out D} {f : TE} (h : ∀ σ H Q, LE X.K cl H0 r σ H Q → t σ H Q) : ∀ σ H (Q : Bool → Hp → Prop), LT X.K cl H0 r σ H Q → tTest t σ H Q := fun σ H Q ⟨ρ, μ, π, b, μ', rs, cr, e, k⟩ =>
  h σ H _ ⟨ρ, μ, π, .bl b, μ', rs, cr, e, fun v H' π' rp m c => by
    cases rp
    exact ⟨b, rfl, k H' π' m c⟩⟩
theorem snd_cmp {op : CmpOp} {a b : E} {x y : Expr} {pos : Pos} (B : Bd X nm P Γ cl fa gl df j) (hm : plainM y = true) (ha : Snd X cl H0 x (ev P Γ a)) (hb : Snd X cl H0 y (ev P Γ b)) : Snd X cl H0 (.Compare x [op] [y] pos) (ev P Γ (.cmp op a b)) := by
  have z : ∀ σ H Q, LE X.K cl H0 (ev P Γ (.cmp op a b)) σ H Q → tOp (RR X.K cl (cop P Γ op)) (LE X.K cl H0 (ev P Γ a)) (LE X.K cl H0 (ev P Γ b)) σ H Q := fun σ H Q ⟨ρ, μ, π, d, μ', rs, cr, e, k⟩ =>
    LE.bin ⟨ρ, μ, π, d, μ', rs, cr, by simp only [ev] at e; exact e, k⟩
  exact ⟨PE.of (pe_cmpR (op_cmp B op) ha.pe hb.pe (mark_plain hm)) z, PT.of (pt_cmpR (op_cmp B op) ha.pe hb.pe (mark_plain hm)) (tt_of (f := LE X.K cl H0 (ev P Γ a)) z)⟩
theorem snd_chain {op op2 : CmpOp} {a b c : E} {x y z : Expr} {pos : Pos} (B : Bd X nm P Γ cl fa gl df j) (hm : plainM y = true) (hm2 : plainM z = true) (ha : Snd X cl H0 x (ev P Γ a)) (hb : Snd X cl H0 y (ev P Γ b)) (hc : Snd X cl H0 z (ev P Γ c)) :
    Snd X cl H0 (.Compare x [op, op2] [y, z] pos) (ev P Γ (.chain op op2 a b c)) := by
  have zz : ∀ σ H Q, LE X.K cl H0 (ev P Γ (.chain op op2 a b c)) σ H Q → tChain (RR X.K cl (cop P Γ op)) (RR X.K cl (cop P Γ op2)) (LE X.K cl H0 (ev P Γ a)) (LE X.K cl H0 (ev P Γ b)) (LE X.K cl H0 (ev P Γ c)) σ H Q := fun σ H Q ⟨ρ, μ, π, d, μ', rs, cr, e, k⟩ => by
    simp only [ev] at e
    obtain ⟨d1, μ1, e1, e⟩ := Out.bind_eq_ok e
    obtain ⟨d2, μ2, e2, e⟩ := Out.bind_eq_ok e
    obtain ⟨d3, μ3, e3, e⟩ := Out.bind_eq_ok e
    refine ⟨ρ, μ, π, d1, μ1, rs, cr, e1, fun v1 H1 π1 r1 m1 c1 => ⟨ρ, μ1, π1, d2, μ2, rs.mv cr.ok m1, c1, e2, fun v2 H2 π2 r2 m2 c2 => ⟨d1, d2, μ2, π2, d3, μ3, r1.mv c1.ok m2, r2, c2, e3, fun v3 H3 π3 r3 m3 c3 => ?_⟩⟩⟩
    cases r3 with
    | bl kk =>
      refine ⟨kk, rfl, ?_⟩
      cases kk with
      | true =>
        obtain ⟨d4, μ4, e4, e⟩ := Out.bind_eq_ok e
        exact iteT ⟨ρ, μ3, π3, d4, μ4, (rs.mv cr.ok (m1.trans (m2.trans m3))), c3, e4, fun v4 H4 π4 r4 m4 c4 => ⟨d2, d4, μ4, π4, d, μ', (r2.mv c2.ok m3).mv c3.ok m4, r4, c4, e, fun v H' π' r m c => k v H' π' r ((((m1.trans m2).trans m3).trans m4).trans m) c⟩⟩
      | false =>
        cases e
        exact iteF (k _ H3 π3 (.bl false) ((m1.trans m2).trans m3) c3)
    | _ => cases e
  exact ⟨PE.of (pe_chain (op_cmp B op) (op_cmp B op2) ha.pe hb.pe hc.pe (mark_plain hm2)) zz, PT.of (pt_chain (op_cmp B op) (op_cmp B op2) ha.pe hb.pe hc.pe (mark_plain hm2)) (tt_of (f := LE X.K cl H0 (ev P Γ a)) zz)⟩
theorem snd_isN {a : E} {x : Expr} {pos p2 : Pos} {k2 : Nat} (ha : Snd X cl H0 x (ev P Γ a)) : Snd X cl H0 (.Compare x [.Is] [.Constant .none k2 p2] pos) (ev P Γ (.isN a)) := by
  have z : ∀ σ H Q, LE X.K cl H0 (ev P Γ (.isN a)) σ H Q → tIsN (LE X.K cl H0 (ev P Γ a)) σ H Q := fun σ H Q ⟨ρ, μ, π, d, μ', rs, cr, e, k⟩ => by
    simp only [ev] at e
    obtain ⟨d1, μ1, e1, e⟩ := Out.bind_eq_ok e
    refine ⟨ρ, μ, π, d1, μ1, rs, cr, e1, fun v1 H1 π1 r1 m1 c1 => ?_⟩
    cases e
    cases r1 <;> exact k _ H1 π1 (.bl _) m1 c1
  exact ⟨PE.of (pe_cmp (pc_isN ha.pe) rfl) z, PT.of (pt_cmp (pc_isN ha.pe) rfl) (tt_of (f := LE X.K cl H0 (ev P Γ a)) z)⟩
theorem snd_notN {a : E} {x : Expr} {pos p2 : Pos} {k2 : Nat} (ha : Snd X cl H0 x (ev P Γ a)) : Snd X cl H0 (.Compare x [.IsNot] [.Constant .none k2 p2] pos) (ev P Γ (.notN a)) := by
  have z : ∀ σ H Q, LE X.K cl H0 (ev P Γ (.notN a)) σ H Q → tNotN (LE X.K cl H0 (ev P Γ a)) σ H Q := fun σ H Q ⟨ρ, μ, π, d, μ', rs, cr, e, k⟩ => by
    simp only [ev] at e
    obtain ⟨d1, μ1, e1, e⟩ := Out.bind_eq_ok e
    refine ⟨ρ, μ, π, d1, μ1, rs, cr, e1, fun v1 H1 π1 r1 m1 c1 => ?_⟩
    cases e
    cases r1 <;> exact k _ H1 π1 (.bl _) m1 c1
  exact ⟨PE.of (pe_cmp (pc_notN ha.pe) rfl) z, PT.of (pt_cmp (pc_notN ha.pe) rfl) (tt_of (f := LE X.K cl H0 (ev P Γ a)) z)⟩
structure SndW (X : Cx) (cl : Cls0) (H0 : Hp) (x : Expr) (r : Rho → Mu → Out D) : Prop where
  pe : PE X x (LE X.K cl H0 r)
  pw : PW X x (LT X.K cl H0 r)
theorem SndW.snd {x : Expr} {r : Rho → Mu → Out D} (h : SndW X cl H0 x r) : Snd X cl H0 x r := ⟨h.pe, h.pw.pt⟩
theorem PW.of {X : Cx} {e : Expr} {t t' : TT} (h : PW X e t) (k : ∀ σ H Q, t' σ H Q → t σ H Q) : PW X e t' := ⟨fun wh pins s σ H Q I q => h.run wh pins s σ H Q I (k σ H Q q)⟩
theorem snd_one {op : BoolOp} {a : E} {x : Expr} {pos : Pos} (ha : Snd X cl H0 x (ev P Γ a)) : SndW X cl H0 (.BoolOp op [x] pos) (ev P Γ (.one a)) := by
  have zt : ∀ σ H (Q : Bool → Hp → Prop), LT X.K cl H0 (ev P Γ (.one a)) σ H Q → LT X.K cl H0 (ev P Γ a) σ H Q := fun σ H Q ⟨ρ, μ, π, b, μ', rs, cr, e, k⟩ => by
    simp only [ev] at e
    obtain ⟨d1, μ1, e1, e⟩ := Out.bind_eq_ok e
    cases d1 with
    | bl kk => cases e; exact ⟨ρ, μ, π, _, _, rs, cr, e1, k⟩
    | _ => cases e
  refine ⟨PE.of (pe_one ha.pe) fun σ H Q ⟨ρ, μ, π, d, μ', rs, cr, e, k⟩ => ?_, ?_⟩
  · simp only [ev] at e
    obtain ⟨d1, μ1, e1, e⟩ := Out.bind_eq_ok e
    cases d1 with
    | bl kk => cases e; exact ⟨ρ, μ, π, _, _, rs, cr, e1, k⟩
    | _ => cases e
  · cases op
    · exact PW.of (pw_and1 ha.pt) zt
    · exact PW.of (pw_or1 ha.pt) zt
theorem snd_and {a b : E} {x y : Expr} {r : List Expr} {pos : Pos} (ha : Snd X cl H0 x (ev P Γ a)) (hb : SndW X cl H0 (.BoolOp .And (y :: r) pos) (ev P Γ b)) : SndW X cl H0 (.BoolOp .And (x :: y :: r) pos) (ev P Γ (.and a b)) := by
  refine ⟨PE.of (pe_and ha.pe hb.pe) fun σ H Q ⟨ρ, μ, π, d, μ', rs, cr, e, k⟩ => ?_, PW.of (pw_and ha.pt hb.pw) fun σ H Q ⟨ρ, μ, π, d, μ', rs, cr, e, k⟩ => ?_⟩
  · simp only [ev] at e
    obtain ⟨d1, μ1, e1, e⟩ := Out.bind_eq_ok e
    refine ⟨ρ, μ, π, d1, μ1, rs, cr, e1, fun v1 H1 π1 r1 m1 c1 => ?_⟩
    cases r1 with
    | bl kk =>
      refine ⟨kk, rfl, ?_⟩
      cases kk with
      | true => exact iteT ⟨ρ, μ1, π1, d, μ', rs.mv cr.ok m1, c1, e, fun v H' π' r m c => k v H' π' r (m1.trans m) c⟩
      | false => cases e; exact iteF (k _ H1 π1 (.bl false) m1 c1)
    | _ => cases e
  · simp only [ev] at e
    obtain ⟨d1, μ1, e1, e⟩ := Out.bind_eq_ok e
    cases d1 with
    | bl kk =>
      refine ⟨ρ, μ, π, kk, μ1, rs, cr, e1, fun H1 π1 m1 c1 => ?_⟩
      cases kk with
      | true => exact iteT ⟨ρ, μ1, π1, d, μ', rs.mv cr.ok m1, c1, e, fun H' π' m c => k H' π' (m1.trans m) c⟩
      | false => cases e; exact iteF (k H1 π1 m1 c1)
    | _ => cases e
theorem snd_or {a b : E} {x y : Expr} {r : List Expr} {pos : Pos} (ha : Snd X cl H0 x (ev P Γ a)) (hb : SndW X cl H0 (.BoolOp .Or (y :: r) pos) (ev P Γ b)) : SndW X cl H0 (.BoolOp .Or (x :: y :: r) pos) (ev P Γ (.or a b)) := by
  refine ⟨PE.of (pe_or ha.pe hb.pe) fun σ H Q ⟨ρ, μ, π, d, μ', rs, cr, e, k⟩ => ?_, PW.of (pw_or ha.pt hb.pw) fun σ H Q ⟨ρ, μ, π, d, μ', rs, cr, e, k⟩ => ?_⟩
  · simp only [ev] at e
    obtain ⟨d1, μ1, e1, e⟩ := Out.bind_eq_ok e
    refine ⟨ρ, μ, π, d1, μ1, rs, cr, e1, fun v1 H1 π1 r1 m1 c1 => ?_⟩
    cases r1 with
    | bl kk =>
      refine ⟨kk, rfl, ?_⟩
      cases kk with
      | true => cases e; exact iteT (k _ H1 π1 (.bl true) m1 c1)
      | false => exact iteF ⟨ρ, μ1, π1, d, μ', rs.mv cr.ok m1, c1, e, fun v H' π' r m c => k v H' π' r (m1.trans m) c⟩
    | _ => cases e
  · simp only [ev] at e
    obtain ⟨d1, μ1, e1, e⟩ := Out.bind_eq_ok e
    cases d1 with
    | bl kk =>
      refine ⟨ρ, μ, π, kk, μ1, rs, cr, e1, fun H1 π1 m1 c1 => ?_⟩
      cases kk with
      | true => cases e; exact iteT (k H1 π1 m1 c1)
      | false => exact iteF ⟨ρ, μ1, π1, d, μ', rs.mv cr.ok m1, c1, e, fun H' π' m c => k H' π' (m1.trans m) c⟩
    | _ => cases e
theorem snd_not {a : E} {x : Expr} {pos : Pos} (ha : Snd X cl H0 x (ev P Γ a)) : Snd X cl H0 (.UnaryOp .Not x pos) (ev P Γ (.not a)) := by
  refine ⟨PE.of (pe_not ha.pe) fun σ H Q ⟨ρ, μ, π, d, μ', rs, cr, e, k⟩ => ?_, PT.of (pt_not ha.pt) fun σ H Q ⟨ρ, μ, π, d, μ', rs, cr, e, k⟩ => ?_⟩
  · simp only [ev] at e
    obtain ⟨d1, μ1, e1, e⟩ := Out.bind_eq_ok e
    refine ⟨ρ, μ, π, d1, μ1, rs, cr, e1, fun v1 H1 π1 r1 m1 c1 => ?_⟩
    cases r1 with
    | bl kk => cases e; exact ⟨kk, rfl, k _ H1 π1 (.bl _) m1 c1⟩
    | _ => cases e
  · simp only [ev] at e
    obtain ⟨d1, μ1, e1, e⟩ := Out.bind_eq_ok e
    cases d1 with
    | bl kk => cases e; exact ⟨ρ, μ, π, kk, _, rs, cr, e1, fun H1 π1 m1 c1 => k H1 π1 m1 c1⟩
    | _ => cases e
theorem snd_ife {c a b : E} {z x y : Expr} {pos : Pos} (hc : Snd X cl H0 z (ev P Γ c)) (ha : Snd X cl H0 x (ev P Γ a)) (hb : Snd X cl H0 y (ev P Γ b)) : Snd X cl H0 (.IfExp z x y pos) (ev P Γ (.ife c a b)) := by
  refine ⟨PE.of (pe_ifExp hc.pt ha.pe hb.pe) fun σ H Q ⟨ρ, μ, π, d, μ', rs, cr, e, k⟩ => ?_, ⟨fun pins s σ H Q I ⟨ρ, μ, π, d, μ', rs, cr, e, k⟩ => ?_⟩⟩
  · simp only [ev] at e
    obtain ⟨d1, μ1, e1, e⟩ := Out.bind_eq_ok e
    cases d1 with
    | bl kk =>
      refine ⟨ρ, μ, π, kk, μ1, rs, cr, e1, fun H1 π1 m1 c1 => ?_⟩
      cases kk with
      | true => exact iteT ⟨ρ, μ1, π1, d, μ', rs.mv cr.ok m1, c1, e, fun v H' π' r m c => k v H' π' r (m1.trans m) c⟩
      | false => exact iteF ⟨ρ, μ1, π1, d, μ', rs.mv cr.ok m1, c1, e, fun v H' π' r m c => k v H' π' r (m1.trans m) c⟩
    | _ => cases e
  · simp only [ev] at e
    obtain ⟨d1, μ1, e1, e⟩ := Out.bind_eq_ok e
    cases d1 with
    | bl kk =>
      show wpAny _ _ (do if ← isTrue z X.env (eval z X.env) then isTrue x X.env (eval x X.env) else isTrue y X.env (eval y X.env)) _ _ _
      refine wpAny_bind (thn (hc.pt.run pins s σ H (fun b H1 => ∃ π1, b = kk ∧ Mv H π H1 π1 ∧ CR X.K cl H1 π1 μ1) I ⟨ρ, μ, π, kk, μ1, rs, cr, e1, fun H1 π1 m1 c1 => ⟨π1, rfl, m1, c1⟩⟩) fun b s1 ⟨H1, I1, π1, eb, m1, c1⟩ => ?_)
      subst eb
      cases b with
      | true => exact ha.pt.run pins s1 σ H1 Q I1 ⟨ρ, μ1, π1, d, μ', rs.mv cr.ok m1, c1, e, fun H' π' m c => k H' π' (m1.trans m) c⟩
      | false => exact hb.pt.run pins s1 σ H1 Q I1 ⟨ρ, μ1, π1, d, μ', rs.mv cr.ok m1, c1, e, fun H' π' m c => k H' π' (m1.trans m) c⟩
    | _ => cases e
end
end Vw
set_option Elab.async false
set_option linter.all false
set_option maxRecDepth 100000
set_option maxHeartbeats 4000000
namespace Vw
open PySem PySem.Spec L2
section
variable {X : Cx} {nm : Nm} {P : Pr} {Γ : Gam} {cl : Cls0} {fa : Fa} {gl df : Nat → Bool} {j : Nat} {H0 : Hp}
theorem pa_none : PA X [] (LA X.K cl H0 (evs P Γ .nil)) := ⟨fun pos pins s σ H Q I ⟨ρ, μ, π, ds, μ', rs, cr, e, k⟩ => pa_nil.run pos pins s σ H Q I (by
  simp only [evs] at e
  cases e
  exact k [] H π .nil (Mv.refl cr.ok) cr)⟩
theorem pa_more {e : E} {es : Es} {x : Expr} {xs : List Expr} (hx : plainX x = true) (h : Snd X cl H0 x (ev P Γ e)) (hr : PA X xs (LA X.K cl H0 (evs P Γ es))) : PA X (x :: xs) (LA X.K cl H0 (evs P Γ (.cons e es))) :=
  ⟨fun pos pins s σ H Q I ⟨ρ, μ, π, ds, μ', rs, cr, ee, k⟩ => (pa_cons h.pe hr (star_cons hx)).run pos pins s σ H Q I (by
    simp only [evs] at ee
    obtain ⟨d1, μ1, e1, ee⟩ := Out.bind_eq_ok ee
    obtain ⟨d2, μ2, e2, ee⟩ := Out.bind_eq_ok ee
    cases ee
    exact ⟨ρ, μ, π, d1, μ1, rs, cr, e1, fun v1 H1 π1 r1 m1 c1 => ⟨ρ, μ1, π1, d2, μ', rs.mv cr.ok m1, c1, e2, fun vs H2 π2 r2 m2 c2 => k _ H2 π2 (.cons (r1.mv c1.ok m2) r2) (m1.trans m2) c2⟩⟩)⟩
theorem cap_line {n : Nat} (h : n ≤ cap) : n ≤ sizeLine := by rw [PySem.sizeLine_eq]; exact h
theorem lenOk_ok {l : List D} {μ μ' : Mu} {f : List D → D} {d : D} (h : lenOk l μ f = .ok d μ') : l.length ≤ cap ∧ d = f l ∧ μ' = μ := by
  unfold lenOk at h
  split at h
  · cases h; exact ⟨by assumption, rfl, rfl⟩
  · cases h
theorem snd_tup {es : Es} {xs : List Expr} {pos : Pos} {k1 : Nat} (h : PA X xs (LA X.K cl H0 (evs P Γ es))) : Snd X cl H0 (.Tuple xs k1 pos) (ev P Γ (.tup es)) :=
  .of (PE.of (pe_tup h) fun σ H Q ⟨ρ, μ, π, d, μ', rs, cr, e, k⟩ => by
    simp only [ev] at e
    obtain ⟨ds, μ1, e1, e⟩ := Out.bind_eq_ok e
    obtain ⟨hz, rfl, rfl⟩ := lenOk_ok e
    exact ⟨ρ, μ, π, ds, _, rs, cr, e1, fun vs H1 π1 r1 m1 c1 => ⟨by rw [← r1.length]; exact cap_line hz, fun p hp => k _ _ π1 (tup_new c1.ok hp r1) (m1.trans (Mv.new c1.ok hp)) (c1.new hp)⟩⟩) rfl
theorem raw_lst {es : Es} {xs : List Expr} {pos : Pos} (h : PA X xs (LA X.K cl H0 (evs P Γ es))) : PE X (.List xs pos) (fun σ H Q => ∃ ρ μ π l μ', RelS X.K cl H0 ρ σ H π ∧ CR X.K cl H π μ ∧ ev P Γ (.lst es) ρ μ = .ok (.lst l) μ' ∧
    ∀ p vs H1 π1, H1 p = none → Rps X.K cl H1 π1 l vs → Mv H π H1 π1 → CR X.K cl H1 π1 μ' → Q (.ref p) (upd H1 p (.lst vs))) :=
  PE.of (pe_lst h) fun σ H Q ⟨ρ, μ, π, l, μ', rs, cr, e, k⟩ => by
    simp only [ev] at e
    obtain ⟨ds, μ1, e1, e⟩ := Out.bind_eq_ok e
    obtain ⟨hz, e2, rfl⟩ := lenOk_ok e
    cases e2
    exact ⟨ρ, μ, π, l, _, rs, cr, e1, fun vs H1 π1 r1 m1 c1 => ⟨by rw [← r1.length]; exact cap_line hz, fun p hp => k p vs H1 π1 hp r1 m1 c1⟩⟩
theorem snd_frz {e : E} {x : Expr} (h : PE X x (fun σ H Q => ∃ ρ μ π l μ', RelS X.K cl H0 ρ σ H π ∧ CR X.K cl H π μ ∧ ev P Γ e ρ μ = .ok (.lst l) μ' ∧
    ∀ p vs H1 π1, H1 p = none → Rps X.K cl H1 π1 l vs → Mv H π H1 π1 → CR X.K cl H1 π1 μ' → Q (.ref p) (upd H1 p (.lst vs)))) (hl : ∀ ρ μ d μ', ev P Γ e ρ μ = .ok d μ' → ∃ l, d = .lst l) (hp : plainT x = true) : Snd X cl H0 x (ev P Γ e) :=
  .of (PE.of (PE.frz h) fun σ H Q ⟨ρ, μ, π, d, μ', rs, cr, e, k⟩ => by
    obtain ⟨l, rfl⟩ := hl _ _ _ _ e
    refine ⟨ρ, μ, π, l, μ', rs, cr, e, fun p vs H1 π1 hp r1 m1 c1 => .inr ⟨p, vs, upd_same, fun o => ?_⟩⟩
    rw [upd_upd]
    exact k _ _ π1 (frz_new c1.ok hp r1) (m1.trans (Mv.new c1.ok hp)) (c1.new hp)) hp
theorem snd_lst {es : Es} {xs : List Expr} {pos : Pos} (h : PA X xs (LA X.K cl H0 (evs P Γ es))) : Snd X cl H0 (.List xs pos) (ev P Γ (.lst es)) :=
  snd_frz (raw_lst h) (fun ρ μ d μ' e => by
    simp only [ev] at e
    obtain ⟨ds, μ1, e1, e⟩ := Out.bind_eq_ok e
    obtain ⟨hz, rfl, rfl⟩ := lenOk_ok e
    exact ⟨_, rfl⟩) rfl
theorem ix_op : IxR X (RR X.K cl (ixop P Γ)) := by
  intro value slice pins s σ H x y v u Q I rx ry h hs
  obtain ⟨a, b, μ, π, d, μ', ra, rb, cr, e, k⟩ := h
  cases ra with
  | @lst p ds vs hl hr =>
    cases rb with
    | int i =>
      simp only [ixop] at e
      split at e
      · rename_i d' q
        cases e
        obtain ⟨w, e1, r1⟩ := hr.at q
        exact ix_list value slice pins s σ H _ _ v u Q I rx ry ⟨p, vs, i, w, rfl, rfl, hl.sq, e1, k w H π r1 (Mv.refl cr.ok) cr⟩ hs
      · cases e
    | _ => simp only [ixop] at e; cases e
  | @tup p ds vs hl hr =>
    cases rb with
    | int i =>
      simp only [ixop] at e
      split at e
      · rename_i d' q
        cases e
        obtain ⟨w, e1, r1⟩ := hr.at q
        exact ix_tup value slice pins s σ H _ _ v u Q I rx ry ⟨p, vs, i, w, rfl, rfl, hl, e1, k w H π r1 (Mv.refl cr.ok) cr⟩ hs
      · cases e
    | _ => simp only [ixop] at e; cases e
  | _ => cases rb <;> simp only [ixop] at e <;> cases e
theorem snd_ix {a b : E} {x y : Expr} {pos : Pos} (hp : plainS y = true) (ha : Snd X cl H0 x (ev P Γ a)) (hb : Snd X cl H0 y (ev P Γ b)) : Snd X cl H0 (.Subscript x y pos) (ev P Γ (.ix a b)) :=
  .of (PE.of (pe_ix (ix_op (P := P) (Γ := Γ)) ha.pe hb.pe (subs_plain hp)) fun σ H Q ⟨ρ, μ, π, d, μ', rs, cr, e, k⟩ =>
    LE.bin ⟨ρ, μ, π, d, μ', rs, cr, by simp only [ev] at e; exact e, k⟩) rfl
theorem snd_oix {N : List Str} {sc : Scope} {i : Nat} {b : E} {x : Str} {y : Expr} {pos p2 : Pos} (hN : X.N = N) (hs : X.env.scope = sc) (h : nmB N sc i x = true) (hp : plainS y = true) (hb : Snd X cl H0 y (ev P Γ b)) :
    Snd X cl H0 (.Subscript (.Name x p2) y pos) (ev P Γ (.oix i b)) := by
  obtain ⟨h1, h2, h3, h4⟩ := nmB_of h
  refine .of (PE.of (pe_ix ix_list (pe_var (i := i) (by rw [hN]; exact h1) (by rw [hs]; exact h2) h3 h4) hb.pe (subs_plain hp)) fun σ H Q ⟨ρ, μ, π, d, μ', rs, cr, e, k⟩ => ?_) rfl
  simp only [ev] at e
  obtain ⟨d1, μ1, e1, e⟩ := Out.bind_eq_ok e
  split at e
  · rename_i l n q1
    split at e
    · rename_i d' q2
      cases e
      obtain ⟨p, vs, s1, s2, s3, s4⟩ := rs.own i l q1
      refine ⟨.ref p, s1, ρ, μ, π, .int n, _, rs, cr, e1, fun v1 H1 π1 r1 m1 c1 => ?_⟩
      cases r1
      obtain ⟨w, e3, r3⟩ := (s4.mv cr.ok m1).at q2
      exact ⟨p, vs, n, w, rfl, rfl, SqL.of (m1.keep _ _ s2 (cr.ok.notLst s2)), e3, k w H1 π1 r3 m1 c1⟩
    · cases e
  · cases e
theorem po_of {o : Oe} {x : Option Expr} (h : match o, x with | .none, none => True | .some e, some y => Snd X cl H0 y (ev P Γ e) | _, _ => False) :
    PO X x (fun σ H Q => ∃ ρ μ π d μ' w, RelS X.K cl H0 ρ σ H π ∧ CR X.K cl H π μ ∧ evo P Γ o ρ μ = .ok d μ' ∧ part d = some w ∧ ∀ H' π', Mv H π H' π' → CR X.K cl H' π' μ' → Q w H') := by
  cases o with
  | none =>
    cases x with
    | none =>
      refine ⟨fun pins s σ H Q I ⟨ρ, μ, π, d, μ', w, rs, cr, e, hi, k⟩ => po_none.run pins s σ H Q I ?_⟩
      simp only [evo] at e
      cases e
      cases hi
      exact k H π (Mv.refl cr.ok) cr
    | some y => exact h.elim
  | some e0 =>
    cases x with
    | none => exact h.elim
    | some y =>
      refine ⟨fun pins s σ H Q I ⟨ρ, μ, π, d, μ', w, rs, cr, e, hi, k⟩ => (po_some h.pe).run pins s σ H Q I ?_⟩
      simp only [evo] at e
      obtain ⟨d1, μ1, e1, e⟩ := Out.bind_eq_ok e
      cases e
      refine ⟨ρ, μ, π, d1, _, rs, cr, e1, fun v1 H1 π1 r1 m1 c1 => ?_⟩
      cases r1 <;> first | (cases hi; exact ⟨_, rfl, k H1 π1 m1 c1⟩) | cases hi
theorem snd_sl {a : E} {lo hi : Oe} {x : Expr} {l h : Option Expr} {pos p2 : Pos} (ha : Snd X cl H0 x (ev P Γ a))
    (hl : match lo, l with | .none, none => True | .some e, some y => Snd X cl H0 y (ev P Γ e) | _, _ => False) (hh : match hi, h with | .none, none => True | .some e, some y => Snd X cl H0 y (ev P Γ e) | _, _ => False) :
    Snd X cl H0 (.Subscript x (.Slice l h none p2) pos) (ev P Γ (.sl a lo hi)) := by
  have r : SlR X (fun x l u H Q => ∃ a μ π d μ', Rp X.K cl H π a x ∧ CR X.K cl H π μ ∧ (match a with | .lst xs => (Out.ok (D.lst (cut xs l u)) μ : Out D) | .tup xs => .ok (.tup (cut xs l u)) μ | _ => .bad) = .ok d μ' ∧
      ∀ v H' π', Rp X.K cl H' π' d v → Mv H π H' π' → CR X.K cl H' π' μ' → Q v H') := by
    intro pins s σ H x v vl vu l u sl Q I rx hs pl pu ⟨a, μ, π, d, μ', ra, cr, e, k⟩
    cases ra with
    | @tup p ds vs hq hr =>
      cases e
      refine sl_tupA pins s σ H _ v vl vu l u sl Q I rx hs pl pu ⟨p, vs, rfl, hq, fun hw => ?_, fun hw q hq2 => ?_⟩
      · have e : cut ds l u = ds := by
          unfold cut
          rw [hr.length, hw.1, hw.2]
          simp [← hr.length]
        rw [e] at k
        exact k _ H π (.tup hq hr) (Mv.refl cr.ok) cr
      · exact k _ _ π (tup_new cr.ok hq2 (hr.cutR l u)) (Mv.new cr.ok hq2) (cr.new hq2)
    | @lst p ds vs hq hr =>
      cases e
      obtain ⟨T, id, z1, z2, z3⟩ := sl_list pins s σ H _ v vl vu l u sl (fun v' H' => ∃ q, H q = none ∧ v' = .ref q ∧ H' = upd H q (.lst (cutV vs l u))) I rx hs pl pu ⟨p, vs, rfl, hq.sq, fun q hq2 => ⟨q, hq2, rfl, rfl⟩⟩
      refine ⟨T, id, z1, z2, thn z3 fun u' s' ⟨v', H', I', r', q, hq2, ev', eh⟩ => ?_⟩
      subst ev' eh
      obtain ⟨o, I2⟩ := freeze I' upd_same
      rw [upd_upd] at I2
      exact ⟨.ref q, _, I2, r', k _ _ π (frz_new cr.ok hq2 (hr.cutR l u)) (Mv.new cr.ok hq2) (cr.new hq2)⟩
    | _ => cases e
  refine .of (PE.of (pe_slice r ha.pe (po_of hl) (po_of hh)) fun σ H Q ⟨ρ, μ, π, d, μ', rs, cr, e, k⟩ => ?_) rfl
  simp only [ev] at e
  obtain ⟨d1, μ1, e1, e⟩ := Out.bind_eq_ok e
  obtain ⟨d2, μ2, e2, e⟩ := Out.bind_eq_ok e
  obtain ⟨d3, μ3, e3, e⟩ := Out.bind_eq_ok e
  unfold slop at e
  split at e
  · rename_i l' u' q1 q2
    refine ⟨ρ, μ, π, d1, μ1, rs, cr, e1, fun v1 H1 π1 r1 m1 c1 => ⟨ρ, μ1, π1, d2, μ2, l', rs.mv cr.ok m1, c1, e2, q1, fun H2 π2 m2 c2 => ⟨ρ, μ2, π2, d3, μ3, u', rs.mv cr.ok (m1.trans m2), c2, e3, q2, fun H3 π3 m3 c3 =>
      ⟨d1, μ3, π3, d, μ', r1.mv c1.ok (m2.trans m3), c3, ?_, fun v H' π' r m c => k v H' π' r (((m1.trans m2).trans m3).trans m) c⟩⟩⟩⟩
    cases d1 <;> first | exact e | cases e
  · cases e
theorem snd_call {sc : Scope} {f : Nat} {as : Es} {x : Str} {xs : List Expr} {pos p2 : Pos} (hs : X.env.scope = sc) (B : Bd X nm P Γ cl fa gl df j) (hg : gl f = true) (h : glB sc x (nm.fn f) = true) (hx : xs.all plainX = true) (hne : xs ≠ [])
    (ha : PA X xs (LA X.K cl H0 (evs P Γ as))) : Snd X cl H0 (.Call (.Name x p2) xs [] pos) (ev P Γ (.call f as)) := by
  obtain ⟨h1, h2, h3⟩ := glB_of h
  obtain ⟨hd, hm⟩ := B.ff.name f hg
  obtain ⟨F, hb, hk⟩ := B.ff.ok f hd
  have z : ∀ σ H (Q : VK), LE X.K cl H0 (ev P Γ (.call f as)) σ H Q → tCall (spF X.K cl (Γ f)) [] E0 (LA X.K cl H0 (evs P Γ as)) σ H Q := fun σ H Q ⟨ρ, μ, π, d, μ', rs, cr, e, k⟩ => by
    simp only [ev] at e
    obtain ⟨ds, μ1, e1, e⟩ := Out.bind_eq_ok e
    exact ⟨ρ, μ, π, ds, μ1, rs, cr, e1, fun vs H1 π1 r1 m1 c1 => by
      show spF X.K cl (Γ f) (vs ++ []) H1 Q E0
      rw [List.append_nil]; exact ⟨ds, μ1, π1, d, μ', r1, c1, e, fun v H' π' r m c => k v H' π' r (m1.trans m) c⟩⟩
  have hG : Gl X x := by show X.env.scope.names.lookup x = _; rw [hs]; exact h2
  have hM : X.mg x = some (.ref (fa.addr f)) := by rw [h1]; exact hm
  have hR : Room j X.A := B.room.mono (Nat.le_succ _)
  cases xs with
  | nil => exact absurd rfl hne
  | cons y ys =>
    rw [List.all_cons, Bool.and_eq_true] at hx
    exact .of (PE.of (pe_call F hR hG hM hk hb .nil pass0 ha h3 (star_cons hx.1) (star_all hx.2)) z) rfl
theorem snd_call0 {sc : Scope} {f : Nat} {x : Str} {pos p2 : Pos} (hs : X.env.scope = sc) (B : Bd X nm P Γ cl fa gl df j) (hg : gl f = true) (h : glB sc x (nm.fn f) = true) : Snd X cl H0 (.Call (.Name x p2) [] [] pos) (ev P Γ (.call f .nil)) := by
  obtain ⟨h1, h2, h3⟩ := glB_of h
  obtain ⟨hd, hm⟩ := B.ff.name f hg
  obtain ⟨F, hb, hk⟩ := B.ff.ok f hd
  refine .of (PE.of (pe_call0 F (B.room.mono (Nat.le_succ _)) (show Gl X x from by show X.env.scope.names.lookup x = _; rw [hs]; exact h2) (by rw [h1]; exact hm) hk hb .nil pass0 h3) fun σ H Q ⟨ρ, μ, π, d, μ', rs, cr, e, k⟩ => ?_) rfl
  simp only [ev, evs, Out.bind_ok] at e
  exact ⟨[], μ, π, d, μ', .nil, cr, e, k⟩
end
end Vw
set_option Elab.async false
set_option linter.all false
set_option maxRecDepth 100000
set_option maxHeartbeats 4000000
namespace Vw
open PySem PySem.Spec L2
section
variable {X : Cx} {nm : Nm} {P : Pr} {Γ : Gam} {cl : Cls0} {fa : Fa} {gl df : Nat → Bool} {j : Nat} {H0 : Hp}
theorem lookup_zip : ∀ {ns : List Str} {xs : List V} {i : Nat} {n : Str} {x : V}, ns.Nodup → ns[i]? = some n → xs[i]? = some x → (ns.zip xs).lookup n = some x
  | [], _, _, _, _, _, h, _ => by simp at h
  | _ :: _, [], _, _, _, _, _, h => by simp at h
  | m :: ns, y :: xs, 0, n, x, _, h1, h2 => by
    simp at h1 h2
    subst h1 h2
    simp [List.lookup_cons]
  | m :: ns, y :: xs, i + 1, n, x, nd, h1, h2 => by
    have h1' : ns[i]? = some n := by simpa using h1
    have h2' : xs[i]? = some x := by simpa using h2
    have hne : (n == m) = false := by
      rw [beq_eq_false_iff_ne]
      rintro rfl
      exact (List.nodup_cons.mp nd).1 (List.mem_of_getElem? h1')
    rw [List.zip_cons_cons, List.lookup_cons, hne]
    exact lookup_zip (List.nodup_cons.mp nd).2 h1' h2'
theorem snd_fld {o : E} {f : Nat} {x : Expr} {n : Str} {pos : Pos} (B : Bd X nm P Γ cl fa gl df j) (hn : nm.mth f = n) (hp : plainA x = true) (ho : Snd X cl H0 x (ev P Γ o)) : Snd X cl H0 (.Attribute x n pos) (ev P Γ (.fld o f)) := by
  refine .of ⟨fun pins s σ H Q I ⟨ρ, μ, π, d, μ', rs, cr, e, k⟩ => ?_⟩ rfl
  simp only [ev] at e
  obtain ⟨d1, μ1, e1, e⟩ := Out.bind_eq_ok e
  refine attr_of (attr_plain hp) (thn (ho.pe.run pins s σ H (fun v1 H1 => ∃ π1, Rp X.K cl H1 π1 d1 v1 ∧ Mv H π H1 π1 ∧ CR X.K cl H1 π1 μ1) I ⟨ρ, μ, π, d1, μ1, rs, cr, e1, fun v1 H1 π1 r1 m1 c1 => ⟨π1, r1, m1, c1⟩⟩) fun u s1 ⟨v1, H1, I1, ru, π1, r1, m1, c1⟩ => ?_)
  cases r1 with
  | @obj c C ad dx ns ds xs hc hH hl hr =>
    cases ru
    simp only at e
    obtain ⟨Cl, hm, hln, hnd, hno⟩ := B.gf.cls c C ns hc
    split at e
    · rename_i i q1
      split at e
      · rename_i d' q2
        cases e
        have hi := B.gf.fld c f i C ns q1 hc
        obtain ⟨w, e3, r3⟩ := hr.get q2
        rw [hn] at hi
        exact getattr_ok I1 hH Cl (hno n (List.mem_of_getElem? hi)) (lookup_zip hnd hi e3) fun w' s2 I2 rw' => ⟨w, H1, I2, rw', k w H1 π1 r3 m1 c1⟩
      · cases e
    · split at e
      · rename_i g q2
        obtain ⟨p, hpo⟩ := B.gf.prop c f g C ns q2 hc
        rw [hn] at hpo
        obtain ⟨F, hb, hk⟩ := B.ff.ok g (B.ff.prop c f g q2)
        exact getprop_ok (dvs := []) (ds := []) (E := E0) I1 hH Cl hpo F B.room hb .nil pass0 ⟨[.obj c ds], μ1, π1, d, μ', .cons (.obj hc hH hl hr) .nil, c1, e, fun v H' π' r m c => k v H' π' r (m1.trans m) c⟩
      · cases e
  | _ => cases e
theorem snd_new {sc : Scope} {c : Nat} {as : Es} {x : Str} {y : Expr} {ys : List Expr} {pos p2 : Pos} (hs : X.env.scope = sc) (B : Bd X nm P Γ cl fa gl df j) (h : glB sc x (nm.cls c) = true) (hx : (y :: ys).all plainX = true)
    (ha : PA X (y :: ys) (LA X.K cl H0 (evs P Γ as))) : Snd X cl H0 (.Call (.Name x p2) (y :: ys) [] pos) (ev P Γ (.new c as)) := by
  obtain ⟨h1, h2, h3⟩ := glB_of h
  rw [List.all_cons, Bool.and_eq_true] at hx
  cases q : P.init c with
  | none =>
    refine .of ⟨fun pins s σ H Q I ⟨ρ, μ, π, d, μ', rs, cr, e, k⟩ => ?_⟩ rfl
    simp only [ev, q] at e
    obtain ⟨ds, μ1, e1, e⟩ := Out.bind_eq_ok e
    cases e
  | some f =>
    obtain ⟨⟨C, ns, hc⟩, F, hb⟩ := B.ff.init c f q
    obtain ⟨Cl, hm, hln, hnd, hno⟩ := B.gf.cls c C ns hc
    have M := B.gf.made c f C ns q hc
    refine .of (PE.of (pe_make M F B.room (show Gl X x from by show X.env.scope.names.lookup x = _; rw [hs]; exact h2) (by rw [h1]; exact hm) hb .nil pass0 ha h3 (star_cons hx.1) (star_all hx.2)) fun σ H Q ⟨ρ, μ, π, d, μ', rs, cr, e, k⟩ => ?_) rfl
    simp only [ev, q] at e
    obtain ⟨ds, μ1, e1, e⟩ := Out.bind_eq_ok e
    obtain ⟨r, μ2, e2, e⟩ := Out.bind_eq_ok e
    cases r with
    | obj c' fs =>
      simp only at e
      split at e
      · rename_i hcc
        subst hcc
        cases e
        refine ⟨ρ, μ, π, ds, μ1, rs, cr, e1, fun vs H1 π1 r1 m1 c1 x dx nx ndx hne => ?_⟩
        have hdx : H1 dx = none := ndx
        have n2 : upd H1 dx (.own x) x = none := by rw [upd_ne (Ne.symm hne)]; exact nx
        have ma := Mv.new (o := .own x) c1.ok hdx
        have ca := c1.new (o := .own x) hdx
        have mb := Mv.new (o := .ins C dx []) ca.ok n2
        have cb := ca.new (o := .ins C dx []) n2
        rw [List.append_nil]
        refine ⟨x, C, dx, ns, vs, ds, μ1, π1, fs, μ', rfl, hc, upd_same, (r1.mv c1.ok ma).mv ca.ok mb, cb, e2, fun H' π' xs hx hlx hrx ⟨ext, ep, en⟩ hk hcr => ⟨rfl, ?_⟩⟩
        refine k _ H' π' (.obj hc hx hlx hrx) (m1.trans ⟨⟨ext, ep, fun a ma' => ?_⟩, fun b o hb' hp => ?_, hcr.ok⟩) hcr
        · have z := en a ma'
          by_cases ha1 : a = x
          · rw [ha1, upd_same] at z; cases z
          · rw [upd_ne ha1] at z
            by_cases ha2 : a = dx
            · rw [ha2, upd_same] at z; cases z
            · rw [upd_ne ha2] at z; exact z
        · have b1 : b ≠ x := ne_of_none hb' nx
          have b2 : b ≠ dx := ne_of_none hb' ndx
          exact hk b o (by rw [upd_ne b1, upd_ne b2]; exact hb') hp b1
      · cases e
    | _ => cases e
theorem code_df {pins : List (Addr × Obj)} {s : Shared} {σ : L2.St} {H : Hp} {π : List Addr} {μ μ' : Mu} {Q : VK} {us : List Value} {vs : List V} {ds : List D} {d : D} {f : Nat} (B : Bd X nm P Γ cl fa gl df j) (hf : df f = true) (I : Inv X pins σ H s) (r : Vals vs us) (rp : Rps X.K cl H π ds vs) (cr : CR X.K cl H π μ)
    (e : Γ f ds μ = .ok d μ') (k : ∀ v H' π', Rp X.K cl H' π' d v → Mv H π H' π' → CR X.K cl H' π' μ' → Q v H') :
    codeAny (model X.prog X.w) X.A (.call (.ref (fa.addr f)) ⟨us, []⟩) (fun r s' => match r with | .ok (.ret v) => EP X pins σ Q v s' | .ok _ => False | .error e => X.xe e s') s := by
  obtain ⟨F, hb, hk⟩ := B.ff.ok f hf
  have h : spF X.K cl (Γ f) vs H Q E0 := ⟨ds, μ, π, d, μ', rp, cr, e, k⟩
  have hl : (us ++ []).length = (fa.ps f).length := by rw [List.append_nil, ← r.length]; exact F.len _ _ _ _ h
  refine codeAny_mono (F.run X.A X.stack s H ⟨us, []⟩ us vs Q E0 (B.room.mono (Nat.le_succ _)) I.env0 (by have z := hb s us I.kIn hl; rw [List.append_nil] at z; exact z) r h) fun r s' hq => ?_
  cases r with
  | error e => exact hq.elim
  | ok fl =>
    cases fl with
    | ret u => exact I.after hq
    | next => exact False.elim hq
    | brk => exact False.elim hq
    | cont => exact False.elim hq
theorem snd_app {N : List Str} {sc : Scope} {i : Nat} {as : Es} {x : Str} {y : Expr} {ys : List Expr} {pos p2 : Pos} (hN : X.N = N) (hs : X.env.scope = sc) (B : Bd X nm P Γ cl fa gl df j) (h : nmB N sc i x = true) (hx : (y :: ys).all plainX = true)
    (ha : PA X (y :: ys) (LA X.K cl H0 (evs P Γ as))) : Snd X cl H0 (.Call (.Name x p2) (y :: ys) [] pos) (ev P Γ (.app i as)) := by
  rw [List.all_cons, Bool.and_eq_true] at hx
  obtain ⟨h1, h2, h3, h4⟩ := nmB_of h
  refine .of ⟨fun pins s σ H Q I ⟨ρ, μ, π, d, μ', rs, cr, e, k⟩ => ?_⟩ rfl
  simp only [ev] at e
  split at e
  · rename_i c fs q1
    obtain ⟨ds, μ1, e1, e⟩ := Out.bind_eq_ok e
    obtain ⟨v, s1, r1⟩ := rs.val i _ q1
    refine wpAny_Call_Name_kw (thn ((pe_var (i := i) (pos := p2) (X := X) (by rw [hN]; exact h1) (by rw [hs]; exact h2) h3 h4).run pins s σ H (fun w H1 => w = v ∧ H1 = H) I ⟨v, s1, rfl, rfl⟩) fun u s2 ⟨w, H1, I1, ru, ew, eh⟩ => ?_)
    subst ew eh
    cases r1 with
    | @obj _ C ad dx ns _ xs hc hH hl hr =>
      cases ru
      refine StX.callO_with (thn (ha.run pos pins s2 σ H1 (fun vs H2 => ∃ π2, Rps X.K cl H2 π2 ds vs ∧ Mv H1 π H2 π2 ∧ CR X.K cl H2 π2 μ1) I1 ⟨ρ, μ, π, ds, μ1, rs, cr, e1, fun vs H2 π2 r2 m2 c2 => ⟨π2, r2, m2, c2⟩⟩) fun us s3 ⟨vs, H2, I2, r, π2, r2, m2, c2⟩ => ?_) (star_cons hx.1) (star_all hx.2)
      have hH2 := m2.keep _ _ hH (cr.ok.notIns hH)
      obtain ⟨od, J⟩ := inst_of I2 hH2
      unfold callM at e
      split at e
      rotate_left
      · cases e
      rename_i f hf
      have w := code_df (us := .ref ad :: us) (vs := .ref ad :: vs) B (B.ff.meth c 52 f hf) I2 (.cons rfl r) (.cons (.obj hc hH2 hl (hr.mv cr.ok m2)) r2) c2 e (fun v H' π' rr m c => k v H' π' rr (m2.trans m) c)
      have M := B.gf.mth c 52 f C ns hf hc
      have hs' := M.at_
      rw [B.gf.spn.2.2] at hs'
      exact ⟨⟨C, _, _, J, rfl⟩, wpAny_call (PySem.W.kco_code I2.kIn J rfl hs' M.fn (B.gf.app c f C ns hf hc) w)⟩
  · cases e
end
end Vw
set_option Elab.async false
set_option linter.all false
set_option maxRecDepth 100000
set_option maxHeartbeats 4000000
namespace Vw
open PySem PySem.Spec L2
section
variable {X : Cx} {nm : Nm} {P : Pr} {Γ : Gam} {cl : Cls0} {fa : Fa} {gl df : Nat → Bool} {j : Nat} {H0 : Hp}
def RB (K : PySem.W.Frag) (cl : Cls0) (f : List D → Mu → Out D) : List V → Hp → VK → Prop := fun vs H Q => ∃ ds μ π d μ', Rps K cl H π ds vs ∧ CR K cl H π μ ∧ f ds μ = .ok d μ' ∧
  ∀ v H' π', Rp K cl H' π' d v → Mv H π H' π' → CR K cl H' π' μ' → Q v H'
theorem rps1 {K : PySem.W.Frag} {H : Hp} {π : List Addr} {d : D} {vs : List V} (h : Rps K cl H π [d] vs) : ∃ v, vs = [v] ∧ Rp K cl H π d v := by
  cases h with
  | cons a b => cases b; exact ⟨_, rfl, a⟩
theorem rps2 {K : PySem.W.Frag} {H : Hp} {π : List Addr} {d e : D} {vs : List V} (h : Rps K cl H π [d, e] vs) : ∃ v w, vs = [v, w] ∧ Rp K cl H π d v ∧ Rp K cl H π e w := by
  cases h with
  | cons a b =>
    cases b with
    | cons c b => cases b; exact ⟨_, _, rfl, a, c⟩
theorem rps_ints {K : PySem.W.Frag} {H : Hp} {π : List Addr} : ∀ {ds : List D} {vs : List V} {bs : List Bool}, Rps K cl H π ds vs → bools ds = some bs → vs = bs.map V.bl
  | _, _, _, .nil, e => by simp [bools] at e; subst e; rfl
  | _, _, _, .cons (d := d) a b, e => by
    cases a with
    | bl k =>
      simp only [bools] at e
      obtain ⟨r, e1, e2⟩ := Option.map_eq_some_iff.mp e
      subst e2
      rw [rps_ints b e1]; rfl
    | _ => simp only [bools] at e; cases e
theorem cb_len : CallR X (.builtin "len") (RB X.K cl (bltop P Γ .len)) := by
  intro pins s σ H vs us Q I r ⟨ds, μ, π, d, μ', rp, cr, e, k⟩
  match ds, e with
  | [.lst l], e =>
    cases e
    obtain ⟨v, rfl, r1⟩ := rps1 rp
    cases r1 with
    | lst hl hr => exact call_len_seq pins s σ H _ us Q I r ⟨_, _, rfl, .inl hl.sq, by rw [← hr.length]; exact k _ H π (.int _) (Mv.refl cr.ok) cr⟩
  | [.tup l], e =>
    cases e
    obtain ⟨v, rfl, r1⟩ := rps1 rp
    cases r1 with
    | tup hl hr => exact call_len_seq pins s σ H _ us Q I r ⟨_, _, rfl, .inr hl, by rw [← hr.length]; exact k _ H π (.int _) (Mv.refl cr.ok) cr⟩
  | [.non], e => cases e
  | [.bl _], e => cases e
  | [.int _], e => cases e
  | [.str _], e => cases e
  | [.obj _ _], e => cases e
  | [.cel _], e => cases e
  | [], e => cases e
  | _ :: _ :: _, e => simp only [bltop] at e; cases e
theorem cb_abs : CallR X (.builtin "abs") (RB X.K cl (bltop P Γ .abs)) := by
  intro pins s σ H vs us Q I r ⟨ds, μ, π, d, μ', rp, cr, e, k⟩
  match ds, e with
  | [.int i], e =>
    cases e
    obtain ⟨v, rfl, r1⟩ := rps1 rp
    cases r1
    exact call_abs pins s σ H _ us Q I r ⟨i, rfl, k _ H π (.int _) (Mv.refl cr.ok) cr⟩
  | [.non], e => cases e
  | [.bl _], e => cases e
  | [.tup _], e => cases e
  | [.lst _], e => cases e
  | [.str _], e => cases e
  | [.obj _ _], e => cases e
  | [.cel _], e => cases e
  | [], e => cases e
  | _ :: _ :: _, e => simp only [bltop] at e; cases e
theorem cb_int : CallR X (.type "int") (RB X.K cl (bltop P Γ .int)) := by
  intro pins s σ H vs us Q I r ⟨ds, μ, π, d, μ', rp, cr, e, k⟩
  match ds, e with
  | [.int i], e =>
    cases e
    obtain ⟨v, rfl, r1⟩ := rps1 rp
    cases r1
    exact call_int1 pins s σ H _ us Q I r (.inl ⟨i, rfl, k _ H π (.int _) (Mv.refl cr.ok) cr⟩)
  | [.non], e => cases e
  | [.bl _], e => cases e
  | [.tup _], e => cases e
  | [.lst _], e => cases e
  | [.str _], e => cases e
  | [.obj _ _], e => cases e
  | [.cel _], e => cases e
  | [], e => cases e
  | _ :: _ :: _, e => simp only [bltop] at e; cases e
theorem cb_tuple : CallR X (.type "tuple") (RB X.K cl (bltop P Γ .tuple)) := by
  intro pins s σ H vs us Q I r ⟨ds, μ, π, d, μ', rp, cr, e, k⟩
  match ds, e with
  | [.lst l], e =>
    cases e
    obtain ⟨v, rfl, r1⟩ := rps1 rp
    cases r1 with
    | lst hl hr => exact call_tuple_of pins s σ H _ us Q I r ⟨_, _, rfl, .inl ⟨hl.sq, fun p hp => k _ _ π (tup_new cr.ok hp hr) (Mv.new cr.ok hp) (cr.new hp)⟩⟩
  | [.tup l], e =>
    cases e
    obtain ⟨v, rfl, r1⟩ := rps1 rp
    cases r1 with
    | tup hl hr => exact call_tuple_of pins s σ H _ us Q I r ⟨_, _, rfl, .inr ⟨hl, k _ H π (.tup hl hr) (Mv.refl cr.ok) cr⟩⟩
  | [.non], e => cases e
  | [.bl _], e => cases e
  | [.int _], e => cases e
  | [.str _], e => cases e
  | [.obj _ _], e => cases e
  | [.cel _], e => cases e
  | [], e => cases e
  | _ :: _ :: _, e => simp only [bltop] at e; cases e
theorem CallR.frz {X : Cx} {f : Value} {r : List V → Hp → VK → Prop} (h : CallR X f r) : CallR X f (fun vs H Q => r vs H fun v H1 => Q v H1 ∨ ∃ p xs, H1 p = some (.lst xs) ∧ ∀ o, Q v (upd H1 p (.frz o (.lst xs)))) := by
  intro pins s σ H vs us Q I rs q
  refine thn (h pins s σ H vs us _ I rs q) fun u s1 ⟨v, H1, I1, r1, q1⟩ => ?_
  rcases q1 with q1 | ⟨p, xs, e1, q1⟩
  · exact ⟨v, H1, I1, r1, q1⟩
  · obtain ⟨o, I2⟩ := freeze I1 e1
    exact ⟨v, _, I2, r1, q1 o⟩
theorem cb_list : CallR X (.type "list") (RB X.K cl (bltop P Γ .list)) := by
  intro pins s σ H vs us Q I r ⟨ds, μ, π, d, μ', rp, cr, e, k⟩
  have fin : ∀ l xs, Rps X.K cl H π l xs → d = .lst l → μ' = μ → ∀ p, H p = none → (Q (.ref p) (upd H p (.lst xs)) ∨ ∃ p' xs', upd H p (.lst xs) p' = some (.lst xs') ∧ ∀ o, Q (.ref p) (upd (upd H p (.lst xs)) p' (.frz o (.lst xs')))) := by
    intro l xs hr h1 h2 p hp
    subst h1 h2
    exact .inr ⟨p, xs, upd_same, fun o => by
      rw [upd_upd]
      exact k _ _ π (frz_new cr.ok hp hr) (Mv.new cr.ok hp) (cr.new hp)⟩
  match ds, e with
  | [.lst l], e =>
    cases e
    obtain ⟨v, rfl, r1⟩ := rps1 rp
    cases r1 with
    | lst hl hr => exact CallR.frz call_list_of pins s σ H _ us Q I r ⟨_, _, rfl, .inl hl.sq, fin _ _ hr rfl rfl⟩
  | [.tup l], e =>
    cases e
    obtain ⟨v, rfl, r1⟩ := rps1 rp
    cases r1 with
    | tup hl hr => exact CallR.frz call_list_of pins s σ H _ us Q I r ⟨_, _, rfl, .inr hl, fin _ _ hr rfl rfl⟩
  | [.non], e => cases e
  | [.bl _], e => cases e
  | [.int _], e => cases e
  | [.str _], e => cases e
  | [.obj _ _], e => cases e
  | [.cel _], e => cases e
  | [], e => cases e
  | _ :: _ :: _, e => simp only [bltop] at e; cases e
theorem cb_all (hc : X.calm = true) : CallR X (.builtin "all") (RB X.K cl (bltop P Γ .all)) := by
  intro pins s σ H vs us Q I r ⟨ds, μ, π, d, μ', rp, cr, e, k⟩
  match ds, e with
  | [.lst l], e =>
    simp only [bltop] at e
    split at e
    · rename_i bs q
      cases e
      obtain ⟨v, rfl, r1⟩ := rps1 rp
      cases r1 with
      | lst hl hr =>
        have z := rps_ints hr q
        subst z
        exact cr_all hc pins s σ H _ us Q I r ⟨_, bs, rfl, hl.sq, k _ H π (.bl _) (Mv.refl cr.ok) cr⟩
    · cases e
  | [.non], e => cases e
  | [.bl _], e => cases e
  | [.int _], e => cases e
  | [.str _], e => cases e
  | [.tup _], e => cases e
  | [.obj _ _], e => cases e
  | [.cel _], e => cases e
  | [], e => cases e
  | _ :: _ :: _, e => simp only [bltop] at e; cases e
theorem two_ints {K : PySem.W.Frag} {H : Hp} {π : List Addr} {vs : List V} {i j' : Int} (h : Rps K cl H π [.int i, .int j'] vs) : vs = [.int i, .int j'] := by
  obtain ⟨v, w, rfl, r1, r2⟩ := rps2 h
  cases r1
  cases r2
  rfl
theorem two_of {ds : List D} {b : Blt} {μ μ' : Mu} {d : D} (e : bltop P Γ b ds μ = .ok d μ') (hb : match b with | .divmod => True | .min2 => True | .max2 => True | .lcm => True | _ => False) : ∃ i j', ds = [.int i, .int j'] := by
  match ds with
  | [.int i, .int j'] => exact ⟨i, j', rfl⟩
  | [.int i, .non] => cases b <;> first | exact False.elim hb | (simp only [bltop] at e; cases e)
  | [.int i, .bl _] => cases b <;> first | exact False.elim hb | (simp only [bltop] at e; cases e)
  | [.int i, .str _] => cases b <;> first | exact False.elim hb | (simp only [bltop] at e; cases e)
  | [.int i, .tup _] => cases b <;> first | exact False.elim hb | (simp only [bltop] at e; cases e)
  | [.int i, .lst _] => cases b <;> first | exact False.elim hb | (simp only [bltop] at e; cases e)
  | [.int i, .obj _ _] => cases b <;> first | exact False.elim hb | (simp only [bltop] at e; cases e)
  | [.int i, .cel _] => cases b <;> first | exact False.elim hb | (simp only [bltop] at e; cases e)
  | [.non, _] => cases b <;> first | exact False.elim hb | (simp only [bltop] at e; cases e)
  | [.bl _, _] => cases b <;> first | exact False.elim hb | (simp only [bltop] at e; cases e)
  | [.str _, _] => cases b <;> first | exact False.elim hb | (simp only [bltop] at e; cases e)
  | [.tup _, _] => cases b <;> first | exact False.elim hb | (simp only [bltop] at e; cases e)
  | [.lst _, _] => cases b <;> first | exact False.elim hb | (simp only [bltop] at e; cases e)
  | [.obj _ _, _] => cases b <;> first | exact False.elim hb | (simp only [bltop] at e; cases e)
  | [.cel _, _] => cases b <;> first | exact False.elim hb | (simp only [bltop] at e; cases e)
  | [] => cases b <;> first | exact False.elim hb | (simp only [bltop] at e; cases e)
  | [_] => cases b <;> first | exact False.elim hb | (simp only [bltop] at e; cases e)
  | _ :: _ :: _ :: _ => cases b <;> first | exact False.elim hb | (simp only [bltop] at e; cases e)
theorem cb_divmod : CallR X (.builtin "divmod") (RB X.K cl (bltop P Γ .divmod)) := by
  intro pins s σ H vs us Q I r ⟨ds, μ, π, d, μ', rp, cr, e, k⟩
  obtain ⟨i, j', rfl⟩ := two_of e trivial
  have z := two_ints rp
  subst z
  simp only [bltop] at e
  split at e
  · rename_i hc
    cases e
    exact call_divmodW pins s σ H _ us Q I r ⟨i, j', rfl, ⟨hc.1, PyProof.noPylong_of_log2 hc.2⟩, fun p hp => k _ _ π (tup_new cr.ok hp (.cons (.int _) (.cons (.int _) .nil))) (Mv.new cr.ok hp) (cr.new hp)⟩
  · cases e
theorem cb_min (hc : X.calm = true) : CallR X (.builtin "min") (RB X.K cl (bltop P Γ .min2)) := by
  intro pins s σ H vs us Q I r ⟨ds, μ, π, d, μ', rp, cr, e, k⟩
  obtain ⟨i, j', rfl⟩ := two_of e trivial
  have z := two_ints rp
  subst z
  cases e
  exact call_min2 hc pins s σ H _ us Q I r ⟨i, j', rfl, k _ H π (.int _) (Mv.refl cr.ok) cr⟩
theorem cb_max (hc : X.calm = true) : CallR X (.builtin "max") (RB X.K cl (bltop P Γ .max2)) := by
  intro pins s σ H vs us Q I r ⟨ds, μ, π, d, μ', rp, cr, e, k⟩
  obtain ⟨i, j', rfl⟩ := two_of e trivial
  have z := two_ints rp
  subst z
  cases e
  exact call_max2 hc pins s σ H _ us Q I r ⟨i, j', rfl, k _ H π (.int _) (Mv.refl cr.ok) cr⟩
theorem lcm_log {a b : Nat} (ha : a.log2 < 6000) (hb : b.log2 < 6000) : (Nat.lcm a b).log2 < 134217728 := by
  by_cases h0 : Nat.lcm a b = 0
  · rw [h0]; decide
  · rw [Nat.log2_lt h0]
    have h1 : a < 2 ^ 6000 := by
      by_cases z : a = 0
      · subst z; exact Nat.two_pow_pos _
      · exact (Nat.log2_lt z).mp ha
    have h2 : b < 2 ^ 6000 := by
      by_cases z : b = 0
      · subst z; exact Nat.two_pow_pos _
      · exact (Nat.log2_lt z).mp hb
    have h3 : Nat.lcm a b ≤ a * b := Nat.le_of_dvd (by
      have : a ≠ 0 ∧ b ≠ 0 := by
        constructor <;> (intro z; subst z; simp at h0)
      exact Nat.mul_pos (Nat.pos_of_ne_zero this.1) (Nat.pos_of_ne_zero this.2)) (Nat.lcm_dvd_mul a b)
    have h4 : a * b ≤ 2 ^ 6000 * 2 ^ 6000 := Nat.mul_le_mul (Nat.le_of_lt h1) (Nat.le_of_lt h2)
    rw [← Nat.pow_add] at h4
    exact Nat.lt_of_le_of_lt (Nat.le_trans h3 h4) (Nat.pow_lt_pow_right (by decide) (by decide))
theorem cb_lcm : CallR X (.builtin "math.lcm") (RB X.K cl (bltop P Γ .lcm)) := by
  intro pins s σ H vs us Q I r ⟨ds, μ, π, d, μ', rp, cr, e, k⟩
  obtain ⟨i, j', rfl⟩ := two_of e trivial
  have z := two_ints rp
  subst z
  simp only [bltop] at e
  split at e
  · rename_i hc
    cases e
    obtain ⟨t, u, rfl⟩ := Vals.int2 r
    have h1 : Nat.lcm 1 i.natAbs = i.natAbs := by simp [Nat.lcm]
    have mx : ∀ a b : Nat, a.log2 < 6000 → b.log2 < 6000 → (max a b).log2 < 6000 := fun a b ha hb => by
      rcases Nat.le_total a b with q | q
      · rw [Nat.max_eq_right q]; exact hb
      · rw [Nat.max_eq_left q]; exact ha
    have hz : ((((Nat.lcm 1 i.natAbs).lcm j'.natAbs : Nat) : Int)).natAbs.log2 < bitsLine := by
      rw [h1, Int.natAbs_natCast]
      have e2 : bitsLine = 134217728 := by decide
      rw [e2]
      exact lcm_log hc.1 hc.2
    have a1 := mx 1 i.natAbs (by decide) hc.1
    have a2 := mx i.natAbs j'.natAbs hc.1 hc.2
    refine call_function_meets PySem.W.MGF.kind_lcm PySem.W.MGF.plain_lcm PySem.W.MGF.entry_lcm (PySem.W.MGF.args_lcm _ _) (PySem.W.mg_run_lcm i t j' u (by omega) (by omega) hz).meets ?_
    rw [h1]
    exact ⟨.int _, H, I.tok _, ⟨_, rfl⟩, k _ H π (.int _) (Mv.refl cr.ok) cr⟩
  · cases e
theorem tyx_of {d : D} {v : V} {H : Hp} {π : List Addr} (B : Bd X nm P Γ cl fa gl df j) (r : Rp X.K cl H π d v) : match d with
    | .non => TyX X.K H v (.type "NoneType") | .bl _ => TyX X.K H v (.type "bool") | .int _ => TyX X.K H v (.type "int") | .str _ => TyX X.K H v (.type "str") | .tup _ => TyX X.K H v (.type "tuple") | .lst _ => TyX X.K H v (.type "list")
    | .obj c _ => ∃ C ns, cl c = some (C, ns) ∧ TyX X.K H v (.ref C) | .cel _ => True := by
  cases r with
  | non => exact .base .non
  | bl b => exact .base (.bl b)
  | int i => exact .base (.int i)
  | str x => exact .base (.str x)
  | tup h _ =>
    rcases h with (h | ⟨o, h⟩) | ⟨o, its, n, h, c, _⟩
    · exact .base (.tup h)
    · exact .fTuple h
    · exact .kTuple h c
  | lst h _ =>
    rcases h with ⟨o, h⟩ | ⟨o, its, n, h, c, _⟩
    · exact .base (.frz h)
    · exact .kList h c
  | @obj c C ad dx ns ds xs hc hH hn hr =>
    obtain ⟨h1, h2, h3, h4⟩ := B.gf.iso c C ns hc
    exact ⟨C, ns, hc, .base (.ins hH (B.gf.cls c C ns hc).1 h1 h2 h3 h4)⟩
  | cel _ => trivial
theorem kit_all (a b : String) (r : Bool) (h : kitB a b = some r) {K : PySem.W.Frag} : PySem.W.kitOne K (.type a) (.type b) = some r := kit_ty h
theorem isi_b {b : Blt} {T : String} {d e : D} {μ μ' : Mu} {v : V} {H : Hp} {π : List Addr} {Q : VK} (B : Bd X nm P Γ cl fa gl df j) (hb : (b = .isInt ∧ T = "int") ∨ (b = .isBool ∧ T = "bool") ∨ (b = .isTup ∧ T = "tuple")) (r : Rp X.K cl H π d v) (cr : CR X.K cl H π μ)
    (e1 : bltop P Γ b [d] μ = .ok e μ') (k : ∀ v H' π', Rp X.K cl H' π' e v → Mv H π H' π' → CR X.K cl H' π' μ' → Q v H') : rIsi X.K [v, .ty T] H Q := by
  have ty := tyx_of B r
  have fin : ∀ n : Bool, (Out.ok (D.bl n) μ : Out D) = .ok e μ' → Q (.bl n) H := fun n q => by
    cases q
    exact k _ H π (.bl n) (Mv.refl cr.ok) cr
  have ce : ∀ n, d = .cel n → TyX X.K H v (.type "dict") := fun n e => by
    subst e
    cases r with
    | cel h =>
      obtain ⟨kvs, q⟩ := cr.ok _ (List.mem_of_getElem? h)
      exact .base (.dK q)
  have oe : ∀ c fs T, d = .obj c fs → T ∈ ["bool", "int", "str", "tuple"] → ∃ C, TyX X.K H v (.ref C) ∧ PySem.W.kitOne X.K (.ref C) (.type T) = some false := fun c fs T e hT => by
    subst e
    obtain ⟨C, ns, hc, ty⟩ := ty
    exact ⟨C, ty, (B.gf.isk c C ns hc).2.2 T hT⟩
  rcases hb with ⟨rfl, rfl⟩ | ⟨rfl, rfl⟩ | ⟨rfl, rfl⟩ <;>
    (cases d <;> simp only [bltop] at e1 <;> first | (cases e1; done) | (obtain ⟨C, ty2, z⟩ := oe _ _ "int" rfl (by decide); exact ⟨v, .ty _, _, _, _, rfl, .ty _, ty2, z, fin _ e1⟩) | (obtain ⟨C, ty2, z⟩ := oe _ _ "bool" rfl (by decide); exact ⟨v, .ty _, _, _, _, rfl, .ty _, ty2, z, fin _ e1⟩) | (obtain ⟨C, ty2, z⟩ := oe _ _ "tuple" rfl (by decide); exact ⟨v, .ty _, _, _, _, rfl, .ty _, ty2, z, fin _ e1⟩) | exact ⟨v, .ty _, _, _, _, rfl, .ty _, ce _ rfl, kit_all _ _ _ (by decide +kernel), fin _ e1⟩ | exact ⟨v, .ty _, _, _, _, rfl, .ty _, ty, kit_all _ _ _ (by decide +kernel), fin _ e1⟩)
theorem isi_o {c : Nat} {C : Addr} {ns : List Str} {d e : D} {μ μ' : Mu} {v : V} {H : Hp} {π : List Addr} {Q : VK} (B : Bd X nm P Γ cl fa gl df j) (hc : cl c = some (C, ns)) (r : Rp X.K cl H π d v) (cr : CR X.K cl H π μ)
    (e1 : bltop P Γ (.isObj c) [d] μ = .ok e μ') (k : ∀ v H' π', Rp X.K cl H' π' e v → Mv H π H' π' → CR X.K cl H' π' μ' → Q v H') : rIsi X.K [v, .ref C] H Q := by
  have ty := tyx_of B r
  obtain ⟨z1, z2, z3⟩ := B.gf.isk c C ns hc
  have fin : ∀ n : Bool, (Out.ok (D.bl n) μ : Out D) = .ok e μ' → Q (.bl n) H := fun n q => by
    cases q
    exact k _ H π (.bl n) (Mv.refl cr.ok) cr
  cases d with
  | obj c' fs =>
    simp only [bltop] at e1
    split at e1
    · rename_i hcc
      subst hcc
      obtain ⟨C', ns', h1, ty⟩ := ty
      rw [hc] at h1
      cases h1
      exact ⟨v, .ref C, _, _, _, rfl, .own C, ty, z2, fin _ e1⟩
    · cases e1
  | cel _ => simp only [bltop] at e1; cases e1
  | _ => exact ⟨v, .ref C, _, _, _, rfl, .own C, ty, z1 _ (by decide), fin _ e1⟩
theorem cb_str : CallR X (.type "str") (RB X.K cl (bltop P Γ .str)) := by
  intro pins s σ H vs us Q I r ⟨ds, μ, π, d, μ', rp, cr, e, k⟩
  match ds, e with
  | [.int i], e =>
    simp only [bltop] at e
    split at e
    · rename_i hc
      cases e
      obtain ⟨v, rfl, r1⟩ := rps1 rp
      cases r1
      exact call_str_int pins s σ H _ us Q I r ⟨i, rfl, hc, k _ H π (.str _) (Mv.refl cr.ok) cr⟩
    · cases e
  | [.lst l], e => cases e
  | [.tup l], e => cases e
  | [.non], e => cases e
  | [.bl _], e => cases e
  | [.str _], e => cases e
  | [.obj _ _], e => cases e
  | [.cel _], e => cases e
  | [], e => cases e
  | _ :: _ :: _, e => simp only [bltop] at e; cases e
end
end Vw
set_option Elab.async false
set_option linter.all false
set_option maxRecDepth 100000
set_option maxHeartbeats 4000000
namespace Vw
open PySem PySem.Spec L2
mutual
theorem py_nodict : ∀ {d : D} {x : PyData}, d.py = some x → x.hasDict = false
  | .non, x, e => by rw [D.py] at e; cases e; rfl
  | .bl b, x, e => by rw [D.py] at e; cases e; rfl
  | .int i, x, e => by rw [D.py] at e; cases e; rfl
  | .str y, x, e => by rw [D.py] at e; cases e; rfl
  | .tup l, x, e => by
    rw [D.py] at e
    obtain ⟨ys, e1, e2⟩ := Option.map_eq_some_iff.mp e
    cases e2
    simpa only [PyData.hasDict] using pys_nodict e1
  | .lst l, x, e => by
    rw [D.py] at e
    obtain ⟨ys, e1, e2⟩ := Option.map_eq_some_iff.mp e
    cases e2
    simpa only [PyData.hasDict] using pys_nodict e1
  | .obj _ _, x, e => by rw [D.py] at e; cases e
  | .cel _, x, e => by rw [D.py] at e; cases e
theorem pys_nodict : ∀ {l : List D} {xs : List PyData}, D.pys l = some xs → PyData.hasDictAll xs = false
  | [], xs, e => by rw [D.pys] at e; cases e; rfl
  | d :: l, xs, e => by
    rw [D.pys] at e
    cases q1 : D.py d with
    | none => rw [q1] at e; simp at e
    | some x =>
      cases q2 : D.pys l with
      | none => rw [q1, q2] at e; simp at e
      | some ys =>
        rw [q1, q2] at e
        simp at e
        subst e
        simp only [PyData.hasDictAll, py_nodict q1, pys_nodict q2, Bool.or_self]
end
section
variable {X : Cx} {nm : Nm} {P : Pr} {Γ : Gam} {cl : Cls0} {fa : Fa} {gl df : Nat → Bool} {j : Nat} {H0 : Hp}
theorem repr_read {pins : List (Addr × Obj)} {s : Shared} {σ : L2.St} {H : Hp} {v : V} {u : Value} {x : PyData} {Q : VK} (hg : X.A.guards = some []) (hr : Room (j + 1) X.A) (I : Inv X pins σ H s) (rv : RelV v u) (h : Dp X.K H v x) (hnd : x.hasDict = false)
    (hs : PyData.showable x = true) (hl : x.shown.length ≤ 16777216) (hd : x.depth ≤ 64) (q : Q (.str x.shown) H) : wpAny (model X.prog X.w) X.A (call (.builtin "repr") [u]) (EP X pins σ Q) X.xe s := by
  have hu : X.A.units + (x.depth + 1) < cLine := by have := hr.un; omega
  obtain ⟨as, rd⟩ := Dp.reads I x v u h rv
  have go : ∀ a : Addr, Reads s.heap (.ref a) x as → wpAny (model X.prog X.w) X.A (call (.builtin "repr") [.ref a]) (EP X pins σ Q) X.xe s := fun a rd =>
    repr_of_reads' rd hs (PyData.noDict_hsm hnd) hg hu (fun _ _ e => e) (fun h' u tk k => ⟨.str _, H, I.kept k, ⟨_, rfl⟩, q⟩) hl
  cases rd with
  | none => exact PySem.P.repr_of_none ⟨.str _, H, I.tok _, ⟨_, rfl⟩, q⟩
  | bool b => exact PySem.P.repr_of_bool ⟨.str _, H, I.tok _, ⟨_, rfl⟩, by cases b <;> exact q⟩
  | int i t => exact PySem.P.repr_of_int (by simpa [PyData.showable] using hs) ⟨.str _, H, I.tok _, ⟨_, rfl⟩, q⟩
  | str y t => exact PySem.P.repr_of_str (hsz := hl) ⟨.str _, H, I.tok _, ⟨_, rfl⟩, q⟩
  | list h1 h2 h3 h4 => exact go _ (.list h1 h2 h3 h4)
  | tuple h1 h2 h3 h4 => exact go _ (.tuple h1 h2 h3 h4)
  | dict h1 h2 h3 h4 h5 => exact go _ (.dict h1 h2 h3 h4 h5)
theorem str_read {pins : List (Addr × Obj)} {s : Shared} {σ : L2.St} {H : Hp} {v : V} {u : Value} {x : PyData} {Q : VK} (hg : X.A.guards = some []) (hr : Room (j + 1) X.A) (I : Inv X pins σ H s) (rv : RelV v u) (hx : ∃ l, x = .tuple l) (h : Dp X.K H v x) (hnd : x.hasDict = false)
    (hs : PyData.showable x = true) (hl : x.shown.length ≤ 16777216) (hd : x.depth ≤ 64) (q : Q (.str x.shown) H) : wpAny (model X.prog X.w) X.A (call (.type "str") [u]) (EP X pins σ Q) X.xe s := by
  obtain ⟨as, rd⟩ := Dp.reads I x v u h rv
  obtain ⟨l, rfl⟩ := hx
  have hu : X.A.units + ((PyData.tuple l).depth + 3) < cLine := by have := hr.un; omega
  cases rd with
  | tuple h1 h2 h3 h4 =>
    exact str_of_reads (.tuple h1 h2 h3 h4) hs (PyData.noDict_hsm hnd) hg hu (fun _ _ e => e) (fun h' u tk k => ⟨.str _, H, I.kept k, ⟨_, rfl⟩, q⟩) hl
theorem cb_strD (B : Bd X nm P Γ cl fa gl df j) (hg : X.A.guards = some []) : CallR X (.type "str") (RB X.K cl (bltop P Γ .strD)) := by
  intro pins s σ H vs us Q I r ⟨ds, μ, π, d, μ', rp, cr, e, k⟩
  match ds, e with
  | [], e => cases e
  | _ :: _ :: _, e => simp only [bltop] at e; cases e
  | [d0], e =>
    cases d0 with
    | int i =>
      simp only [bltop] at e
      split at e
      · rename_i hc
        cases e
        obtain ⟨v, rfl, r1⟩ := rps1 rp
        cases r1
        exact call_str_int pins s σ H _ us Q I r ⟨i, rfl, hc, k _ H π (.str _) (Mv.refl cr.ok) cr⟩
      · cases e
    | tup l =>
      obtain ⟨v, rfl, r1⟩ := rps1 rp
      obtain ⟨u, rfl, ru⟩ : ∃ u, us = [u] ∧ RelV v u := by
        cases r with
        | cons a b => cases b; exact ⟨_, rfl, a⟩
      simp only [bltop] at e
      unfold rptx at e
      cases hp : (D.tup l).py with
      | none => rw [hp] at e; cases e
      | some x =>
        rw [hp] at e
        dsimp only at e
        by_cases hc : PyData.showable x = true ∧ x.shown.length ≤ cap ∧ x.depth ≤ 64
        · rw [if_pos hc] at e
          cases e
          have hx : ∃ l, x = .tuple l := by
            rw [D.py] at hp
            obtain ⟨ys, _, e2⟩ := Option.map_eq_some_iff.mp hp
            exact ⟨ys, e2.symm⟩
          exact str_read (j := j) hg B.room I ru hx (Rp.dp r1 hp) (py_nodict hp) hc.1 hc.2.1 hc.2.2 (k _ H π (.str _) (Mv.refl cr.ok) cr)
        · rw [if_neg hc] at e
          cases e
    | _ => simp only [bltop] at e; cases e
theorem cb_repr (B : Bd X nm P Γ cl fa gl df j) (hg : X.A.guards = some []) : CallR X (.builtin "repr") (RB X.K cl (bltop P Γ .repr)) := by
  intro pins s σ H vs us Q I r ⟨ds, μ, π, d, μ', rp, cr, e, k⟩
  match ds, e with
  | [], e => cases e
  | _ :: _ :: _, e => simp only [bltop] at e; cases e
  | [d0], e =>
    obtain ⟨v, rfl, r1⟩ := rps1 rp
    obtain ⟨u, rfl, ru⟩ : ∃ u, us = [u] ∧ RelV v u := by
      cases r with
      | cons a b => cases b; exact ⟨_, rfl, a⟩
    have data : (match rptx d0 with | some x => Out.ok (D.str x) μ | none => .bad) = .ok d μ' → wpAny (model X.prog X.w) X.A (call (.builtin "repr") [u]) (EP X pins σ Q) X.xe s := fun e => by
      unfold rptx at e
      cases hp : d0.py with
      | none => rw [hp] at e; cases e
      | some x =>
        rw [hp] at e
        dsimp only at e
        by_cases hc : PyData.showable x = true ∧ x.shown.length ≤ cap ∧ x.depth ≤ 64
        · rw [if_pos hc] at e
          cases e
          exact repr_read (j := j) hg B.room I ru (Rp.dp r1 hp) (py_nodict hp) hc.1 hc.2.1 hc.2.2 (k _ H π (.str _) (Mv.refl cr.ok) cr)
        · rw [if_neg hc] at e
          cases e
    cases r1 with
    | @obj c C ad dx ns fs xs hc hH hn hr =>
      cases ru
      simp only [bltop] at e
      obtain ⟨d1, μ1, e1, e2⟩ := Out.bind_eq_ok e
      obtain ⟨od, J⟩ := inst_of I hH
      obtain ⟨m, F⟩ := I.fr
      unfold callM at e1
      split at e1
      rotate_left
      · cases e1
      rename_i f hf
      have M := B.gf.mth c 53 f C ns hf hc
      have hs := M.at_
      rw [B.gf.rpn] at hs
      refine PySem.W.repr_K (by show X.A.units + 1 < cLine; have := B.room.un; omega) F I.mod.kin J hs M.fn ?_
      refine wpAny_mono (run_in1 (us := [.ref ad]) (vs := [.ref ad]) (Q := fun v H1 => ∃ π1, Rp X.K cl H1 π1 d1 v ∧ Mv H π H1 π1 ∧ CR X.K cl H1 π1 μ1) B (B.ff.meth c 53 f hf) I (.cons rfl .nil) (.cons (.obj hc hH hn hr) .nil) cr e1 fun v H1 π1 a b c => ⟨π1, a, b, c⟩) (fun u s2 ⟨v2, H2, I2, r2, π2, a, b, c⟩ => ?_) fun _ _ z => z
      cases a with
      | str y =>
        simp only at e2
        cases e2
        obtain ⟨t, rfl⟩ := r2
        exact ⟨.str y, H2, I2, ⟨t, rfl⟩, k _ H2 π2 (.str y) b c⟩
      | _ => simp only at e2; cases e2
    | non => exact data e
    | bl b => exact data e
    | int b => exact data e
    | str b => exact data e
    | tup a b => exact data e
    | lst a b => exact data e
    | cel a => exact data e
theorem ints_rps {K : PySem.W.Frag} {H : Hp} {π : List Addr} : ∀ {l : List D} {ns : List Int} {vs : List V}, intsOf l = some ns → Rps K cl H π l vs → vs = ns.map V.int
  | [], ns, vs, e, r => by
    cases r
    simp only [intsOf] at e
    cases e; rfl
  | d :: l, ns, vs, e, r => by
    cases r with
    | cons a b =>
      cases a with
      | int i =>
        simp only [intsOf] at e
        obtain ⟨m, e1, rfl⟩ := Option.map_eq_some_iff.mp e
        rw [ints_rps e1 b]; rfl
      | _ => simp only [intsOf] at e; cases e
theorem fold_max : ∀ (r : List Int) (i m : Int), m ∈ i :: r → (∀ y ∈ i :: r, y ≤ m) → r.foldl max i = m
  | [], i, m, h, _ => by
    simp only [List.mem_singleton] at h
    exact h.symm
  | a :: r, i, m, h, k => by
    rw [List.foldl_cons]
    have ki := k i (by simp)
    have ka := k a (by simp)
    refine fold_max r (max i a) m ?_ fun y hy => ?_
    · simp only [List.mem_cons] at h ⊢
      rcases h with h | h | h
      · left; omega
      · left; omega
      · exact .inr h
    · rcases List.mem_cons.mp hy with q | q
      · omega
      · exact k y (by simp [q])
theorem fold_min : ∀ (r : List Int) (i m : Int), m ∈ i :: r → (∀ y ∈ i :: r, m ≤ y) → r.foldl min i = m
  | [], i, m, h, _ => by
    simp only [List.mem_singleton] at h
    exact h.symm
  | a :: r, i, m, h, k => by
    rw [List.foldl_cons]
    have ki := k i (by simp)
    have ka := k a (by simp)
    refine fold_min r (min i a) m ?_ fun y hy => ?_
    · simp only [List.mem_cons] at h ⊢
      rcases h with h | h | h
      · left; omega
      · left; omega
      · exact .inr h
    · rcases List.mem_cons.mp hy with q | q
      · omega
      · exact k y (by simp [q])
theorem one_list {b : Blt} {μ μ' : Mu} {ds : List D} {d : D} (hb : b = .maxL ∨ b = .minL ∨ b = .sumL) (e : bltop P Γ b ds μ = .ok d μ') : ∃ l ns, ds = [.lst l] ∧ intsOf l = some ns := by
  rcases hb with rfl | rfl | rfl
  all_goals
    match ds, e with
    | [], e => cases e
    | _ :: _ :: _, e => simp only [bltop] at e; cases e
    | [.lst l], e =>
      simp only [bltop] at e
      cases q : intsOf l with
      | none => rw [q] at e; cases e
      | some ns => exact ⟨l, ns, rfl, q⟩
    | [.non], e => cases e
    | [.bl _], e => cases e
    | [.int _], e => cases e
    | [.str _], e => cases e
    | [.tup _], e => cases e
    | [.obj _ _], e => cases e
    | [.cel _], e => cases e
theorem cb_maxL (hc : X.calm = true) : CallR X (.builtin "max") (RB X.K cl (bltop P Γ .maxL)) := by
  intro pins s σ H vs us Q I r ⟨ds, μ, π, d, μ', rp, cr, e, k⟩
  obtain ⟨l, ns, rfl, q⟩ := one_list (.inl rfl) e
  obtain ⟨v, rfl, r1⟩ := rps1 rp
  simp only [bltop, q] at e
  cases r1 with
  | @lst a _ ws hl hr =>
    have hw := ints_rps q hr
    subst hw
    cases ns with
    | nil => simp at e
    | cons i ns =>
      simp only at e
      cases e
      exact cr_max hc pins s σ H _ us Q I r ⟨a, i :: ns, rfl, hl.sq, by simp, fun m h1 h2 => by
        have z := fold_max ns i m h1 h2
        subst z
        exact k _ H π (.int _) (Mv.refl cr.ok) cr⟩
theorem cb_minL (hc : X.calm = true) : CallR X (.builtin "min") (RB X.K cl (bltop P Γ .minL)) := by
  intro pins s σ H vs us Q I r ⟨ds, μ, π, d, μ', rp, cr, e, k⟩
  obtain ⟨l, ns, rfl, q⟩ := one_list (.inr (.inl rfl)) e
  obtain ⟨v, rfl, r1⟩ := rps1 rp
  simp only [bltop, q] at e
  cases r1 with
  | @lst a _ ws hl hr =>
    have hw := ints_rps q hr
    subst hw
    cases ns with
    | nil => simp at e
    | cons i ns =>
      simp only at e
      cases e
      exact cr_min hc pins s σ H _ us Q I r ⟨a, i :: ns, rfl, hl.sq, by simp, fun m h1 h2 => by
        have z := fold_min ns i m h1 h2
        subst z
        exact k _ H π (.int _) (Mv.refl cr.ok) cr⟩
theorem cb_sumL (hc : X.calm = true) : CallR X (.builtin "sum") (RB X.K cl (bltop P Γ .sumL)) := by
  intro pins s σ H vs us Q I r ⟨ds, μ, π, d, μ', rp, cr, e, k⟩
  obtain ⟨l, ns, rfl, q⟩ := one_list (.inr (.inr rfl)) e
  obtain ⟨v, rfl, r1⟩ := rps1 rp
  simp only [bltop, q] at e
  cases r1 with
  | @lst a _ ws hl hr =>
    have hw := ints_rps q hr
    subst hw
    cases e
    exact cr_sum hc pins s σ H _ us Q I r ⟨a, ns, rfl, hl.sq, k _ H π (.int _) (Mv.refl cr.ok) cr⟩
end
end Vw
set_option Elab.async false
set_option linter.all false
set_option maxRecDepth 100000
set_option maxHeartbeats 4000000
namespace Vw
open PySem PySem.Spec L2
section
variable {X : Cx} {nm : Nm} {P : Pr} {Γ : Gam} {cl : Cls0} {fa : Fa} {gl df : Nat → Bool} {j : Nat} {H0 : Hp}
theorem blt_le {b : Blt} {as : Es} : ∀ σ H (Q : VK), LE X.K cl H0 (ev P Γ (.blt b as)) σ H Q → tCB (RB X.K cl (bltop P Γ b)) (LA X.K cl H0 (evs P Γ as)) σ H Q := fun σ H Q ⟨ρ, μ, π, d, μ', rs, cr, e, k⟩ => by
  simp only [ev] at e
  obtain ⟨ds, μ1, e1, e⟩ := Out.bind_eq_ok e
  exact ⟨ρ, μ, π, ds, μ1, rs, cr, e1, fun vs H1 π1 r1 m1 c1 => ⟨ds, μ1, π1, d, μ', r1, c1, e, fun v H' π' r m c => k v H' π' r (m1.trans m) c⟩⟩
theorem snd_blt {sc : Scope} {b : Blt} {as : Es} {x : Str} {y : Expr} {ys : List Expr} {pos p2 : Pos} (hs : X.env.scope = sc) (B : Bd X nm P Γ cl fa gl df j) (hb : isIs b = false) (hr : (nm.rp || notRp b) = true) (h : glB sc x (bltN b) = true) (hx : (y :: ys).all plainX = true)
    (ha : PA X (y :: ys) (LA X.K cl H0 (evs P Γ as))) : Snd X cl H0 (.Call (.Name x p2) (y :: ys) [] pos) (ev P Γ (.blt b as)) := by
  obtain ⟨h1, h2, h3⟩ := glB_of h
  subst h1
  rw [List.all_cons, Bool.and_eq_true] at hx
  have hG : Gl X (bltN b) := by show X.env.scope.names.lookup _ = _; rw [hs]; exact h2
  have sc1 := star_cons (env := X.env) (es := ys) hx.1
  have sc2 := star_all (env := X.env) (pos := pos) hx.2
  refine .of (PE.of ?_ blt_le) rfl
  cases b with
  | len => exact pe_callB cb_len hG (B.gf.blt _ (by decide +kernel)) (by decide +kernel) ha (by decide +kernel) h3 sc1 sc2
  | abs => exact pe_callB cb_abs hG (B.gf.blt _ (by decide +kernel)) (by decide +kernel) ha (by decide +kernel) h3 sc1 sc2
  | int => exact pe_callTy cb_int hG (B.gf.blt _ (by decide +kernel)) (by decide +kernel) ha (by decide +kernel) h3 sc1 sc2
  | tuple => exact pe_callTy cb_tuple hG (B.gf.blt _ (by decide +kernel)) (by decide +kernel) ha (by decide +kernel) h3 sc1 sc2
  | list => exact pe_callTy cb_list hG (B.gf.blt _ (by decide +kernel)) (by decide +kernel) ha (by decide +kernel) h3 sc1 sc2
  | divmod => exact pe_callB cb_divmod hG (B.gf.blt _ (by decide +kernel)) (by decide +kernel) ha (by decide +kernel) h3 sc1 sc2
  | all => exact pe_callB (cb_all B.calm) hG (B.gf.blt _ (by decide +kernel)) (by decide +kernel) ha (by decide +kernel) h3 sc1 sc2
  | min2 => exact pe_callB (cb_min B.calm) hG (B.gf.blt _ (by decide +kernel)) (by decide +kernel) ha (by decide +kernel) h3 sc1 sc2
  | max2 => exact pe_callB (cb_max B.calm) hG (B.gf.blt _ (by decide +kernel)) (by decide +kernel) ha (by decide +kernel) h3 sc1 sc2
  | str => exact pe_callTy cb_str hG (B.gf.blt _ (by decide +kernel)) (by decide +kernel) ha (by decide +kernel) h3 sc1 sc2
  | strD => exact pe_callTy (cb_strD B (B.gd (by simpa [notRp] using hr))) hG (B.gf.blt _ (by decide +kernel)) (by decide +kernel) ha (by decide +kernel) h3 sc1 sc2
  | repr => exact pe_callB (cb_repr B (B.gd (by simpa [notRp] using hr))) hG (B.gf.blt _ (by decide +kernel)) (by decide +kernel) ha (by decide +kernel) h3 sc1 sc2
  | maxL => exact pe_callB (cb_maxL B.calm) hG (B.gf.blt _ (by decide +kernel)) (by decide +kernel) ha (by decide +kernel) h3 sc1 sc2
  | minL => exact pe_callB (cb_minL B.calm) hG (B.gf.blt _ (by decide +kernel)) (by decide +kernel) ha (by decide +kernel) h3 sc1 sc2
  | sumL => exact pe_callB (cb_sumL B.calm) hG (B.gf.blt _ (by decide +kernel)) (by decide +kernel) ha (by decide +kernel) h3 sc1 sc2
  | lcm => exact pe_callBfun cb_lcm hG B.gf.lcm ha h3 sc1 sc2
  | isInt => cases hb
  | isBool => cases hb
  | isTup => cases hb
  | isStr => cases hb
  | isObj c => cases hb
theorem snd_is {sc : Scope} {b : Blt} {e0 : E} {x : Str} {y z : Expr} {pos p2 : Pos} (hs : X.env.scope = sc) (B : Bd X nm P Γ cl fa gl df j) (hb : isIs b = true) (h : glB sc x (bltN b) = true) (hx : plainX y = true) (hz : isB nm sc b z = true)
    (hcl : ∀ c, b = .isObj c → ∃ C ns, cl c = some (C, ns)) (hy : Snd X cl H0 y (ev P Γ e0)) : Snd X cl H0 (.Call (.Name x p2) [y, z] [] pos) (ev P Γ (.blt b (.cons e0 .nil))) := by
  obtain ⟨h1, h2, h3⟩ := glB_of h
  subst h1
  have hG : Gl X (bltN b) := by show X.env.scope.names.lookup _ = _; rw [hs]; exact h2
  have hn : bltN b = "isinstance" := by cases b <;> first | rfl | (exact absurd hz (by simp [isB])) | cases hb
  rw [hn] at hG h3 ⊢
  have hM : X.mg "isinstance" = none := B.gf.blt _ (by decide +kernel)
  obtain ⟨zn, zp, rfl, hzn⟩ : ∃ zn zp, z = .Name zn zp ∧ ∃ T, glB sc zn T = true ∧ ((b = .isInt ∧ T = "int") ∨ (b = .isBool ∧ T = "bool") ∨ (b = .isTup ∧ T = "tuple") ∨ ∃ c, b = .isObj c ∧ T = nm.cls c) := by
    cases z <;> first | (cases b <;> (unfold isB at hz; cases hz); done) | skip
    rename_i zn zp
    refine ⟨zn, zp, rfl, ?_⟩
    cases b with
    | isInt => exact ⟨_, hz, .inl ⟨rfl, rfl⟩⟩
    | isBool => exact ⟨_, hz, .inr (.inl ⟨rfl, rfl⟩)⟩
    | isTup => exact ⟨_, hz, .inr (.inr (.inl ⟨rfl, rfl⟩))⟩
    | isStr => unfold isB at hz; cases hz
    | isObj c => exact ⟨_, hz, .inr (.inr (.inr ⟨c, rfl, rfl⟩))⟩
    | _ => cases hb
  obtain ⟨T, hT, hor⟩ := hzn
  obtain ⟨g1, g2, g3⟩ := glB_of hT
  subst g1
  have hGz : Gl X zn := by show X.env.scope.names.lookup _ = _; rw [hs]; exact g2
  have go : ∀ w : V, PE X (.Name zn zp) (tC w) → (∀ (d e : D) (μ μ' : Mu) (v : V) (H : Hp) (π : List Addr) (Q : VK), Rp X.K cl H π d v → CR X.K cl H π μ → bltop P Γ b [d] μ = .ok e μ' → (∀ v H' π', Rp X.K cl H' π' e v → Mv H π H' π' → CR X.K cl H' π' μ' → Q v H') → rIsi X.K [v, w] H Q) →
      Snd X cl H0 (.Call (.Name "isinstance" p2) [y, .Name zn zp] [] pos) (ev P Γ (.blt b (.cons e0 .nil))) := fun w hw hq =>
    .of (PE.of (pe_callB call_isi hG hM (by decide +kernel) (pa_cons hy.pe (pa_cons hw pa_nil) (star_cons hx)) (by decide +kernel) h3 (star_cons hx) rfl) fun σ H Q ⟨ρ, μ, π, d, μ', rs, cr, e, k⟩ => by
      simp only [ev, evs] at e
      obtain ⟨ds, μ1, e1, e⟩ := Out.bind_eq_ok e
      obtain ⟨d1, μ2, e2, e3⟩ := Out.bind_eq_ok e1
      simp only [Out.bind_ok] at e3
      cases e3
      exact ⟨ρ, μ, π, d1, _, rs, cr, e2, fun v1 H1 π1 r1 m1 c1 => hq d1 d _ μ' v1 H1 π1 Q r1 c1 e fun v H' π' r m c => k v H' π' r (m1.trans m) c⟩) rfl
  rcases hor with ⟨rfl, rfl⟩ | ⟨rfl, rfl⟩ | ⟨rfl, rfl⟩ | ⟨c, rfl, rfl⟩
  · exact go (.ty "int") (pe_bltn hGz (B.gf.blt _ (by decide +kernel)) (u := .type "int") (by decide +kernel) rfl) fun d e μ μ' v H π Q r cr e1 k => isi_b B (.inl ⟨rfl, rfl⟩) r cr e1 k
  · exact go (.ty "bool") (pe_bltn hGz (B.gf.blt _ (by decide +kernel)) (u := .type "bool") (by decide +kernel) rfl) fun d e μ μ' v H π Q r cr e1 k => isi_b B (.inr (.inl ⟨rfl, rfl⟩)) r cr e1 k
  · exact go (.ty "tuple") (pe_bltn hGz (B.gf.blt _ (by decide +kernel)) (u := .type "tuple") (by decide +kernel) rfl) fun d e μ μ' v H π Q r cr e1 k => isi_b B (.inr (.inr ⟨rfl, rfl⟩)) r cr e1 k
  · obtain ⟨C, ns, hc⟩ := hcl c rfl
    obtain ⟨Cl, hm, _⟩ := B.gf.cls c C ns hc
    exact go (.ref C) (pe_glob hGz hm rfl g3) fun d e μ μ' v H π Q r cr e1 k => isi_o B hc r cr e1 k
theorem lookup_valV : ∀ {kvs : Cel} {kv : List (Key × V)} {key : Str} {d : D} {K : PySem.W.Frag} {H : Hp} {π : List Addr}, kv.map (·.1) = kvs.map (fun p => (Sum.inr p.1 : Key)) → Rps K cl H π (kvs.map (·.2)) (kv.map (·.2)) → kvs.lookup key = some d →
    ∃ v, valV kv (Sum.inr key) = some v ∧ Rp K cl H π d v
  | [], _, _, _, _, _, _, _, _, h => by simp at h
  | p :: kvs, [], _, _, _, _, _, h, _, _ => by simp at h
  | p :: kvs, q :: kv, key, d, K, H, π, hk, hr, h => by
    rw [List.map_cons, List.map_cons] at hk hr
    obtain ⟨k1, k2⟩ := List.cons.inj hk
    cases hr with
    | cons r1 r2 =>
      rw [List.lookup_cons] at h
      by_cases e : key = p.1
      · subst e
        rw [beq_self_eq_true] at h
        cases h
        exact ⟨q.2, valV_pos k1, r1⟩
      · rw [beq_eq_false_iff_ne.mpr e] at h
        obtain ⟨v, h1, h2⟩ := lookup_valV k2 r2 h
        exact ⟨v, by rw [valV_neg (by rw [k1]; exact fun z => e (Sum.inr.inj z).symm)]; exact h1, h2⟩
theorem snd_dget {o : E} {key : Str} {x : Expr} {k2 : Nat} {pos p2 : Pos} (B : Bd X nm P Γ cl fa gl df j) (ho : Snd X cl H0 x (ev P Γ o)) : Snd X cl H0 (.Subscript x (.Constant (.str key) k2 p2) pos) (ev P Γ (.dget o key)) :=
  .of (PE.of (pe_dget (hu_of B.room) ho.pe pe_str (fun _ _ => rfl)) fun σ H Q ⟨ρ, μ, π, d, μ', rs, cr, e, k⟩ => by
    simp only [ev] at e
    obtain ⟨d1, μ1, e1, e⟩ := Out.bind_eq_ok e
    refine ⟨ρ, μ, π, d1, μ1, rs, cr, e1, fun v1 H1 π1 r1 m1 c1 => ?_⟩
    cases r1 with
    | @cel n a hn =>
      simp only at e
      split at e
      · rename_i kvs q1
        split at e
        · rename_i d' q2
          cases e
          obtain ⟨a', kv, z1, z2, z3, z4, z5⟩ := c1.at_ n kvs q1
          rw [hn] at z1
          cases z1
          obtain ⟨v, y1, y2⟩ := lookup_valV z3 z5 q2
          exact ⟨a, v, rfl, by rw [← y1]; exact DGet.k (k := Sum.inr key) z2, k v H1 π1 y2 m1 c1⟩
        · cases e
      · cases e
    | _ => cases e) rfl
inductive Sns (X : Cx) (cl : Cls0) (H0 : Hp) (P : Pr) (Γ : Gam) : Es → List Expr → Prop
  | nil : Sns X cl H0 P Γ .nil []
  | cons {e : E} {es : Es} {x : Expr} {xs : List Expr} : plainX x = true → Snd X cl H0 x (ev P Γ e) → Sns X cl H0 P Γ es xs → Sns X cl H0 P Γ (.cons e es) (x :: xs)
theorem Sns.pa : ∀ {es : Es} {xs : List Expr}, Sns X cl H0 P Γ es xs → PA X xs (LA X.K cl H0 (evs P Γ es))
  | _, _, .nil => pa_none
  | _, _, .cons h a r => pa_more h a (Sns.pa r)
theorem Sns.all : ∀ {es : Es} {xs : List Expr}, Sns X cl H0 P Γ es xs → xs.all plainX = true
  | _, _, .nil => rfl
  | _, _, .cons h a r => by rw [List.all_cons, h, Sns.all r]; rfl
theorem pps_of {pos : Pos} : ∀ {keys : List Str} {ks : List (Option Expr)} {es : Es} {xs : List Expr}, chkd keys ks = true → Sns X cl H0 P Γ es xs → keys.length = xs.length →
    ∃ trs, PPs X pos ks xs trs ∧ ks.all (·.isSome) = true ∧ ks.length = xs.length ∧ ∀ (ρ : Rho) (μ μ' : Mu) (π : List Addr) (ds : List D) (σ : L2.St) (H : Hp) (Q : List (V × V) → Hp → Prop), RelS X.K cl H0 ρ σ H π → CR X.K cl H π μ → evs P Γ es ρ μ = .ok ds μ' →
      (∀ vs H' π', Rps X.K cl H' π' ds vs → Mv H π H' π' → CR X.K cl H' π' μ' → Q ((keys.map V.str).zip vs) H') → tPairs trs σ H Q
  | [], [], _, _, _, .nil, _ => ⟨[], pps_nil, rfl, rfl, fun ρ μ μ' π ds σ H Q rs cr e k => by
      simp only [evs] at e
      cases e
      exact k [] H π .nil (Mv.refl cr.ok) cr⟩
  | k :: keys, ks, .cons e es, x :: xs, h, .cons hp hs hr, hl => by
    match ks, h with
    | some (.Constant (.str z) n p) :: ks, h =>
      unfold chkd at h
      rw [Bool.and_eq_true] at h
      obtain ⟨h1, h2⟩ := h
      have h1 := of_decide_eq_true h1
      subst h1
      obtain ⟨trs, t1, t2, t3, t4⟩ := pps_of (pos := pos) h2 hr (by simpa using hl)
      refine ⟨(tC (.str k), LE X.K cl H0 (ev P Γ e)) :: trs, pps_cons pe_str hs.pe t1, by rw [List.all_cons, t2]; rfl, by simp [t3], fun ρ μ μ' π ds σ H Q rs cr ee kk => ?_⟩
      simp only [evs] at ee
      obtain ⟨d1, μ1, e1, ee⟩ := Out.bind_eq_ok ee
      obtain ⟨d2, μ2, e2, ee⟩ := Out.bind_eq_ok ee
      cases ee
      exact ⟨ρ, μ, π, d1, μ1, rs, cr, e1, fun v1 H1 π1 r1 m1 c1 => t4 ρ μ1 _ π1 d2 σ H1 _ (rs.mv cr.ok m1) c1 e2 fun vs H' π' r2 m2 c2 => kk (v1 :: vs) H' π' (.cons (r1.mv c1.ok m2) r2) (m1.trans m2) c2⟩
    | [], h => cases h
    | none :: _, h => cases h
    | some (.Constant .none _ _) :: _, h => cases h
    | some (.Constant (.bool _) _ _) :: _, h => cases h
    | some (.Constant (.int _) _ _) :: _, h => cases h
    | some (.Constant (.float _) _ _) :: _, h => cases h
    | some (.Constant (.complex _ _) _ _) :: _, h => cases h
    | some (.Constant (.bytes _) _ _) :: _, h => cases h
    | some (.Constant .ellipsis _ _) :: _, h => cases h
    | some (.BoolOp ..) :: _, h => cases h
    | some (.NamedExpr ..) :: _, h => cases h
    | some (.BinOp ..) :: _, h => cases h
    | some (.UnaryOp ..) :: _, h => cases h
    | some (.Lambda ..) :: _, h => cases h
    | some (.IfExp ..) :: _, h => cases h
    | some (.Dict ..) :: _, h => cases h
    | some (.Set ..) :: _, h => cases h
    | some (.ListComp ..) :: _, h => cases h
    | some (.SetComp ..) :: _, h => cases h
    | some (.DictComp ..) :: _, h => cases h
    | some (.GeneratorExp ..) :: _, h => cases h
    | some (.Await ..) :: _, h => cases h
    | some (.Yield ..) :: _, h => cases h
    | some (.YieldFrom ..) :: _, h => cases h
    | some (.Compare ..) :: _, h => cases h
    | some (.Call ..) :: _, h => cases h
    | some (.FormattedValue ..) :: _, h => cases h
    | some (.JoinedStr ..) :: _, h => cases h
    | some (.Attribute ..) :: _, h => cases h
    | some (.Subscript ..) :: _, h => cases h
    | some (.Starred ..) :: _, h => cases h
    | some (.Name ..) :: _, h => cases h
    | some (.List ..) :: _, h => cases h
    | some (.Tuple ..) :: _, h => cases h
    | some (.Slice ..) :: _, h => cases h
  | _ :: _, _, _, [], _, _, hl => by simp at hl
  | [], _ :: _, _, _, h, _, _ => by cases h
theorem nodup_map {α β : Type} {f : α → β} (hf : ∀ a b, f a = f b → a = b) : ∀ {l : List α}, l.Nodup → (l.map f).Nodup
  | [], _ => by simp
  | a :: l, h => by
    rw [List.nodup_cons] at h
    rw [List.map_cons, List.nodup_cons]
    refine ⟨fun m => ?_, nodup_map hf h.2⟩
    obtain ⟨b, hb, e⟩ := List.mem_map.mp m
    exact h.1 (by rw [hf _ _ e.symm]; exact hb)
theorem merge_nodup : ∀ (kvs acc : List (Key × V)), (kvs.map (·.1)).Nodup → (∀ p ∈ kvs, ∀ q ∈ acc, q.1 ≠ p.1) → mergeK acc kvs = acc ++ kvs
  | [], acc, _, _ => by simp [mergeK]
  | p :: r, acc, nd, h => by
    rw [List.map_cons, List.nodup_cons] at nd
    have e : putK acc p.1 p.2 = acc ++ [p] := by
      unfold putK
      rw [if_neg]
      simp only [List.any_eq_true, decide_eq_true_eq, not_exists, not_and]
      exact fun q hq => h p (List.mem_cons_self ..) q hq
    show mergeK (putK acc p.1 p.2) r = _
    rw [e, merge_nodup r _ nd.2 (fun q hq z hz => ?_)]
    · simp
    · rcases List.mem_append.mp hz with hz | hz
      · exact h q (List.mem_cons_of_mem _ hq) z hz
      · rw [List.mem_singleton.mp hz]
        exact fun w => nd.1 (by rw [w]; exact List.mem_map_of_mem hq)
theorem snd_dict0 {pos : Pos} : Snd X cl H0 (.Dict [] [] pos) (ev P Γ (.dict [] .nil)) := by
  refine .of ⟨fun pins s σ H Q I ⟨ρ, μ, π, d, μ', rs, cr, e, k⟩ => ?_⟩ rfl
  simp only [ev, evs, Out.bind_ok] at e
  rw [if_pos ⟨rfl, by decide, List.nodup_nil⟩] at e
  cases e
  refine (pe_dnewK (X := X)).run pins s σ H Q I fun p hp => ?_
  have hpn : p ∉ π := fun z => by
    obtain ⟨kvs, z2⟩ := cr.ok p z
    rw [hp] at z2; cases z2
  have okN : PiOk (upd H p (.dK [])) (π ++ [p]) := fun a ha => by
    rcases List.mem_append.mp ha with h | h
    · obtain ⟨kv, q⟩ := cr.ok a h
      exact ⟨kv, by rw [upd_ne (fun z => by rw [z] at h; exact hpn h)]; exact q⟩
    · exact ⟨[], by rw [List.mem_singleton.mp h]; exact upd_same⟩
  have mEnd : Mv H π (upd H p (.dK [])) (π ++ [p]) := by
    refine ⟨⟨[p], rfl, fun a ha => ?_⟩, fun b o hb _ => ?_, okN⟩
    · rw [List.mem_singleton.mp ha]; exact hp
    · rw [upd_ne (ne_of_none hb hp)]; exact hb
  have mTails : ∀ {ds : List D} {xs : List V}, Rps X.K cl H π ds xs → Rps X.K cl (upd H p (.dK [])) (π ++ [p]) ds xs := fun r0 => r0.mv cr.ok mEnd
  refine k _ _ (π ++ [p]) (.cel (by rw [← cr.len]; simp)) mEnd ⟨by simp [cr.len], ?_, okN, ?_⟩
  · rw [List.nodup_append]
    refine ⟨cr.nd, by simp, fun a ha b hb z => ?_⟩
    rw [List.mem_singleton.mp hb] at z
    rw [z] at ha
    exact hpn ha
  · intro n kvs hn
    by_cases hlt : n < μ.length
    · rw [List.getElem?_append_left hlt] at hn
      obtain ⟨a, kv, y1, y2, y3, y4, y5⟩ := cr.at_ n kvs hn
      refine ⟨a, kv, by rw [List.getElem?_append_left (by rw [cr.len]; exact hlt)]; exact y1, ?_, y3, y4, mTails y5⟩
      rw [upd_ne (fun z => by rw [z] at y1; exact hpn (List.mem_of_getElem? y1))]
      exact y2
    · have hn2 : n = μ.length := by
        have := (List.getElem?_eq_some_iff.mp hn).1
        rw [List.length_append, List.length_singleton] at this
        omega
      subst hn2
      rw [List.getElem?_append_right (Nat.le_refl _), Nat.sub_self] at hn
      have hn : some ([] : List (Str × D)) = some kvs := by simpa using hn
      cases hn
      exact ⟨p, [], by rw [← cr.len]; simp, upd_same, rfl, List.nodup_nil, .nil⟩
theorem snd_dict {keys : List Str} {es : Es} {ks : List (Option Expr)} {xs : List Expr} {pos : Pos} (hk : chkd keys ks = true) (hn : Sns X cl H0 P Γ es xs) (hl : keys.length = xs.length) : Snd X cl H0 (.Dict ks xs pos) (ev P Γ (.dict keys es)) := by
  by_cases c4 : keys = []
  · subst c4
    cases ks with
    | cons _ _ => simp [chkd] at hk
    | nil =>
      cases hn with
      | nil => exact snd_dict0
      | cons _ _ _ => simp at hl
  obtain ⟨trs, t1, t2, t3, t4⟩ := pps_of (pos := pos) hk hn hl
  refine .of ⟨fun pins s σ H Q I ⟨ρ, μ, π, d, μ', rs, cr, e, k⟩ => ?_⟩ rfl
  simp only [ev] at e
  obtain ⟨ds, μ1, e1, e⟩ := Out.bind_eq_ok e
  split at e
  · rename_i hc
    obtain ⟨c1, c2, c3⟩ := hc
    cases e
    have hks : ks ≠ [] := fun z => by
      rw [z] at t3
      rw [← hl] at t3
      exact c4 (List.eq_nil_of_length_eq_zero t3.symm)
    refine (pe_disp (X := X) t1 t2 t3 hks (by rw [t3, ← hl]; exact c2)).run pins s σ H Q I fun p hp => ?_
    have m0 := Mv.new (o := .dK []) cr.ok hp
    have c0 := cr.new (o := .dK []) hp
    refine t4 ρ μ μ1 π ds σ _ _ (rs.mv cr.ok m0) c0 e1 fun vs H' π' r m c => ?_
    have hpn : p ∉ π := fun z => by
      obtain ⟨kvs, z2⟩ := cr.ok p z
      rw [hp] at z2; cases z2
    have hp' := m.keep p _ upd_same hpn
    have hlen : keys.length = vs.length := by rw [c1, r.length]
    refine ⟨hp', (keys.zip vs).map fun q => ((Sum.inr q.1 : Key), q.2), ?_, ?_, ?_⟩
    · rw [List.map_map]
      have gen : ∀ (a : List Str) (b : List V), (a.map V.str).zip b = (a.zip b).map ((fun kv : Key × V => (kV kv.1, kv.2)) ∘ fun q => (Sum.inr q.1, q.2)) := by
        intro a
        induction a with
        | nil => intro b; rfl
        | cons x a ih =>
          intro b
          cases b with
          | nil => rfl
          | cons y b =>
            simp only [List.map_cons, List.zip_cons_cons]
            rw [ih b]; rfl
      exact gen keys vs
    · rw [List.length_map, List.length_zip]; omega
    · have z1 : ((keys.zip vs).map fun q => ((Sum.inr q.1 : Key), q.2)).map (·.1) = (keys.zip ds).map (fun q => (Sum.inr q.1 : Key)) := by
        rw [List.map_map]
        have gen : ∀ (a : List Str) (b : List V) (c : List D), b.length = c.length → (a.zip b).map ((fun x : Key × V => x.1) ∘ fun q => ((Sum.inr q.1 : Key), q.2)) = (a.zip c).map (fun q => (Sum.inr q.1 : Key)) := by
          intro a
          induction a with
          | nil => intro b c _; rfl
          | cons x a ih =>
            intro b c hbc
            cases b with
            | nil =>
              cases c with
              | nil => rfl
              | cons _ _ => simp at hbc
            | cons y b =>
              cases c with
              | nil => simp at hbc
              | cons z c =>
                simp only [List.zip_cons_cons, List.map_cons]
                rw [ih b c (by simpa using hbc)]; rfl
        exact gen keys vs ds r.length.symm
      have z2 : (keys.zip ds).map (·.1) = keys := by
        rw [List.map_fst_zip]; omega
      have z3 : (keys.zip ds).map (·.2) = ds := by
        rw [List.map_snd_zip]; omega
      have z4 : ((keys.zip vs).map fun q => ((Sum.inr q.1 : Key), q.2)).map (·.2) = vs := by
        rw [List.map_map]
        have : ((fun x : Key × V => x.2) ∘ fun q : Str × V => ((Sum.inr q.1 : Key), q.2)) = fun q => q.2 := rfl
        rw [this, List.map_snd_zip]; omega
      have nd : (((keys.zip vs).map fun q => ((Sum.inr q.1 : Key), q.2)).map (·.1)).Nodup := by
        rw [z1]
        have : (keys.zip ds).map (fun q => (Sum.inr q.1 : Key)) = keys.map Sum.inr := by
          have q : (keys.zip ds).map (fun q => (Sum.inr q.1 : Key)) = ((keys.zip ds).map (·.1)).map Sum.inr := by rw [List.map_map]; rfl
          rw [q, z2]
        rw [this]
        exact nodup_map (fun a b h => Sum.inr.inj h) c3
      rw [merge_nodup _ _ nd (by simp)]
      rw [List.nil_append]
      have hpn' : p ∉ π' := fun z => by
        obtain ⟨ext, q1, q2⟩ := m.ext
        rw [q1] at z
        rcases List.mem_append.mp z with z | z
        · exact hpn z
        · have := q2 p z
          rw [upd_same] at this; cases this
      have okN : PiOk (upd H' p (.dK ((keys.zip vs).map fun q => ((Sum.inr q.1 : Key), q.2)))) (π' ++ [p]) := fun a ha => by
        rcases List.mem_append.mp ha with ha | ha
        · obtain ⟨kv, q⟩ := c.ok a ha
          have hne : a ≠ p := fun z => by
            rw [z] at ha
            exact hpn' ha
          exact ⟨kv, by rw [upd_ne hne]; exact q⟩
        · rw [List.mem_singleton.mp ha]; exact ⟨_, upd_same⟩
      have mEnd : Mv H π (upd H' p (.dK ((keys.zip vs).map fun q => ((Sum.inr q.1 : Key), q.2)))) (π' ++ [p]) := by
        obtain ⟨ext, q1, q2⟩ := m.ext
        refine ⟨⟨ext ++ [p], by rw [q1, List.append_assoc], fun a ha => ?_⟩, fun b o hb hbn => ?_, okN⟩
        · rcases List.mem_append.mp ha with ha | ha
          · have z := q2 a ha
            by_cases hap : a = p
            · rw [hap]; exact hp
            · rw [upd_ne hap] at z; exact z
          · rw [List.mem_singleton.mp ha]; exact hp
        · have hbp : b ≠ p := ne_of_none hb hp
          rw [upd_ne hbp]
          exact m.keep b o (by rw [upd_ne hbp]; exact hb) hbn
      have mTail : ∀ {d : D} {v : V}, Rp X.K cl H' π' d v → Rp X.K cl (upd H' p (.dK ((keys.zip vs).map fun q => ((Sum.inr q.1 : Key), q.2)))) (π' ++ [p]) d v := fun r0 =>
        r0.st (Ste.dK hp') fun k0 a0 h0 => by rw [List.getElem?_append_left (List.getElem?_eq_some_iff.mp h0).1]; exact h0
      have mTails : ∀ {ds : List D} {xs : List V}, Rps X.K cl H' π' ds xs → Rps X.K cl (upd H' p (.dK ((keys.zip vs).map fun q => ((Sum.inr q.1 : Key), q.2)))) (π' ++ [p]) ds xs := fun r0 =>
        r0.st (Ste.dK hp') fun k0 a0 h0 => by rw [List.getElem?_append_left (List.getElem?_eq_some_iff.mp h0).1]; exact h0
      refine k _ _ (π' ++ [p]) (.cel ?_) mEnd ⟨?_, ?_, okN, ?_⟩
      · have hl2 := c.len
        rw [← hl2]
        simp
      · simp [c.len]
      · rw [List.nodup_append]
        refine ⟨c.nd, by simp, fun a ha b hb => ?_⟩
        rw [List.mem_singleton.mp hb]
        intro z
        rw [z] at ha
        exact hpn' ha
      · intro n kvs hn
        by_cases hlt : n < μ1.length
        · rw [List.getElem?_append_left hlt] at hn
          obtain ⟨a, kv, y1, y2, y3, y4, y5⟩ := c.at_ n kvs hn
          refine ⟨a, kv, by rw [List.getElem?_append_left (by rw [c.len]; exact hlt)]; exact y1, ?_, y3, y4, mTails y5⟩
          have hne : a ≠ p := fun z => by
            rw [z] at y1
            exact hpn' (List.mem_of_getElem? y1)
          rw [upd_ne hne]; exact y2
        · have hn2 : n = μ1.length := by
            have := (List.getElem?_eq_some_iff.mp hn).1
            rw [List.length_append, List.length_singleton] at this
            omega
          subst hn2
          rw [List.getElem?_append_right (Nat.le_refl _), Nat.sub_self] at hn
          have hn : some (keys.zip ds) = some kvs := by simpa using hn
          cases hn
          refine ⟨p, _, by rw [← c.len]; simp, upd_same, ?_, by rw [z2]; exact c3, by rw [z3, z4]; exact mTails r⟩
          exact z1
  · cases e
end
end Vw
set_option Elab.async false
set_option linter.all false
set_option maxRecDepth 100000
set_option maxHeartbeats 4000000
namespace Vw
open PySem PySem.Spec L2
section
variable {X : Cx} {nm : Nm} {P : Pr} {Γ : Gam} {cl : Cls0} {fa : Fa} {gl df : Nat → Bool} {j : Nat} {H0 : Hp}
def Nw (H H' : Hp) : Prop := H' = H ∨ ∃ T o, H T = none ∧ H' = upd H T o
def Yld (K : PySem.W.Frag) (cl : Cls0) (J : L2.It) (items : List D) (H : Hp) (π : List Addr) : Prop :=
  ∀ H' π', Ste H H' → (∀ (k : Nat) a, π[k]? = some a → π'[k]? = some a) → PiOk H' π' → (∀ i d, items[i]? = some d → J.go i H' ∧ ∀ x H'', J.yld i H' x H'' → Rp K cl H'' π' d x ∧ Nw H' H'') ∧ J.stop items.length H'
def LI (K : PySem.W.Frag) (cl : Cls0) (H0 : Hp) (r : Rho → Mu → Out (List D)) : TI := fun σ H R => ∃ ρ μ π items μ', RelS K cl H0 ρ σ H π ∧ CR K cl H π μ ∧ r ρ μ = .ok items μ' ∧
  ∀ J H' π', Yld K cl J items H' π' → Mv H π H' π' → CR K cl H' π' μ' → R J H'
theorem Mv.ste {H H' : Hp} {π π' : List Addr} (p : PiOk H π) (m : Mv H π H' π') : Ste H H' := fun b o e k => m.keep b o e fun hb => by
  obtain ⟨kvs, q⟩ := p b hb
  rw [e] at q
  cases q
  exact k
theorem Nw.mv {H H' : Hp} {π : List Addr} (p : PiOk H π) (n : Nw H H') : Mv H π H' π := by
  rcases n with rfl | ⟨T, o, h, rfl⟩
  · exact Mv.refl p
  · exact Mv.new p h
theorem Nw.cr {K : PySem.W.Frag} {H H' : Hp} {π : List Addr} {μ : Mu} (c : CR K cl H π μ) (n : Nw H H') : CR K cl H' π μ := by
  rcases n with rfl | ⟨T, o, h, rfl⟩
  · exact c
  · exact c.new h
theorem PI.of {X : Cx} {tg e : Expr} {t t' : TI} (h : PI X tg e t) (k : ∀ σ H R, t' σ H R → t σ H R) : PI X tg e t' := ⟨fun pins s σ H R I q => h.run pins s σ H R I (k σ H R q)⟩
theorem rng_get {lo c : Int} {n i : Nat} {d : D} (h : (rngs lo n c)[i]? = some d) : i < n ∧ d = .int (lo + (i : Nat) * c) := by
  unfold rngs at h
  rw [List.getElem?_map] at h
  by_cases hi : i < n
  · rw [List.getElem?_range hi] at h
    exact ⟨hi, by simpa using h.symm⟩
  · rw [List.getElem?_eq_none (by simpa using hi)] at h
    simp at h
theorem rng_len {lo c : Int} {n : Nat} : (rngs lo n c).length = n := by unfold rngs; simp
theorem yld_r {K : PySem.W.Frag} {lo : Int} {n : Nat} {H : Hp} {π : List Addr} : Yld K cl (Itr lo n) (rngs lo n 1) H π := fun H' π' _ _ _ =>
  ⟨fun i d h => by
    obtain ⟨hi, rfl⟩ := rng_get h
    exact ⟨hi, fun x H'' ⟨e1, e2⟩ => by
      subst e1 e2
      rw [Int.mul_one]
      exact ⟨.int _, .inl rfl⟩⟩, by
    rw [rng_len]
    exact Nat.le_refl _⟩
theorem inR_of {i : Int} (h : inR i = true) : -(2 ^ 62) ≤ i ∧ i < 2 ^ 62 := by
  unfold inR at h
  simp only [Bool.and_eq_true, decide_eq_true_eq] at h
  exact h
theorem turn_long {P : Program} {w : World} {K : PySem.W.Frag} {tg : Expr} (it : Addr) (lo : Int) (n : Nat) : Turn P w K tg (Itr lo n) [it] it (fun i h => IsLongIter h it (lo + (i : Nat) * 1) ((n : Int) - (i : Nat)) 1) where
  mem := by simp
  obj := fun i h st b hb => by
    have e : b = it := by simpa using hb
    subst e
    exact ⟨_, st, fun v z => by
      have z' : Data.fields _ = Data.cell v := z
      cases z'⟩
  keep := fun i h h' st k => k it (by simp) _ st
  item := by
    intro X hP hw hK hc i pins s σ H E I hf st hg
    subst hP hw hK
    obtain ⟨f0, f1, f2, f3, f4, f5⟩ := hf it (by simp)
    have W := Walks.longrange (prog := X.prog) (w := X.w) (I.ok.hd hc) it lo 1 n
    refine W.item i s _ _ hg st fun v h' tk hv st' kk => ?_
    obtain ⟨t, rfl⟩ := hv
    have I1 : Inv X pins σ H { s with heap := h', toks := tk } := I.turned (fun b o hb e => kk b o (by simpa using hb) e) f0 f1 f3 f4 f5
    refine ⟨_, rfl, go_of (s := { s with heap := h', toks := tk }) (n := "longrange_iterator") st' rfl rfl (by decide) ⟨.int (lo + i), H, I1, ⟨t, ?_⟩, ⟨rfl, rfl⟩, st', fun b hb => (hf b hb).1⟩⟩
    rw [Int.mul_one]
  done := by
    intro X hP hw hK hc i pins s σ H E I hf st hg
    subst hP hw hK
    obtain ⟨f0, f1, f2, f3, f4, f5⟩ := hf it (by simp)
    exact wpAny_pyNext_long_end (I.ok.hd hc) st (by have : n ≤ i := hg; omega) fun h' eb => ⟨rfl, I.turned (t' := s.toks) (fun b o hb e => eb b o hb e) f0 f1 f3 f4 f5⟩
  self := fun _ _ _ _ _ st h => wpAny_pyIter_longiter st h
theorem range_any {tg : Expr} {pins : List (Addr × Obj)} {σ : L2.St} {H : Hp} {s : Shared} {R : L2.It → Hp → Prop} {E : Value → Shared → Prop} {lo hi : Int} {t u v : Tok} {tk : Nat} (I : Inv X pins σ H s)
    (q : R (Itr lo (hi - lo).toNat) H) : wpAny (model X.prog X.w) X.A (pyIter (.ref s.heap.objs.size)) (PIE X pins σ tg R) E { s with heap := s.heap.push { cls := .type "range", data := .fields #[.int lo t, .int hi u, .int 1 v] }, toks := tk } := by
  have I1 : Inv X pins σ H { s with heap := s.heap.push { cls := .type "range", data := .fields #[.int lo t, .int hi u, .int 1 v] }, toks := tk } := I.kept fun b o e => Heap.get?_push_of_some _ e
  have e1 : lo + ((0 : Nat) : Int) * 1 = lo := by simp
  have e2 : (((hi - lo).toNat : Nat) : Int) - ((0 : Nat) : Int) = Builtin.Range.rangeSize lo hi 1 := by rw [rangeSize_one]; split <;> omega
  have fp : ∀ b ∈ [(s.heap.push { cls := .type "range", data := .fields #[.int lo t, .int hi u, .int 1 v] }).objs.size], FpOk X pins H b := fun b hb => by
    have e : b = (s.heap.push { cls := .type "range", data := .fields #[.int lo t, .int hi u, .int 1 v] }).objs.size := by simpa using hb
    subst e
    exact I1.fpOk (Nat.le_refl _) (I1.hok.fresh (Nat.le_refl _))
  cases hs : Builtin.Range.small lo hi 1 with
  | true =>
    refine wpAny_pyIter_range (IsRange.new ..) hs ?_
    refine ⟨(s.heap.push { cls := .type "range", data := .fields #[.int lo t, .int hi u, .int 1 v] }).objs.size, [(s.heap.push { cls := .type "range", data := .fields #[.int lo t, .int hi u, .int 1 v] }).objs.size], _, _, H, rfl,
      I1.kept (t' := tk) fun b o e => Heap.get?_push_of_some _ e, turn_range _ lo (hi - lo).toNat, ?_, fp, q⟩
    show IsRangeIter _ _ (lo + ((0 : Nat) : Int) * 1) ((((hi - lo).toNat : Nat) : Int) - ((0 : Nat) : Int)) 1
    rw [e1, e2]
    exact Heap.get?_push_size _ rfl
  | false =>
    refine wpAny_pyIter_longrange (IsRange.new ..) hs ?_
    refine ⟨(s.heap.push { cls := .type "range", data := .fields #[.int lo t, .int hi u, .int 1 v] }).objs.size, [(s.heap.push { cls := .type "range", data := .fields #[.int lo t, .int hi u, .int 1 v] }).objs.size], _, _, H, rfl,
      I1.kept (t' := tk) fun b o e => Heap.get?_push_of_some _ e, turn_long _ lo (hi - lo).toNat, ?_, fp, q⟩
    show IsLongIter _ _ (lo + ((0 : Nat) : Int) * 1) ((((hi - lo).toNat : Nat) : Int) - ((0 : Nat) : Int)) 1
    rw [e1, e2]
    exact Heap.get?_push_size _ rfl
theorem sni_r1 {sc : Scope} {a : E} {tg y : Expr} {x : Str} {pos p2 : Pos} (hs : X.env.scope = sc) (B : Bd X nm P Γ cl fa gl df j) (h : glB sc x "range" = true) (hx : plainX y = true) (ha : Snd X cl H0 y (ev P Γ a)) : PI X tg (.Call (.Name x p2) [y] [] pos) (LI X.K cl H0 (evi P Γ (.r1 a))) := by
  obtain ⟨h1, h2, h3⟩ := glB_of h
  subst h1
  have hg : Gl X "range" := by show X.env.scope.names.lookup _ = _; rw [hs]; exact h2
  refine ⟨fun pins s σ H R I ⟨ρ, μ, π, items, μ', rs, cr, e, k⟩ => ?_⟩
  simp only [evi] at e
  obtain ⟨d1, μ1, e1, e⟩ := Out.bind_eq_ok e
  refine PyProof.Rows.Call_ (ld_blt I hg (B.gf.blt _ (by decide +kernel)) PyProof.Rows.boot_range (PyProof.Rows.callWith_type1 (thn ((pa_cons ha.pe pa_nil (star_cons hx)).run pos pins s σ H (fun us H1 => ∃ v π1, us = [v] ∧ Rp X.K cl H1 π1 d1 v ∧ Mv H π H1 π1 ∧ CR X.K cl H1 π1 μ1) I
    ⟨ρ, μ, π, d1, μ1, rs, cr, e1, fun v H1 π1 r m c => ⟨v, π1, rfl, r, m, c⟩⟩) fun us s1 ⟨vs, H1, I1, r1, q1⟩ => ?_) (star_cons hx) rfl))
  obtain ⟨v, π1, rfl, rp, m1, c1⟩ := q1
  cases r1 with
  | cons r rr =>
  cases rr
  cases rp with
  | int i =>
    cases e
    obtain ⟨t, rfl⟩ := r
    exact call_range_1 (range_any I1 (by simpa using k _ H1 π1 (yld_r (lo := 0) (n := i.toNat)) m1 c1))
  | _ => cases e
theorem sni_r2 {sc : Scope} {a b : E} {tg y z : Expr} {x : Str} {pos p2 : Pos} (hs : X.env.scope = sc) (B : Bd X nm P Γ cl fa gl df j) (h : glB sc x "range" = true) (hx : plainX y = true) (hz : plainX z = true) (ha : Snd X cl H0 y (ev P Γ a)) (hb : Snd X cl H0 z (ev P Γ b)) :
    PI X tg (.Call (.Name x p2) [y, z] [] pos) (LI X.K cl H0 (evi P Γ (.r2 a b))) := by
  obtain ⟨h1, h2, h3⟩ := glB_of h
  subst h1
  have hg : Gl X "range" := by show X.env.scope.names.lookup _ = _; rw [hs]; exact h2
  refine ⟨fun pins s σ H R I ⟨ρ, μ, π, items, μ', rs, cr, e, k⟩ => ?_⟩
  simp only [evi] at e
  obtain ⟨d1, μ1, e1, e⟩ := Out.bind_eq_ok e
  obtain ⟨d2, μ2, e2, e⟩ := Out.bind_eq_ok e
  refine PyProof.Rows.Call_ (ld_blt I hg (B.gf.blt _ (by decide +kernel)) PyProof.Rows.boot_range (PyProof.Rows.callWith_type1 (thn ((pa_cons ha.pe (pa_cons hb.pe pa_nil (star_cons hz)) (star_cons hx)).run pos pins s σ H (fun us H2 => ∃ v w π2, us = [v, w] ∧ Rp X.K cl H2 π2 d1 v ∧ Rp X.K cl H2 π2 d2 w ∧ Mv H π H2 π2 ∧ CR X.K cl H2 π2 μ2) I
    ⟨ρ, μ, π, d1, μ1, rs, cr, e1, fun v H1 π1 r m c => ⟨ρ, μ1, π1, d2, μ2, rs.mv cr.ok m, c, e2, fun w H2 π2 r2 m2 c2 => ⟨v, w, π2, rfl, r.mv c.ok m2, r2, m.trans m2, c2⟩⟩⟩) fun us s1 ⟨vs, H1, I1, r1, q1⟩ => ?_) (by rw [star_cons hx, star_cons hz]) (by rw [star_cons hz]; rfl)))
  obtain ⟨v, w, π2, rfl, rp, rp2, m1, c1⟩ := q1
  cases r1 with
  | cons r rr =>
  cases rr with
  | cons r' rr =>
  cases rr
  cases rp with
  | int i =>
    cases rp2 with
    | int i2 =>
      cases e
      obtain ⟨t, rfl⟩ := r
      obtain ⟨t', rfl⟩ := r'
      exact call_range_2 (range_any I1 (k _ H1 π2 yld_r m1 c1))
    | _ => cases e
  | _ => cases d2 <;> cases e
theorem yld_l {K : PySem.W.Frag} {a : Addr} {l : List D} {vs : List V} {H : Hp} {π : List Addr} (h : Fz K H a vs) (r : Rps K cl H π l vs) : Yld K cl (Itl K a) l H π := fun H' π' st hp _ => by
  have h' : Fz K H' a vs := by
    rcases h with ⟨o, h⟩ | h
    · exact .inl ⟨o, st _ _ h trivial⟩
    · exact .inr h
  refine ⟨fun i d hd => ?_, ⟨vs, h'.sq, by rw [← r.length]; exact Nat.le_refl _⟩⟩
  obtain ⟨x, hx, rx⟩ := r.get hd
  exact ⟨⟨vs, x, h'.sq, hx⟩, fun y H'' ⟨e1, e2⟩ => by
    subst e1
    have z := e2 vs h'.sq
    rw [hx] at z
    cases z
    exact ⟨rx.st st hp, .inl rfl⟩⟩
theorem yld_t {K : PySem.W.Frag} {a : Addr} {l : List D} {vs : List V} {H : Hp} {π : List Addr} (h : SqT K H a vs) (r : Rps K cl H π l vs) : Yld K cl (Itt K a) l H π := fun H' π' st hp _ => by
  have h' : SqT K H' a vs := by
    rcases h with (h | ⟨o, h⟩) | h
    · exact .inl (.inl (st _ _ h trivial))
    · exact .inl (.inr ⟨o, st _ _ h trivial⟩)
    · exact .inr h
  refine ⟨fun i d hd => ?_, ⟨vs, h', by rw [← r.length]; exact Nat.le_refl _⟩⟩
  obtain ⟨x, hx, rx⟩ := r.get hd
  exact ⟨⟨vs, x, h', hx⟩, fun y H'' ⟨e1, e2⟩ => by
    subst e1
    have z := e2 vs h'
    rw [hx] at z
    cases z
    exact ⟨rx.st st hp, .inl rfl⟩⟩
theorem sni_seq {e0 : E} {tg x : Expr} (ha : Snd X cl H0 x (ev P Γ e0)) : PI X tg x (LI X.K cl H0 (evi P Γ (.seq e0))) := by
  refine ⟨fun pins s σ H R I ⟨ρ, μ, π, items, μ', rs, cr, e, k⟩ => ?_⟩
  simp only [evi] at e
  obtain ⟨d1, μ1, e1, e⟩ := Out.bind_eq_ok e
  refine thn (ha.pe.run pins s σ H (fun v H1 => ∃ π1, Rp X.K cl H1 π1 d1 v ∧ Mv H π H1 π1 ∧ CR X.K cl H1 π1 μ1) I ⟨ρ, μ, π, d1, μ1, rs, cr, e1, fun v H1 π1 r m c => ⟨π1, r, m, c⟩⟩) fun v s1 ⟨x, H1, I1, r1, π1, rp, m1, c1⟩ => ?_
  cases rp with
  | @lst a l vs hq hr =>
    cases e
    cases r1
    obtain ⟨its, rv, p, hz⟩ := I1.list hq.sq
    refine wpAny_pyIter_list p.isList ?_
    refine ⟨s1.heap.objs.size, [s1.heap.objs.size], _, _, H1, rfl, I1.kept (t' := s1.toks) fun b o e => Heap.get?_push_of_some _ e, turn_list a _, ⟨_, Heap.get?_push_size _ rfl, rfl, rfl⟩, fun b hb => ?_, k _ H1 π1 (yld_l hq hr) m1 c1⟩
    have e : b = s1.heap.objs.size := by simpa using hb
    subst e
    exact I1.fpOk (Nat.le_refl _) (I1.hok.fresh (Nat.le_refl _))
  | @tup a l vs hq hr =>
    cases e
    cases r1
    obtain ⟨its, rv, p, hz⟩ := I1.tuple hq
    refine wpAny_pyIter_tuple (show s1.heap.IsTuple a its.toArray from p) ?_
    refine ⟨s1.heap.objs.size, [s1.heap.objs.size], _, _, H1, rfl, I1.kept (t' := s1.toks) fun b o e => Heap.get?_push_of_some _ e, turn_tuple a _, ⟨_, Heap.get?_push_size _ rfl, rfl, rfl⟩, fun b hb => ?_, k _ H1 π1 (yld_t hq hr) m1 c1⟩
    have e : b = s1.heap.objs.size := by simpa using hb
    subst e
    exact I1.fpOk (Nat.le_refl _) (I1.hok.fresh (Nat.le_refl _))
  | _ => cases e
theorem enum_get : ∀ {l : List D} {n i : Nat} {d : D}, (enumF n l)[i]? = some d → ∃ x, l[i]? = some x ∧ d = .tup [.int ((n + i : Nat) : Int), x]
  | [], _, _, _, h => by simp [enumF] at h
  | y :: r, n, 0, d, h => by
    simp [enumF] at h
    exact ⟨y, rfl, by rw [← h]; rfl⟩
  | y :: r, n, i + 1, d, h => by
    have h' : (enumF (n + 1) r)[i]? = some d := by simpa [enumF] using h
    obtain ⟨x, h1, h2⟩ := enum_get h'
    exact ⟨x, by simpa using h1, by rw [h2]; congr 4; omega⟩
theorem enum_len : ∀ {l : List D} {n : Nat}, (enumF n l).length = l.length
  | [], _ => rfl
  | _ :: r, n => by simp [enumF, enum_len (l := r)]
theorem yld_e {K : PySem.W.Frag} {a : Addr} {l : List D} {vs : List V} {H : Hp} {π : List Addr} (h : Fz K H a vs) (r : Rps K cl H π l vs) : Yld K cl (Ite K a) (enumF 0 l) H π := fun H' π' st hp ok => by
  have h' : Fz K H' a vs := by
    rcases h with ⟨o, h⟩ | h
    · exact .inl ⟨o, st _ _ h trivial⟩
    · exact .inr h
  refine ⟨fun i d hd => ?_, ⟨vs, h'.sq, by rw [← r.length, enum_len]; exact Nat.le_refl _⟩⟩
  obtain ⟨x0, hx0, rfl⟩ := enum_get hd
  obtain ⟨x, hx, rx⟩ := r.get hx0
  refine ⟨⟨vs, x, h'.sq, hx⟩, fun y H'' ⟨T, x1, e1, e2, e3, e4⟩ => ?_⟩
  subst e1 e3
  have z := e4 vs h'.sq
  rw [hx] at z
  cases z
  exact ⟨tup_new ok e2 (.cons (by rw [Nat.zero_add]; exact .int _) (.cons (rx.st st hp) .nil)), .inr ⟨T, _, e2, rfl⟩⟩
def Itet (K : PySem.W.Frag) (a : Addr) : L2.It :=
  ⟨fun i H => ∃ (xs : List V) (x : V), SqT K H a xs ∧ xs[i]? = some x, fun i H v H' => ∃ T x, v = .ref T ∧ H T = none ∧ H' = upd H T (.tup [.int (i : Nat), x]) ∧ ∀ xs, SqT K H a xs → xs[i]? = some x, fun i H => ∃ xs : List V, SqT K H a xs ∧ xs.length = i⟩
theorem yld_et {K : PySem.W.Frag} {a : Addr} {l : List D} {vs : List V} {H : Hp} {π : List Addr} (h : SqT K H a vs) (r : Rps K cl H π l vs) : Yld K cl (Itet K a) (enumF 0 l) H π := fun H' π' st hp ok => by
  have h' : SqT K H' a vs := by
    rcases h with (h | ⟨o, h⟩) | h
    · exact .inl (.inl (st _ _ h trivial))
    · exact .inl (.inr ⟨o, st _ _ h trivial⟩)
    · exact .inr h
  refine ⟨fun i d hd => ?_, ⟨vs, h', by rw [← r.length, enum_len]⟩⟩
  obtain ⟨x0, hx0, rfl⟩ := enum_get hd
  obtain ⟨x, hx, rx⟩ := r.get hx0
  refine ⟨⟨vs, x, h', hx⟩, fun y H'' ⟨T, x1, e1, e2, e3, e4⟩ => ?_⟩
  subst e1 e3
  have z := e4 vs h'
  rw [hx] at z
  cases z
  exact ⟨tup_new ok e2 (.cons (by rw [Nat.zero_add]; exact .int _) (.cons (rx.st st hp) .nil)), .inr ⟨T, _, e2, rfl⟩⟩
theorem turn_enumT {P : Program} {w : World} {K : PySem.W.Frag} {elts : List Expr} {kk : Nat} {tpos : Pos} (a e it : Addr) :
    Turn P w K (.Tuple elts kk tpos) (Itet K a) [e, it] e (fun i h => (∃ old, IsEnum h e it ((i : Nat) : Int) old) ∧ h.IsTupleIter it a i ∧ e ≠ it ∧ e ≠ a ∧ a ≠ it) where
  mem := by simp
  obj := fun i h st b hb => by
    obtain ⟨⟨old, he⟩, ⟨o, ho, hc, hd⟩, _⟩ := st
    have e' : b = e ∨ b = it := by simpa using hb
    rcases e' with z | z
    · rw [z]; exact ⟨_, he, fun v q => nomatch q⟩
    · rw [z]; exact ⟨o, ho, fun v q => by rw [hd] at q; cases q⟩
  keep := fun i h h' st k => let ⟨⟨old, he⟩, hi, hne⟩ := st; ⟨⟨old, k e (by simp) _ he⟩, hi.at fun o q => k it (by simp) o q, hne⟩
  item := by
    intro X hP hw hK hc i pins s σ H E I hf st hg
    subst hP hw hK
    obtain ⟨⟨old, he⟩, hit, hne, hea, hai⟩ := st
    obtain ⟨xs, x, hq, hx⟩ := hg
    obtain ⟨its, rv, p, hz⟩ := I.tuple hq
    obtain ⟨u, hu, ru⟩ := rv.get hx
    have hel : e < s.heap.objs.size := Heap.lt_size he
    have hil : it < s.heap.objs.size := by obtain ⟨_, q, _⟩ := hit; exact Heap.lt_size q
    have hlt : i < its.toArray.size := by
      have := (List.getElem?_eq_some_iff.mp hu).1
      simpa using this
    refine wpAny_pyNext_enum_itemD (Draws.tuple (A := X.A.in1) (I.ok.hd hc) it a hai its.toArray) he ⟨hit, p⟩ hlt hne (by simp [hne, hea]) fun u' h' tk hP ho hs' hT hsz hk => ?_
    have eu : u' = u := by
      have z : its.toArray[i]? = some u' := hP
      rw [List.getElem?_toArray] at z
      rw [hu] at z
      exact (Option.some.inj z).symm
    subst eu
    refine ⟨_, rfl, wpAny_letOwnedTupleGo_enum (s := { s with heap := h', toks := tk + 1 }) ho fun h'' he' sb => ?_⟩
    have hT2 : h''.get? s.heap.objs.size = some { cls := .type "tuple", data := .seq #[.int i tk, u'] } := (sb.2 _ (Nat.ne_of_gt hel)).trans hT
    have new : ObjOk X.prog X.w (upd H s.heap.objs.size (.tup [.int (i : Nat), x])) h'' s.heap.objs.size (.tup [.int (i : Nat), x]) :=
      ⟨by show 2 ≤ sizeLine; decide, [.int i tk, u'], .cons ⟨_, rfl⟩ (.cons ru .nil), ⟨_, hT2, rfl, _, rfl⟩⟩
    have I1 : Inv X pins σ (upd H s.heap.objs.size (.tup [.int (i : Nat), x])) { s with heap := h'', toks := tk + 1 } :=
      I.turnedNew (ch := [e, it]) (fun b ob hb q => (sb.2 b (fun z => hb (by simp [z]))).trans (hk b ob (fun z => hb (by simp [z])) (fun z => hb (by simp [z])) q)) hf (Nat.le_refl _) new
    refine ⟨.ref s.heap.objs.size, _, I1, rfl, ⟨_, x, rfl, I.hok.fresh (Nat.le_refl _), rfl, fun ys hy => by rw [I.tuple_inj hy hq]; exact hx⟩, ⟨⟨u', ?_⟩, hs'.1.at fun o q => (sb.2 it (Ne.symm hne)).trans q, hne, hea, hai⟩, fun b hb => ?_⟩
    · have e1 : ((i + 1 : Nat) : Int) = (i : Int) + 1 := by omega
      rw [e1]; exact he'
    · have hb' : b < s.heap.objs.size := by
        have e' : b = e ∨ b = it := by simpa using hb
        rcases e' with z | z
        · rw [z]; exact hel
        · rw [z]; exact hil
      rw [upd_ne (Nat.ne_of_lt hb')]
      exact (hf b hb).1
  done := by
    intro X hP hw hK hc i pins s σ H E I hf st hg
    subst hP hw hK
    obtain ⟨⟨old, he⟩, hit, hne, hea, hai⟩ := st
    obtain ⟨xs, hq, hx⟩ := hg
    obtain ⟨its, rv, p, hz⟩ := I.tuple hq
    obtain ⟨f0, f1, f2, f3, f4, f5⟩ := hf it (by simp)
    have hl := rv.length
    have hi : i = its.toArray.size := by simp; omega
    subst hi
    exact wpAny_pyNext_enum_endD (Draws.tuple (A := X.A.in1) (I.ok.hd hc) it a hai its.toArray) he ⟨hit, p⟩ fun h' eb => ⟨rfl, I.turned (t' := s.toks) (fun b o hb q => eb b o hb q) f0 f1 f3 f4 f5⟩
  self := fun A i s Q E st h => let ⟨⟨_, he⟩, _⟩ := st; wpAny_pyIter_enum he h
theorem meets_enumerate_newT (l : Addr) (items : Array Value) (n : Nat) (dct : Option Addr) (sl : Array (Option Value)) :
    Meets (Builtin.«enumerate.__new__» ⟨[.type "enumerate", .ref l], []⟩) (fun _ R s => s.heap.get? l = some { cls := .type "tuple", dict := dct, data := .seq items n, slots := sl } ∧
      R (.ok (.ret (.ref (s.heap.push { cls := .type "tuple_iterator", data := .fields #[.ref l, .int 0 0] }).objs.size)))
        { s with heap := (s.heap.push { cls := .type "tuple_iterator", data := .fields #[.ref l, .int 0 0] }).push { cls := .type "enumerate", data := .fields #[.none, .bool false, .ref s.heap.objs.size, rawInt 0, .none, .none] } }) :=
  .of_wp fun prog w A R s h => by
    obtain ⟨hp, g, d, tk, os⟩ := s; obtain ⟨hl, h⟩ := h
    have hsub := sub_enumerate
    have hL : Heap.IsTuple (Shared.heap ⟨hp, g, d, tk, os⟩) l items := ⟨_, hl, rfl, n, rfl⟩
    wp_walk using PySem.AutoSeq1.wpAny_loadPart' hl
    refine wpAny_stack_any fun st => wpAny_pure ?_
    split
    · rename_i c _ _ _ _ _
      cases (c == Value.type "enumerate")
      · wp_walk using PySem.AutoSeq1.wpAny_loadPart' hl, wpAny_pyIter_tuple hL
        exact ⟨_, rfl, h⟩
      · wp_walk using PySem.AutoSeq1.wpAny_loadPart' hl, wpAny_pyIter_tuple hL
        exact ⟨_, rfl, h⟩
    · wp_walk using PySem.AutoSeq1.wpAny_loadPart' hl, wpAny_pyIter_tuple hL
      exact ⟨_, rfl, h⟩
theorem call_enumerate_tuple {prog : Program} {w : World} {A : Around} {E : Value → Shared → Prop} {s : Shared} {l : Addr} {items : Array Value} {Q : Value → Shared → Prop} (hL : s.heap.IsTuple l items)
    (h : ∀ h', IsEnum h' (s.heap.objs.size + 1) s.heap.objs.size 0 .none → h'.IsTupleIter s.heap.objs.size l 0 → h'.objs.size = s.heap.objs.size + 2 →
      (∀ b o, s.heap.get? b = some o → h'.get? b = some o) → Q (.ref (s.heap.objs.size + 1)) { s with heap := h' }) :
    wpAny (model prog w) A (call (.type "enumerate") [.ref l]) Q E s := by
  obtain ⟨⟨c, dct, dt, sl⟩, hl, hc, n, hd⟩ := hL
  replace hc : c = .type "tuple" := hc
  replace hd : dt = .seq items n := hd
  subst hc hd
  refine callType_new F.called_enumerate (by decide) (F.typeCall_enumerate_1 _) (F.newCall_enumerate_1 _) (fun obj => F.args_object_init_2 obj _) F.entry_enumerate_new
    (meets_enumerate_newT l items n dct sl) ⟨hl, ?_⟩
  have hz : (s.heap.push { cls := .type "tuple_iterator", data := .fields #[.ref l, .int 0 0] }).objs.size = s.heap.objs.size + 1 := Heap.size_push ..
  show _ ∧ _
  rw [hz]
  have he : IsEnum ((s.heap.push { cls := .type "tuple_iterator", data := .fields #[.ref l, .int 0 0] }).push
      { cls := .type "enumerate", data := .fields #[.none, .bool false, .ref s.heap.objs.size, rawInt 0, .none, .none] }) (s.heap.objs.size + 1) s.heap.objs.size 0 .none := by
    have := Heap.get?_push_size (s.heap.push { cls := .type "tuple_iterator", data := .fields #[.ref l, .int 0 0] })
      (o := { cls := .type "enumerate", data := .fields #[.none, .bool false, .ref s.heap.objs.size, rawInt 0, .none, .none] }) rfl
    rw [hz] at this; exact this
  refine ⟨⟨_, he, rfl⟩, h _ he ⟨_, Heap.get?_push_of_some _ (Heap.get?_push_size _ rfl), rfl, rfl⟩ (by rw [Heap.size_push, hz]) fun b o x => Heap.get?_push_of_some _ (Heap.get?_push_of_some _ x)⟩
theorem sni_enum {sc : Scope} {a : E} {y : Expr} {x : Str} {pos p2 tpos : Pos} {elts : List Expr} {kk : Nat} (hs : X.env.scope = sc) (B : Bd X nm P Γ cl fa gl df j) (h : glB sc x "enumerate" = true) (hx : plainX y = true) (ha : Snd X cl H0 y (ev P Γ a)) :
    PI X (.Tuple elts kk tpos) (.Call (.Name x p2) [y] [] pos) (LI X.K cl H0 (evi P Γ (.enum a))) := by
  obtain ⟨h1, h2, h3⟩ := glB_of h
  subst h1
  have hg : Gl X "enumerate" := by show X.env.scope.names.lookup _ = _; rw [hs]; exact h2
  refine ⟨fun pins s σ H R I ⟨ρ, μ, π, items, μ', rs, cr, e, k⟩ => ?_⟩
  simp only [evi] at e
  obtain ⟨d1, μ1, e1, e⟩ := Out.bind_eq_ok e
  refine PyProof.Rows.Call_ (ld_blt I hg (B.gf.blt _ (by decide +kernel)) PyProof.Rows.boot_enumerate (PyProof.Rows.callWith_type1 (thn ((pa_cons ha.pe pa_nil (star_cons hx)).run pos pins s σ H (fun us H1 => ∃ v π1, us = [v] ∧ Rp X.K cl H1 π1 d1 v ∧ Mv H π H1 π1 ∧ CR X.K cl H1 π1 μ1) I
    ⟨ρ, μ, π, d1, μ1, rs, cr, e1, fun v H1 π1 r m c => ⟨v, π1, rfl, r, m, c⟩⟩) fun us s1 ⟨vs, H1, I1, r1, q1⟩ => ?_) (star_cons hx) rfl))
  obtain ⟨v, π1, rfl, rp, m1, c1⟩ := q1
  cases r1 with
  | cons r rr =>
  cases rr
  cases rp with
  | @lst a l vs hq hr =>
    cases r
    cases e
    obtain ⟨its, rv, p', hz⟩ := I1.list hq.sq
    refine call_enumerate_list p'.isList fun h' he hit hsz hk => wpAny_pyIter_enum he ?_
    have I2 : Inv X pins σ H1 { s1 with heap := h' } := I1.kept (t' := s1.toks) hk
    refine ⟨s1.heap.objs.size + 1, [s1.heap.objs.size + 1, s1.heap.objs.size], _, _, H1, rfl, I2, turn_enum a (s1.heap.objs.size + 1) s1.heap.objs.size, ⟨⟨.none, he⟩, hit, Nat.succ_ne_self _⟩, fun b hb => ?_, k _ H1 π1 (yld_e hq hr) m1 c1⟩
    have e' : b = s1.heap.objs.size + 1 ∨ b = s1.heap.objs.size := by simpa using hb
    have hle : s1.heap.objs.size ≤ b := by
      rcases e' with z | z
      · rw [z]; exact Nat.le_add_right _ _
      · rw [z]; exact Nat.le_refl _
    exact I1.fpOk hle (I1.hok.fresh hle)
  | @tup a l vs hq hr =>
    cases r
    cases e
    obtain ⟨its, rv, p', hz⟩ := I1.tuple hq
    have hal : a < s1.heap.objs.size := p'.lt
    refine call_enumerate_tuple p' fun h' he hit hsz hk => wpAny_pyIter_enum he ?_
    have I2 : Inv X pins σ H1 { s1 with heap := h' } := I1.kept (t' := s1.toks) hk
    refine ⟨s1.heap.objs.size + 1, [s1.heap.objs.size + 1, s1.heap.objs.size], _, _, H1, rfl, I2, turn_enumT a (s1.heap.objs.size + 1) s1.heap.objs.size, ⟨⟨.none, he⟩, hit, Nat.succ_ne_self _, Nat.ne_of_gt (Nat.lt_succ_of_lt hal), Nat.ne_of_lt hal⟩, fun b hb => ?_, k _ H1 π1 (yld_et hq hr) m1 c1⟩
    have e' : b = s1.heap.objs.size + 1 ∨ b = s1.heap.objs.size := by simpa using hb
    have hle : s1.heap.objs.size ≤ b := by
      rcases e' with z | z
      · rw [z]; exact Nat.le_add_right _ _
      · rw [z]; exact Nat.le_refl _
    exact I1.fpOk hle (I1.hok.fresh hle)
  | _ => cases e
theorem zip_get {l l2 : List D} {i : Nat} {d : D} (h : ((l.zip l2).map fun p => D.tup [p.1, p.2])[i]? = some d) : ∃ x y, l[i]? = some x ∧ l2[i]? = some y ∧ d = .tup [x, y] := by
  rw [List.getElem?_map] at h
  cases q : (l.zip l2)[i]? with
  | none => rw [q] at h; cases h
  | some p =>
    rw [q] at h
    cases h
    obtain ⟨h1, h2⟩ := List.getElem?_zip_eq_some.mp q
    exact ⟨p.1, p.2, h1, h2, rfl⟩
theorem yld_z {K : PySem.W.Frag} {a b : Addr} {l l2 : List D} {vs vs2 : List V} {H : Hp} {π : List Addr} (h : Fz K H a vs) (r : Rps K cl H π l vs) (h2 : Fz K H b vs2) (r2 : Rps K cl H π l2 vs2) :
    Yld K cl (Itz K a b) ((l.zip l2).map fun p => D.tup [p.1, p.2]) H π := fun H' π' st hp ok => by
  have h' : ∀ {a : Addr} {vs : List V}, Fz K H a vs → Fz K H' a vs := fun h => by
    rcases h with ⟨o, h⟩ | h
    · exact .inl ⟨o, st _ _ h trivial⟩
    · exact .inr h
  refine ⟨fun i d hd => ?_, ⟨vs, vs2, (h' h).sq, (h' h2).sq, ?_⟩⟩
  · obtain ⟨x0, y0, hx0, hy0, rfl⟩ := zip_get hd
    obtain ⟨x, hx, rx⟩ := r.get hx0
    obtain ⟨y, hy, ry⟩ := r2.get hy0
    refine ⟨⟨vs, vs2, x, y, (h' h).sq, (h' h2).sq, hx, hy⟩, fun v H'' ⟨T, x1, y1, e1, e2, e3, e4, e5⟩ => ?_⟩
    subst e1 e3
    have z := e4 vs (h' h).sq
    rw [hx] at z
    cases z
    have z := e5 vs2 (h' h2).sq
    rw [hy] at z
    cases z
    exact ⟨tup_new ok e2 (.cons (rx.st st hp) (.cons (ry.st st hp) .nil)), .inr ⟨T, _, e2, rfl⟩⟩
  · rw [← r.length, ← r2.length, List.length_map, List.length_zip]
    omega
theorem sni_zip {sc : Scope} {a b : E} {y z : Expr} {x : Str} {pos p2 tpos : Pos} {elts : List Expr} {kk : Nat} (hs : X.env.scope = sc) (B : Bd X nm P Γ cl fa gl df j) (h : glB sc x "zip" = true) (hx : plainX y = true) (hz : plainX z = true) (ha : Snd X cl H0 y (ev P Γ a)) (hb : Snd X cl H0 z (ev P Γ b)) :
    PI X (.Tuple elts kk tpos) (.Call (.Name x p2) [y, z] [] pos) (LI X.K cl H0 (evi P Γ (.zip a b))) := by
  obtain ⟨h1, h2, h3⟩ := glB_of h
  subst h1
  refine PI.of (pi_zip (show Gl X "zip" from by show X.env.scope.names.lookup _ = _; rw [hs]; exact h2) (B.gf.blt _ (by decide +kernel)) (pa_cons ha.pe (pa_cons hb.pe pa_nil (star_cons hz)) (star_cons hx)) (star_cons hx) (by rw [star_cons hz]; rfl)) fun σ H R ⟨ρ, μ, π, items, μ', rs, cr, e, k⟩ => ?_
  simp only [evi] at e
  obtain ⟨d1, μ1, e1, e⟩ := Out.bind_eq_ok e
  obtain ⟨d2, μ2, e2, e⟩ := Out.bind_eq_ok e
  refine ⟨ρ, μ, π, d1, μ1, rs, cr, e1, fun v1 H1 π1 r1 m1 c1 => ⟨ρ, μ1, π1, d2, μ2, rs.mv cr.ok m1, c1, e2, fun v2 H2 π2 r2 m2 c2 => ?_⟩⟩
  have r1' := r1.mv c1.ok m2
  cases r1' with
  | lst hq hr =>
    cases r2 with
    | lst hq2 hr2 =>
      cases e
      exact ⟨_, _, _, _, rfl, hq.sq, hq2.sq, k _ H2 π2 (yld_z hq hr hq2 hr2) (m1.trans m2) c2⟩
    | _ => cases e
  | _ => cases d2 <;> cases e
end
end Vw
set_option Elab.async false
set_option linter.all false
set_option maxRecDepth 100000
set_option maxHeartbeats 4000000
namespace Vw
open PySem PySem.Spec L2
def Itz3 (K : PySem.W.Frag) (a b c : Addr) : L2.It where
  go i H := ∃ (xs ys zs : List V) (x y z : V), SqL K H a xs ∧ SqL K H b ys ∧ SqL K H c zs ∧ xs[i]? = some x ∧ ys[i]? = some y ∧ zs[i]? = some z
  yld i H v H' := ∃ T x y z, v = .ref T ∧ H T = none ∧ H' = upd H T (.tup [x, y, z]) ∧ (∀ l, SqL K H a l → l[i]? = some x) ∧ (∀ l, SqL K H b l → l[i]? = some y) ∧ ∀ l, SqL K H c l → l[i]? = some z
  stop i H := ∃ xs ys zs : List V, SqL K H a xs ∧ SqL K H b ys ∧ SqL K H c zs ∧ i = min (min xs.length ys.length) zs.length
theorem turn_zip3 {P : Program} {w : World} {K : PySem.W.Frag} {elts : List Expr} {kk : Nat} {tpos : Pos} {a b c z TI TO i1 i2 i3 : Addr} (S : ZipSep3 z TI TO i1 i2 i3 [i1, a] [i2, b] [i3, c]) (n1 : a ≠ i1) (n2 : b ≠ i2) (n3 : c ≠ i3) :
    Turn P w K (.Tuple elts kk tpos) (Itz3 K a b c) [z, TI, TO, i1, i2, i3] z
      (fun i h => IsZip h z TI TO .none ∧ IsTupOf3 h TI (.ref i1) (.ref i2) (.ref i3) ∧ (∃ x y u, IsTupOf3 h TO x y u) ∧ h.IsListIter i1 a i ∧ h.IsListIter i2 b i ∧ h.IsListIter i3 c i) where
  mem := List.mem_cons_self ..
  obj := fun i h ⟨hz, hTI, ⟨x, y, u, hTO⟩, ⟨o1, e1, _, d1⟩, ⟨o2, e2, _, d2⟩, ⟨o3, e3, _, d3⟩⟩ q hq => by
    simp only [List.mem_cons, List.not_mem_nil, or_false] at hq
    rcases hq with rfl | rfl | rfl | rfl | rfl | rfl
    · exact ⟨_, hz, fun v q => nomatch q⟩
    · exact ⟨_, hTI, fun v q => nomatch q⟩
    · exact ⟨_, hTO, fun v q => nomatch q⟩
    · exact ⟨o1, e1, fun v q => by rw [d1] at q; cases q⟩
    · exact ⟨o2, e2, fun v q => by rw [d2] at q; cases q⟩
    · exact ⟨o3, e3, fun v q => by rw [d3] at q; cases q⟩
  keep := fun i h h' ⟨hz, hTI, ⟨x, y, u, hTO⟩, h1, h2, h3⟩ k =>
    ⟨k _ (by simp) _ hz, k _ (by simp) _ hTI, ⟨x, y, u, k _ (by simp) _ hTO⟩, h1.at fun o q => k _ (by simp) o q, h2.at fun o q => k _ (by simp) o q, h3.at fun o q => k _ (by simp) o q⟩
  item := by
    intro X hP hw hK hc i pins s σ H E I hf st hg
    subst hP hw hK
    obtain ⟨hz, hTI, hTO, h1, h2, h3⟩ := st
    obtain ⟨xs, ys, zs, x, y, u, q1, q2, q3, g1, g2, g3⟩ := hg
    obtain ⟨its1, rv1, p1, _⟩ := I.list q1
    obtain ⟨its2, rv2, p2, _⟩ := I.list q2
    obtain ⟨its3, rv3, p3, _⟩ := I.list q3
    obtain ⟨w1, e1, r1⟩ := rv1.get g1
    obtain ⟨w2, e2, r2⟩ := rv2.get g2
    obtain ⟨w3, e3, r3⟩ := rv3.get g3
    have W := WalksT.zipD3 (prog := X.prog) (w := X.w) (A := X.A) S (Draws.list (A := X.A.in1) (I.ok.hd hc) i1 a n1 its1.toArray) (Draws.list (A := X.A.in1) (I.ok.hd hc) i2 b n2 its2.toArray) (Draws.list (A := X.A.in1) (I.ok.hd hc) i3 c n3 its3.toArray)
    have b1 := (List.getElem?_eq_some_iff.mp e1).1
    have b2 := (List.getElem?_eq_some_iff.mp e2).1
    have b3 := (List.getElem?_eq_some_iff.mp e3).1
    have wr : ∀ d, d ∉ [z, TO, i1, i2, i3] ∨ d ∈ [z, TI, TO, i1, i2, i3] := fun d => by
      by_cases hd : d ∈ [z, TO, i1, i2, i3]
      · refine .inr ?_
        simp only [List.mem_cons, List.not_mem_nil, or_false] at hd ⊢
        rcases hd with h | h | h | h | h <;> simp [h]
      · exact .inl hd
    have up : ∀ d, d ∉ [z, TI, TO, i1, i2, i3] → d ∉ [z, TO, i1, i2, i3] := fun d hd => (wr d).elim id fun q => absurd q hd
    refine W.item i s _ _ (by simp only [List.size_toArray]; omega) ⟨hz, hTI, hTO, ⟨h1, p1.isList⟩, ⟨h2, p2.isList⟩, h3, p3.isList⟩ fun T vals h' tk ⟨v1, v2, v3, f1, f2, f3, ev⟩ hle hT mid hk => ⟨_, rfl, W.go elts kk tpos i T _ _ _ mid fun h'' st2 hk2 => ?_⟩
    obtain ⟨z1, z2, z3, ⟨z4, _⟩, ⟨z5, _⟩, z6, _⟩ := st2
    rw [List.getElem?_toArray] at f1 f2 f3
    rw [e1] at f1
    rw [e2] at f2
    rw [e3] at f3
    cases f1
    cases f2
    cases f3
    subst ev
    obtain ⟨o, ho, hcl, n, hd⟩ := hT
    have hT2 := hk2 T o (W.apart _ _ _ mid) ho
    have new : ObjOk X.prog X.w (upd H T (.tup [x, y, u])) h'' T (.tup [x, y, u]) := ⟨by show 3 ≤ sizeLine; decide, [w1, w2, w3], .cons r1 (.cons r2 (.cons r3 .nil)), ⟨o, hT2, hcl, n, hd⟩⟩
    refine ⟨.ref T, _, I.turnedNew (t' := tk) (fun d o' hd e => hk2 d o' (up d hd) (hk d o' (up d hd) e)) hf hle new, rfl, ⟨T, x, y, u, rfl, I.hok.fresh hle, rfl, fun l hl => by rw [I.list_inj hl q1]; exact g1, fun l hl => by rw [I.list_inj hl q2]; exact g2, fun l hl => by rw [I.list_inj hl q3]; exact g3⟩,
      ⟨z1, z2, z3, z4, z5, z6⟩, fun d hd => ?_⟩
    have lt : d < T := Nat.lt_of_lt_of_le (by
      simp only [List.mem_cons, List.not_mem_nil, or_false] at hd
      obtain ⟨_, _, _, hTO⟩ := hTO
      obtain ⟨_, d1, _⟩ := h1
      obtain ⟨_, d2, _⟩ := h2
      obtain ⟨_, d3, _⟩ := h3
      rcases hd with rfl | rfl | rfl | rfl | rfl | rfl
      · exact Heap.lt_size hz
      · exact Heap.lt_size hTI
      · exact Heap.lt_size hTO
      · exact Heap.lt_size d1
      · exact Heap.lt_size d2
      · exact Heap.lt_size d3) hle
    rw [upd_ne (Nat.ne_of_lt lt)]
    exact (hf d hd).1
  done := by
    intro X hP hw hK hc i pins s σ H E I hf st hg
    subst hP hw hK
    obtain ⟨hz, hTI, hTO, h1, h2, h3⟩ := st
    obtain ⟨xs, ys, zs, q1, q2, q3, hend⟩ := hg
    obtain ⟨its1, rv1, p1, _⟩ := I.list q1
    obtain ⟨its2, rv2, p2, _⟩ := I.list q2
    obtain ⟨its3, rv3, p3, _⟩ := I.list q3
    have W := WalksT.zipD3 (prog := X.prog) (w := X.w) (A := X.A) S (Draws.list (A := X.A.in1) (I.ok.hd hc) i1 a n1 its1.toArray) (Draws.list (A := X.A.in1) (I.ok.hd hc) i2 b n2 its2.toArray) (Draws.list (A := X.A.in1) (I.ok.hd hc) i3 c n3 its3.toArray)
    rw [rv1.length, rv2.length, rv3.length] at hend
    subst hend
    refine W.done s _ _ ⟨hz, hTI, hTO, ⟨by simpa using h1, p1.isList⟩, ⟨by simpa using h2, p2.isList⟩, by simpa using h3, p3.isList⟩ fun h' tk hk => ⟨rfl, I.turnedL (ch := [z, TI, TO, i1, i2, i3]) (fun d o hd e => hk d o (fun q => hd ?_) e) hf⟩
    simp only [List.mem_cons, List.not_mem_nil, or_false] at q ⊢
    rcases q with h | h | h | h | h <;> simp [h]
  self := fun A i s Q E st h => wpAny_pyIter_zip st.1 h
theorem zip3_get {l l2 l3 : List D} {i : Nat} {d : D} (h : (zip3 l l2 l3)[i]? = some d) : ∃ x y z, l[i]? = some x ∧ l2[i]? = some y ∧ l3[i]? = some z ∧ d = .tup [x, y, z] := by
  unfold zip3 at h
  rw [List.getElem?_map] at h
  cases q : (l.zip (l2.zip l3))[i]? with
  | none => rw [q] at h; cases h
  | some p =>
    rw [q] at h
    cases h
    obtain ⟨h1, h2⟩ := List.getElem?_zip_eq_some.mp q
    obtain ⟨h3, h4⟩ := List.getElem?_zip_eq_some.mp h2
    exact ⟨p.1, p.2.1, p.2.2, h1, h3, h4, rfl⟩
section
variable {X : Cx} {nm : Nm} {P : Pr} {Γ : Gam} {cl : Cls0} {fa : Fa} {gl df : Nat → Bool} {j : Nat} {H0 : Hp}
theorem yld_z3 {K : PySem.W.Frag} {a b c : Addr} {l l2 l3 : List D} {vs vs2 vs3 : List V} {H : Hp} {π : List Addr} (h : Fz K H a vs) (r : Rps K cl H π l vs) (h2 : Fz K H b vs2) (r2 : Rps K cl H π l2 vs2) (h3 : Fz K H c vs3) (r3 : Rps K cl H π l3 vs3) :
    Yld K cl (Itz3 K a b c) (zip3 l l2 l3) H π := fun H' π' st hp ok => by
  have up : ∀ {a : Addr} {vs : List V}, Fz K H a vs → Fz K H' a vs := fun h => by
    rcases h with ⟨o, h⟩ | h
    · exact .inl ⟨o, st _ _ h trivial⟩
    · exact .inr h
  refine ⟨fun i d hd => ?_, vs, vs2, vs3, (up h).sq, (up h2).sq, (up h3).sq, ?_⟩
  · obtain ⟨x0, y0, z0, hx0, hy0, hz0, rfl⟩ := zip3_get hd
    obtain ⟨x, hx, rx⟩ := r.get hx0
    obtain ⟨y, hy, ry⟩ := r2.get hy0
    obtain ⟨z, hz, rz⟩ := r3.get hz0
    refine ⟨⟨vs, vs2, vs3, x, y, z, (up h).sq, (up h2).sq, (up h3).sq, hx, hy, hz⟩, fun v H'' ⟨T, x1, y1, z1, e1, e2, e3, e4, e5, e6⟩ => ?_⟩
    subst e1 e3
    have g := e4 vs (up h).sq
    rw [hx] at g
    cases g
    have g := e5 vs2 (up h2).sq
    rw [hy] at g
    cases g
    have g := e6 vs3 (up h3).sq
    rw [hz] at g
    cases g
    exact ⟨tup_new ok e2 (.cons (rx.st st hp) (.cons (ry.st st hp) (.cons (rz.st st hp) .nil))), .inr ⟨T, _, e2, rfl⟩⟩
  · rw [← r.length, ← r2.length, ← r3.length]
    unfold zip3
    rw [List.length_map, List.length_zip, List.length_zip]
    omega
theorem sni_zip3 {sc : Scope} {a b c : E} {y z u : Expr} {x : Str} {pos p2 tpos : Pos} {elts : List Expr} {kk : Nat} (hs : X.env.scope = sc) (B : Bd X nm P Γ cl fa gl df j) (h : glB sc x "zip" = true) (hx : plainX y = true) (hz : plainX z = true) (hu : plainX u = true)
    (ha : Snd X cl H0 y (ev P Γ a)) (hb : Snd X cl H0 z (ev P Γ b)) (hc : Snd X cl H0 u (ev P Γ c)) : PI X (.Tuple elts kk tpos) (.Call (.Name x p2) [y, z, u] [] pos) (LI X.K cl H0 (evi P Γ (.zip3 a b c))) := by
  obtain ⟨h1, h2, h3⟩ := glB_of h
  subst h1
  have hg : Gl X "zip" := by show X.env.scope.names.lookup _ = _; rw [hs]; exact h2
  refine ⟨fun pins s σ H R I ⟨ρ, μ, π, items, μ', rs, cr, e, k⟩ => ?_⟩
  simp only [evi] at e
  obtain ⟨d1, μ1, e1, e⟩ := Out.bind_eq_ok e
  obtain ⟨d2, μ2, e2, e⟩ := Out.bind_eq_ok e
  obtain ⟨d3, μ3, e3, e⟩ := Out.bind_eq_ok e
  refine PyProof.Rows.Call_ (ld_blt I hg (B.gf.blt _ (by decide +kernel)) PyProof.Rows.boot_zip (PyProof.Rows.callWith_type1 (thn ((pa_cons ha.pe (pa_cons hb.pe (pa_cons hc.pe pa_nil (star_cons hu)) (star_cons hz)) (star_cons hx)).run pos pins s σ H
    (fun us H1 => ∃ v w t π1, us = [v, w, t] ∧ Rp X.K cl H1 π1 d1 v ∧ Rp X.K cl H1 π1 d2 w ∧ Rp X.K cl H1 π1 d3 t ∧ Mv H π H1 π1 ∧ CR X.K cl H1 π1 μ3) I
    ⟨ρ, μ, π, d1, μ1, rs, cr, e1, fun v H1 π1 r m c => ⟨ρ, μ1, π1, d2, μ2, rs.mv cr.ok m, c, e2, fun w H2 π2 r2 m2 c2 => ⟨ρ, μ2, π2, d3, μ3, rs.mv cr.ok (m.trans m2), c2, e3, fun t H3 π3 r3 m3 c3 =>
      ⟨v, w, t, π3, rfl, r.mv c.ok (m2.trans m3), r2.mv c2.ok m3, r3, (m.trans m2).trans m3, c3⟩⟩⟩⟩) fun us s1 ⟨vs, H1, I1, r1, q1⟩ => ?_) (by rw [star_cons hx, star_cons hz, star_cons hu]) (by rw [star_cons hz, star_cons hu]; rfl)))
  obtain ⟨v, w, t, π1, rfl, rp1, rp2, rp3, m1, c1⟩ := q1
  cases r1 with
  | cons r rr =>
  cases rr with
  | cons r' rr =>
  cases rr with
  | cons r'' rr =>
  cases rr
  cases rp1 with
  | @lst la l vs hq hr =>
    cases rp2 with
    | @lst lb l2 vs2 hq2 hr2 =>
      cases rp3 with
      | @lst lc l3 vs3 hq3 hr3 =>
        cases r
        cases r'
        cases r''
        cases e
        obtain ⟨its1, rv1, g1, _⟩ := I1.list hq.sq
        obtain ⟨its2, rv2, g2, _⟩ := I1.list hq2.sq
        obtain ⟨its3, rv3, g3, _⟩ := I1.list hq3.sq
        have l1 : la < s1.heap.objs.size := by obtain ⟨_, q, _⟩ := g1.isList; exact Heap.lt_size q
        have l2' : lb < s1.heap.objs.size := by obtain ⟨_, q, _⟩ := g2.isList; exact Heap.lt_size q
        have l3' : lc < s1.heap.objs.size := by obtain ⟨_, q, _⟩ := g3.isList; exact Heap.lt_size q
        refine zip_begins3 (begins_list la _) (begins_list lb _) (begins_list lc _) g1.isList g2.isList g3.isList fun h' hz hTI hTO i1 i2 i3 hsz hk => wpAny_pyIter_zip hz ?_
        refine ⟨_, [s1.heap.objs.size + 5, s1.heap.objs.size + 3, s1.heap.objs.size + 4, s1.heap.objs.size, s1.heap.objs.size + 1, s1.heap.objs.size + 2], _, _, H1, rfl, I1.kept (t' := s1.toks) hk,
          turn_zip3 (a := la) (b := lb) (c := lc) (zip_sep3 (fp1 := [la]) (fp2 := [lb]) (fp3 := [lc]) (fun q hq => by simp at hq; subst hq; exact l1) (fun q hq => by simp at hq; subst hq; exact l2') (fun q hq => by simp at hq; subst hq; exact l3'))
            (Nat.ne_of_lt l1) (Nat.ne_of_lt (Nat.lt_succ_of_lt l2')) (Nat.ne_of_lt (Nat.lt_of_lt_of_le l3' (Nat.le_add_right _ 2))), ⟨hz, hTI, ⟨_, _, _, hTO⟩, ⟨_, i1, rfl, rfl⟩, ⟨_, i2, rfl, rfl⟩, ⟨_, i3, rfl, rfl⟩⟩, fun d hd => ?_, k _ H1 π1 (yld_z3 hq hr hq2 hr2 hq3 hr3) m1 c1⟩
        have hle : s1.heap.objs.size ≤ d := by
          simp only [List.mem_cons, List.not_mem_nil, or_false] at hd
          rcases hd with rfl | rfl | rfl | rfl | rfl | rfl <;> first | exact Nat.le_add_right _ _ | exact Nat.le_refl _
        exact I1.fpOk hle (I1.hok.fresh hle)
      | _ => cases e
    | _ => cases d3 <;> cases e
  | _ => cases d2 <;> cases d3 <;> cases e
end
end Vw
set_option Elab.async false
set_option linter.all false
set_option maxRecDepth 100000
set_option maxHeartbeats 4000000
namespace Vw
open PySem PySem.Spec L2
section
variable {K : PySem.W.Frag} {cl : Cls0} {H0 H : Hp} {π : List Addr} {ρ : Rho} {σ : L2.St}
theorem put_out : ∀ {ρ : Rho} {i : Nat} {s : Sl}, ρ.length ≤ i → Sl.put ρ i s = ρ
  | [], _, _, _ => rfl
  | _ :: _, 0, _, h => by simp at h
  | a :: r, i + 1, s, h => by simp [Sl.put, put_out (ρ := r) (i := i) (s := s) (by simpa using h)]
theorem RelS.store {d : D} {v : V} (r : RelS K cl H0 ρ σ H π) (i : Nat) (rv : Rp K cl H π d v) : RelS K cl H0 (Sl.put ρ i (.val d)) (σ.set i (some v)) H π := by
  by_cases hi : i < σ.length
  · exact r.setV hi rv
  · have h1 : σ.length ≤ i := Nat.le_of_not_lt hi
    rw [put_out (by rw [← r.len]; exact h1), List.set_eq_of_length_le h1]
    exact r
theorem RelS.unset (r : RelS K cl H0 ρ σ H π) (i : Nat) : RelS K cl H0 (Sl.put ρ i .und) (σ.set i none) H π := by
  by_cases hi : i < ρ.length
  · have ne : ∀ {j : Nat} {s : Sl}, Sl.get (Sl.put ρ i .und) j = s → s ≠ .und → j ≠ i := fun {j s} q n e => by
      subst e
      rw [get_put_same _ _ _ hi] at q
      exact n q.symm
    refine ⟨by rw [List.length_set, put_length]; exact r.len, fun j e q => ?_, fun j l q => ?_, fun j k l l' p hjk q1 q2 s1 => ?_⟩
    · have hj := ne q (by simp)
      rw [get_put_ne _ _ _ _ hj] at q
      obtain ⟨u, h1, h2⟩ := r.val j e q
      exact ⟨u, by rw [List.getElem?_set_ne (Ne.symm hj)]; exact h1, h2⟩
    · have hj := ne q (by simp)
      rw [get_put_ne _ _ _ _ hj] at q
      obtain ⟨p, vs, h1, h2⟩ := r.own j l q
      exact ⟨p, vs, by rw [List.getElem?_set_ne (Ne.symm hj)]; exact h1, h2⟩
    · have hj := ne q1 (by simp)
      have hk := ne q2 (by simp)
      rw [get_put_ne _ _ _ _ hj] at q1
      rw [get_put_ne _ _ _ _ hk] at q2
      rw [List.getElem?_set_ne (Ne.symm hj)] at s1
      rw [List.getElem?_set_ne (Ne.symm hk)]
      exact r.sep j k l l' p hjk q1 q2 s1
  · have h1 : ρ.length ≤ i := Nat.le_of_not_lt hi
    rw [put_out h1, List.set_eq_of_length_le (by rw [r.len]; exact h1)]
    exact r
theorem RelS.wipe (r : RelS K cl H0 ρ σ H π) : ∀ vs : List Nat, RelS K cl H0 (Sl.wipe ρ vs) (L2.wipe σ vs) H π
  | [] => r
  | v :: vs => by
    show RelS K cl H0 (Sl.put (Sl.wipe ρ vs) v .und) ((L2.wipe σ vs).set v none) H π
    exact (RelS.wipe r vs).unset v
theorem wipe_set {x : Option V} {i : Nat} : ∀ {vs : List Nat} {σ : L2.St}, i ∈ vs → L2.wipe (σ.set i x) vs = L2.wipe σ vs
  | v :: vs, σ, h => by
    show (L2.wipe (σ.set i x) vs).set v none = (L2.wipe σ vs).set v none
    by_cases hm : i ∈ vs
    · rw [wipe_set hm]
    · have e : i = v := by
        rcases List.mem_cons.mp h with e | e
        · exact e
        · exact absurd e hm
      subst e
      have z : ∀ (vs : List Nat) (σ : L2.St), i ∉ vs → (L2.wipe (σ.set i x) vs).set i none = (L2.wipe σ vs).set i none := fun vs => by
        induction vs with
        | nil => intro σ _; show (σ.set i x).set i none = σ.set i none; exact List.set_set _
        | cons w ws ih =>
          intro σ hn
          simp only [List.mem_cons, not_or] at hn
          show ((L2.wipe (σ.set i x) ws).set w none).set i none = ((L2.wipe σ ws).set w none).set i none
          rw [List.set_comm _ _ (Ne.symm hn.1), ih σ hn.2, List.set_comm _ _ hn.1]
      exact z vs σ hm
def LG (K : PySem.W.Frag) (cl : Cls0) (H0 : Hp) (t : Tg) : TG := fun v σ H Q => ∃ ρ π d ρ1, RelS K cl H0 ρ σ H π ∧ Rp K cl H π d v ∧ tgo t d ρ = some ρ1 ∧
  ∀ σ1, RelS K cl H0 ρ1 σ1 H π → (∀ vs, (∀ i ∈ tgIs t, i ∈ vs) → L2.wipe σ1 vs = L2.wipe σ vs) → Q σ1 H
end
section
variable {X : Cx} {nm : Nm} {P : Pr} {Γ : Gam} {cl : Cls0} {fa : Fa} {gl df : Nat → Bool} {j : Nat} {H0 : Hp} {N : List Str} {sc : Scope} {fnc : Str → Bool}
theorem PG.of {tg : Expr} {t t' : TG} (h : PG X tg t) (k : ∀ v σ H Q, t' v σ H Q → t v σ H Q) : PG X tg t' := ⟨fun pins s σ H v u Q I r q => h.run pins s σ H v u Q I r (k v σ H Q q)⟩
theorem chkN_of {i : Nat} {e : Expr} (h : chkN N sc fnc i e = true) : ∃ x p, e = .Name x p ∧ N[i]? = some x ∧ L2.Loc sc x ∧ (fnc x = true ∨ sc.names.lookup x = some .local) := by
  cases e with
  | Name x p =>
    have h : (decide (N[i]? = some x) && locB sc x && (fnc x || (match sc.names.lookup x with | some .local => true | _ => false))) = true := h
    simp only [Bool.and_eq_true, Bool.or_eq_true, decide_eq_true_eq] at h
    refine ⟨x, p, rfl, h.1.1, loc_of h.1.2, h.2.imp id fun q => ?_⟩
    split at q
    · assumption
    · cases q
  | _ => cases h
theorem pg_nm {i : Nat} {e : Expr} (hN : X.N = N) (hs : X.env.scope = sc) (hf : X.fn = fnc) (hd : X.N.Nodup) (h : chkN N sc fnc i e = true) : PG X e (gName i) := by
  obtain ⟨x, p, rfl, h1, h2, h3⟩ := chkN_of h
  subst hN hs hf
  exact pg_name hd h1 h2 h3
theorem pgs_nm : ∀ {is : List Nat} {es : List Expr}, X.N = N → X.env.scope = sc → X.fn = fnc → X.N.Nodup → chkNs N sc fnc is es = true →
    (PGs X es (fun vs σ H Q => vs.length = is.length ∧ Q ((is.zip vs).foldl (fun r p => r.set p.1 (some p.2)) σ) H)) ∧ (assignEach es X.env).length = is.length ∧ (assignEach es X.env).findIdx? (·.1) = none ∧ es.length = is.length
  | [], [], _, _, _, _, _ => ⟨⟨fun pins s σ H vs us Q I r ⟨h1, h2⟩ => pgs_nil.run pins s σ H vs us Q I r ⟨List.length_eq_zero_iff.mp h1, by
      rw [List.length_eq_zero_iff.mp h1] at h2; exact h2⟩⟩, rfl, rfl, rfl⟩
  | i :: is, e :: es, hN, hs, hf, hd, h => by
    have h : (chkN N sc fnc i e && chkNs N sc fnc is es) = true := h
    rw [Bool.and_eq_true] at h
    have ih := pgs_nm (is := is) (es := es) hN hs hf hd h.2
    obtain ⟨x, p, rfl, _⟩ := chkN_of h.1
    refine ⟨⟨fun pins s σ H vs us Q I r ⟨h1, h2⟩ => ?_⟩, by show _ + 1 = _ + 1; rw [ih.2.1], ?_, by show _ + 1 = _ + 1; rw [ih.2.2.2]⟩
    · refine (pgs_cons (pg_nm hN hs hf hd h.1) ih.1 rfl).run pins s σ H vs us Q I r ?_
      cases vs with
      | nil => cases h1
      | cons v vs => exact ⟨v, vs, rfl, by simpa using h1, h2⟩
    · show List.findIdx? _ ((false, _) :: assignEach es X.env) = none
      rw [List.findIdx?_cons]
      simp only [Bool.false_eq_true, if_false]
      rw [ih.2.2.1]; rfl
  | [], _ :: _, _, _, _, _, h => by cases h
  | _ :: _, [], _, _, _, _, h => by cases h
theorem fold_rel {K : PySem.W.Frag} {H : Hp} {π : List Addr} : ∀ {is : List Nat} {l : List D} {vs : List V} {ρ : Rho} {σ : L2.St}, Rps K cl H π l vs → RelS K cl H0 ρ σ H π →
    RelS K cl H0 ((is.zip l).foldl (fun r p => Sl.put r p.1 (.val p.2)) ρ) ((is.zip vs).foldl (fun r p => r.set p.1 (some p.2)) σ) H π
  | [], _, _, _, _, _, r => by simpa using r
  | _ :: _, _, _, _, _, .nil, r => by simpa using r
  | i :: is, _, _, _, _, .cons a b, r => by
    rw [List.zip_cons_cons, List.zip_cons_cons, List.foldl_cons, List.foldl_cons]
    exact fold_rel b (r.store i a)
theorem fold_wipe {ws : List Nat} : ∀ {is : List Nat} {vs : List V} {σ : L2.St}, (∀ i ∈ is, i ∈ ws) → L2.wipe ((is.zip vs).foldl (fun r p => r.set p.1 (some p.2)) σ) ws = L2.wipe σ ws
  | [], _, _, _ => by simp
  | _ :: _, [], _, _ => by simp
  | i :: is, v :: vs, σ, h => by
    rw [List.zip_cons_cons, List.foldl_cons]
    show L2.wipe ((is.zip vs).foldl _ (σ.set i (some v))) ws = _
    rw [fold_wipe (is := is) (vs := vs) (σ := σ.set i (some v)) fun k hk => h k (List.mem_cons_of_mem _ hk), wipe_set (h i List.mem_cons_self)]
theorem pg_of {t : Tg} {tg : Expr} (hN : X.N = N) (hs : X.env.scope = sc) (hf : X.fn = fnc) (hc : X.calm = true) (hd : X.N.Nodup) (h : chkT N sc fnc t tg = true) : PG X tg (LG X.K cl H0 t) := by
  cases t with
  | nm i =>
    refine PG.of (pg_nm hN hs hf hd h) fun v σ H Q ⟨ρ, π, d, ρ1, rs, rp, e, k⟩ => ?_
    cases e
    exact k _ (rs.store i rp) fun vs hv => wipe_set (hv i List.mem_cons_self)
  | tp is =>
    cases tg with
    | Tuple xs kk pos =>
      have h : chkNs N sc fnc is xs = true := h
      obtain ⟨h1, h2, h3, h4⟩ := pgs_nm hN hs hf hd h
      refine ⟨fun pins s σ H v u Q I ru ⟨ρ, π, d, ρ1, rs, rp, e, k⟩ => ?_⟩
      unfold tgo at e
      simp only at e
      cases rp with
      | tup hq hr =>
        simp only at e
        split at e
        · rename_i hl
          cases e
          have hl' := hr.length
          exact (pg_tup hc h1 h2 h3).run pins s σ H _ u Q I ru ⟨_, _, rfl, hq, by rw [← hl', hl], by rw [← hl', hl], k _ (fold_rel hr rs) fun vs hv => fold_wipe hv⟩
        · cases e
      | lst hq hr =>
        simp only at e
        split at e
        · rename_i hl
          cases e
          have hl' := hr.length
          exact (pg_unl hc h1 h2 h3).run pins s σ H _ u Q I ru ⟨_, _, rfl, hq.sq, by rw [← hl', hl], by rw [← hl', hl], k _ (fold_rel hr rs) fun vs hv => fold_wipe hv⟩
        · cases e
      | _ => cases e
    | _ => cases h
end
end Vw
set_option Elab.async false
set_option linter.all false
set_option maxRecDepth 100000
set_option maxHeartbeats 4000000
namespace Vw
open PySem PySem.Spec L2
section
variable {K : PySem.W.Frag} {cl : Cls0} {H0 H H1 : Hp} {π π1 : List Addr} {ρ : Rho} {σ : L2.St} {μ : Mu} {p : Addr} {vs : List V} {o : HO}
theorem Ste.un (h : H p = some (.lst vs)) : Ste H (upd H p o) := fun b u e k => by
  by_cases hb : b = p
  · subst hb
    rw [h] at e
    cases e
    exact k.elim
  · rw [upd_ne hb]; exact e
theorem PiOk.un (ok : PiOk H π) (h : H p = some (.lst vs)) : PiOk (upd H p o) π := fun a m => by
  obtain ⟨k, e⟩ := ok a m
  refine ⟨k, ?_⟩
  rw [upd_ne (fun q => by rw [q, h] at e; cases e)]
  exact e
theorem CR.un (c : CR K cl H π μ) (h : H p = some (.lst vs)) : CR K cl (upd H p o) π μ := by
  refine ⟨c.len, c.nd, c.ok.un h, fun n kvs e => ?_⟩
  obtain ⟨a, kv, h1, h2, h3, h4, h5⟩ := c.at_ n kvs e
  refine ⟨a, kv, h1, ?_, h3, h4, h5.st (Ste.un h) fun _ _ q => q⟩
  rw [upd_ne (fun q => by rw [q, h] at h2; cases h2)]
  exact h2
theorem Mv.un (m : Mv H1 π1 H π) (h1 : H1 p = none) (h : H p = some (.lst vs)) : Mv H1 π1 (upd H p o) π :=
  ⟨m.ext, fun b u e n => by rw [upd_ne (ne_of_none e h1)]; exact m.keep b u e n, m.cells.un h⟩
theorem Mv.none (m : Mv H π H1 π1) (h : H1 p = none) : H p = none := by
  cases q : H p with
  | none => rfl
  | some u =>
    by_cases hp : p ∈ π
    · obtain ⟨e, e1, _⟩ := m.ext
      obtain ⟨k, z⟩ := m.cells p (by rw [e1]; exact List.mem_append_left _ hp)
      rw [h] at z; cases z
    · rw [m.keep p u q hp] at h; cases h
theorem wipe_sub {ws : List Nat} : ∀ {vs : List Nat}, (∀ i ∈ vs, i ∈ ws) → L2.wipe (L2.wipe σ vs) ws = L2.wipe σ ws
  | [], _ => rfl
  | v :: vs, h => by
    show L2.wipe ((L2.wipe σ vs).set v none) ws = _
    rw [wipe_set (h v List.mem_cons_self), wipe_sub fun i hi => h i (List.mem_cons_of_mem _ hi)]
def RawL (K : PySem.W.Frag) (cl : Cls0) (H0 : Hp) (r : Rho → Mu → Out D) : TE := fun σ H Q => ∃ ρ μ π l μ', RelS K cl H0 ρ σ H π ∧ CR K cl H π μ ∧ r ρ μ = .ok (.lst l) μ' ∧
  ∀ p vs H1 π1, H1 p = some (.lst vs) → H p = none → Rps K cl H1 π1 l vs → Mv H π H1 π1 → CR K cl H1 π1 μ' → Q (.ref p) H1
end
section
variable {X : Cx} {nm : Nm} {P : Pr} {Γ : Gam} {cl : Cls0} {fa : Fa} {gl df : Nat → Bool} {j : Nat} {H0 : Hp} {N : List Str} {sc : Scope}
theorem rawL_lst {es : Es} {xs : List Expr} {pos : Pos} (h : PA X xs (LA X.K cl H0 (evs P Γ es))) : PE X (.List xs pos) (RawL X.K cl H0 (ev P Γ (.lst es))) :=
  PE.of (raw_lst h) fun σ H Q ⟨ρ, μ, π, l, μ', rs, cr, e, k⟩ => ⟨ρ, μ, π, l, μ', rs, cr, e, fun p vs H1 π1 hp r m c =>
    k p vs _ π1 upd_same (m.none hp) (r.mv c.ok (Mv.new c.ok hp)) (m.trans (Mv.new c.ok hp)) (c.new hp)⟩
theorem snd_raw {r : Rho → Mu → Out D} {x : Expr} (h : PE X x (RawL X.K cl H0 r)) (hl : ∀ ρ μ d μ', r ρ μ = .ok d μ' → ∃ l, d = .lst l) (hp : plainT x = true) : Snd X cl H0 x r :=
  .of (PE.of (PE.frz h) fun σ H Q ⟨ρ, μ, π, d, μ', rs, cr, e, k⟩ => by
    obtain ⟨l, rfl⟩ := hl _ _ _ _ e
    refine ⟨ρ, μ, π, l, μ', rs, cr, e, fun p vs H1 π1 h1 hp r1 m1 c1 => .inr ⟨p, vs, h1, fun o => ?_⟩⟩
    exact k _ _ π1 (.lst (.inl ⟨o, upd_same⟩) (r1.st (Ste.un h1) fun _ _ q => q)) (m1.un hp h1) (c1.un h1)) hp
def lcF (P : Pr) (Γ : Gam) (own : List Nat) (t : Tg) (c : Oe) (e : E) (ρ : Rho) : D → Mu → Out (Option D) := fun d μ => match tgo t d (Sl.wipe ρ own) with
  | none => .bad
  | some ρ1 => (evo P Γ c ρ1 μ).bind fun k μ1 => match k with
    | none => (ev P Γ e ρ1 μ1).bind fun x μ2 => .ok (some x) μ2
    | some (.bl true) => (ev P Γ e ρ1 μ1).bind fun x μ2 => .ok (some x) μ2
    | some (.bl false) => .ok none μ1
    | _ => .bad
theorem ev_lc {own : List Nat} {t : Tg} {it : It} {c : Oe} {e : E} {ρ : Rho} {μ : Mu} : ev P Γ (.lc own t it c e) ρ μ = (evi P Γ it ρ μ).bind fun items μ1 => (lcgo (lcF P Γ own t c e ρ) items μ1).bind fun l μ2 => lenOk l μ2 .lst := by
  simp only [ev]; rfl
theorem lcgo_cons {f : D → Mu → Out (Option D)} {d : D} {ds : List D} {μ μ' : Mu} {r : List D} (h : lcgo f (d :: ds) μ = .ok r μ') : ∃ o μ1 r1, f d μ = .ok o μ1 ∧ lcgo f ds μ1 = .ok r1 μ' ∧ r = (match o with | some x => x :: r1 | none => r1) := by
  unfold lcgo at h
  obtain ⟨o, μ1, h1, h⟩ := Out.bind_eq_ok h
  obtain ⟨r1, μ2, h2, h⟩ := Out.bind_eq_ok h
  cases o <;> (cases h; exact ⟨_, _, _, h1, h2, rfl⟩)
def LC (K : PySem.W.Frag) (cl : Cls0) (H0 : Hp) (P : Pr) (Γ : Gam) : Oe → TT
  | .none => tYes
  | .some c => LT K cl H0 (ev P Γ c)
theorem lc_le {own : List Nat} {t : Tg} {it : It} {c : Oe} {e : E} (ht : ∀ i ∈ tgIs t, i ∈ own) {K : PySem.W.Frag} (σ : L2.St) (H : Hp) (Q : VK) (h : RawL K cl H0 (ev P Γ (.lc own t it c e)) σ H Q) :
    tLc (LI K cl H0 (evi P Γ it)) (LG K cl H0 t) (LC K cl H0 P Γ c) (LE K cl H0 (ev P Γ e)) own σ H Q := by
  obtain ⟨ρ, μ, π, l, μ', rs, cr, e0, k⟩ := h
  rw [ev_lc] at e0
  obtain ⟨items, μ1, e1, e0⟩ := Out.bind_eq_ok e0
  obtain ⟨l', μ2, e2, e0⟩ := Out.bind_eq_ok e0
  obtain ⟨hz, ez, rfl⟩ := lenOk_ok e0
  cases ez
  refine ⟨ρ, μ, π, items, μ1, rs, cr, e1, fun J H1 π1 y m1 c1 D hD => ?_⟩
  refine ⟨fun i m H' => m = items.length - i ∧ i ≤ items.length ∧ ∃ π' μi acc vs rest, H' D = some (.lst vs) ∧ Rps K cl H' π' acc vs ∧ CR K cl H' π' μi ∧ Mv H1 π1 H' π' ∧ lcgo (lcF P Γ own t c e ρ) (items.drop i) μi = .ok rest μ' ∧ acc ++ rest = l,
    ⟨items.length, rfl, Nat.zero_le _, π1, μ1, [], [], l, upd_same, .nil, c1.new hD, Mv.new c1.ok hD, e2, rfl⟩, ?_⟩
  rintro i m H' ⟨rfl, hi, π', μi, acc, vs, rest, hd, ra, ci, mi, el, er⟩
  have Y := y H' π' (mi.ste c1.ok) (fun k a q => mi.at q) ci.ok
  have rs' : RelS K cl H0 ρ σ H' π' := (rs.mv cr.ok m1).mv c1.ok mi
  by_cases hlt : i < items.length
  · right
    obtain ⟨g1, g2⟩ := Y.1 i items[i] (by simp [hlt])
    refine ⟨g1, fun H' => i + 1 ≤ items.length ∧ ∃ π' μi acc vs rest, H' D = some (.lst vs) ∧ Rps K cl H' π' acc vs ∧ CR K cl H' π' μi ∧ Mv H1 π1 H' π' ∧ lcgo (lcF P Γ own t c e ρ) (items.drop (i + 1)) μi = .ok rest μ' ∧ acc ++ rest = l,
      fun H' hw => ⟨items.length - (i + 1), by omega, rfl, hw⟩, fun x H2 hy => ?_⟩
    obtain ⟨rx, nw⟩ := g2 x H2 hy
    have m2 : Mv H' π' H2 π' := nw.mv ci.ok
    have c2 : CR K cl H2 π' μi := nw.cr ci
    have hd2 : H2 D = some (.lst vs) := m2.keep _ _ hd (ci.ok.notLst hd)
    have ra2 := ra.mv ci.ok m2
    have mm : Mv H1 π1 H2 π' := mi.trans m2
    rw [List.drop_eq_getElem_cons hlt] at el
    obtain ⟨o, μ3, r1, f1, f2, f3⟩ := lcgo_cons el
    unfold lcF at f1
    cases hq : tgo t items[i] (Sl.wipe ρ own) with
    | none => rw [hq] at f1; cases f1
    | some ρ1 =>
    rw [hq] at f1
    simp only at f1
    obtain ⟨kk, μ4, fc, f1⟩ := Out.bind_eq_ok f1
    refine ⟨Sl.wipe ρ own, π', items[i], ρ1, (rs'.mv ci.ok m2).wipe own, rx, hq, fun σ2 rs2 hw => ⟨by rw [hw own ht, wipe_sub fun i hi => hi], ?_⟩⟩
    have elt : ∀ {H3 : Hp} {π3 : List Addr} {x' : Vw.D}, Mv H2 π' H3 π3 → CR K cl H3 π3 μ4 → o = some x' → ev P Γ e ρ1 μ4 = .ok x' μ3 → LE K cl H0 (ev P Γ e) σ2 H3 fun yv H4 => ∃ ac, H4 D = some (.lst ac) ∧ ac.length < sizeLine ∧ (i + 1 ≤ items.length ∧ ∃ π' μi acc vs rest, upd H4 D (.lst (ac ++ [yv])) D = some (.lst vs) ∧ Rps K cl (upd H4 D (.lst (ac ++ [yv]))) π' acc vs ∧ CR K cl (upd H4 D (.lst (ac ++ [yv]))) π' μi ∧
        Mv H1 π1 (upd H4 D (.lst (ac ++ [yv]))) π' ∧ lcgo (lcF P Γ own t c e ρ) (items.drop (i + 1)) μi = .ok rest μ' ∧ acc ++ rest = l) := fun {H3 π3 x'} m3 c3 eo ee => by
      subst eo
      refine ⟨ρ1, μ4, π3, x', μ3, rs2.mv c2.ok m3, c3, ee, fun v H4 π4 rv m4 c4 => ?_⟩
      have m5 := m3.trans m4
      have hd4 : H4 D = some (.lst vs) := m5.keep _ _ hd2 (c2.ok.notLst hd2)
      refine ⟨vs, hd4, ?_, hlt, π4, μ3, acc ++ [x'], vs ++ [v], r1, upd_same, ?_, c4.un hd4, (mm.trans m5).un hD hd4, f2, ?_⟩
      · have q1 := ra.length
        have q2 : l.length = acc.length + (r1.length + 1) := by rw [← er, f3, List.length_append]; rfl
        have := cap_line hz
        omega
      · exact (Rps.append (ra2.mv c2.ok m5) (.cons rv .nil)).st (Ste.un hd4) fun _ _ q => q
      · rw [← er, f3, List.append_assoc]; rfl
    cases c with
    | none =>
      cases (show (Out.ok none μi : Out (Option Vw.D)) = .ok kk μ4 from fc)
      simp only at f1
      obtain ⟨x', μ5, ee, f1⟩ := Out.bind_eq_ok f1
      cases f1
      have zz : LC K cl H0 P Γ Oe.none = tYes := rfl
      rw [zz]
      unfold tYes
      refine (if_pos (rfl : true = true)).mpr ?_
      exact elt (Mv.refl c2.ok) c2 rfl ee
    | some c =>
      obtain ⟨dk, μ6, ec, fc⟩ := Out.bind_eq_ok (show ((ev P Γ c ρ1 μi).bind fun d μ1 => Out.ok (some d) μ1) = .ok kk μ4 from fc)
      cases fc
      cases dk with
      | bl b =>
        refine ⟨ρ1, μi, π', b, μ4, rs2, c2, ec, fun H3 π3 m3 c3 => ?_⟩
        cases b with
        | true =>
          simp only at f1
          obtain ⟨x', μ5, ee, f1⟩ := Out.bind_eq_ok f1
          cases f1
          exact iteT (elt m3 c3 rfl ee)
        | false =>
          cases f1
          refine iteF ⟨hlt, π3, μ3, acc, vs, r1, m3.keep _ _ hd2 (c2.ok.notLst hd2), ra2.mv c2.ok m3, c3, mm.trans m3, f2, by rw [← er, f3]⟩
      | _ => cases f1
  · left
    have ei : i = items.length := by omega
    subst ei
    rw [List.drop_length] at el
    cases el
    rw [List.append_nil] at er
    subst er
    exact ⟨Y.2, k D vs H' π' hd (m1.none hD) ra (m1.trans mi) ci⟩
theorem map_own {own : List Nat} {N : List Str} : (own.map fun i => (N.getD i Str.empty, i)).map (·.2) = own := by
  rw [List.map_map]
  exact List.map_id _
theorem Bd.blk (B : Bd X nm P Γ cl fa gl df j) (s : Shared) (H : Hp) (scope : Scope) (C : Addr) (c : List (Str × Addr)) (fp : List Addr) : Bd (X.blk s H scope (compEnvC scope c C X.env) fp) nm P Γ cl fa gl df j := ⟨B.gf, B.ff, B.room, B.calm, B.gd⟩
theorem pts_of {c : Oe} {xs : List Expr} (h : match c, xs with | .none, [] => True | .some c, [x] => Snd X cl H0 x (ev P Γ c) | _, _ => False) : PTs X xs (LC X.K cl H0 P Γ c) := by
  cases c with
  | none =>
    cases xs with
    | nil => exact pts_nil
    | cons => exact h.elim
  | some c =>
    cases xs with
    | nil => exact h.elim
    | cons x xs =>
      cases xs with
      | nil => exact pts_one h.pt
      | cons => exact h.elim
theorem raw_lc {own : List Nat} {t : Tg} {it : It} {c : Oe} {e : E} {elt tg iter : Expr} {ifs : List Expr} {scope : Scope} {pos : Pos} (hN : X.N = N) (hs : X.env.scope = sc) (hd : X.N.Nodup) (B : Bd X nm P Γ cl fa gl df j)
    (hb : ownOk N sc scope own = true) (ht : ((tgIs t).all fun i => own.contains i) = true) (hi : PI X tg iter (LI X.K cl H0 (evi P Γ it)))
    (htg : chkT N (blkS scope sc) (fun x => scope.names.lookup x == some .cell) t tg = true) (hfs : ∀ env x, foldedSetIterable iter env x = pure x)
    (hc : ∀ (s : Shared) (H : Hp) (C : Addr) (c1 : List (Str × Addr)) (fp : List Addr), PTs (X.blk s H scope (compEnvC scope c1 C X.env) fp) ifs (LC X.K cl H0 P Γ c))
    (he : ∀ (s : Shared) (H : Hp) (C : Addr) (c1 : List (Str × Addr)) (fp : List Addr), Snd (X.blk s H scope (compEnvC scope c1 C X.env) fp) cl H0 elt (ev P Γ e)) :
    PE X (.ListComp elt [⟨tg, iter, ifs, 0⟩] scope pos) (RawL X.K cl H0 (ev P Γ (.lc own t it c e))) := by
  subst hN hs
  have hb' : BlkOk X.N X.env.scope scope (own.map fun i => (X.N.getD i Str.empty, i)) := blkOk_by hb
  refine PE.of (pe_lc (g := LG X.K cl H0 t) (tt := LC X.K cl H0 P Γ c) (te := LE X.K cl H0 (ev P Γ e)) B.calm hd hi hb' (fun s H C c1 fp => pg_of (H0 := H0) (cl := cl) (X := X.blk s H scope (compEnvC scope c1 C X.env) fp) rfl rfl rfl B.calm hd htg) hc (fun s H C c1 fp => (he s H C c1 fp).pe) (hfs _)) fun σ H Q h => ?_
  rw [map_own]
  refine lc_le (fun i hi => ?_) σ H Q h
  have := List.all_eq_true.mp ht i hi
  simpa using this
theorem lc_isl {own : List Nat} {t : Tg} {it : It} {c : Oe} {e : E} (ρ : Rho) (μ : Mu) (d : D) (μ' : Mu) (h : ev P Γ (.lc own t it c e) ρ μ = .ok d μ') : ∃ l, d = .lst l := by
  rw [ev_lc] at h
  obtain ⟨items, μ1, e1, h⟩ := Out.bind_eq_ok h
  obtain ⟨l', μ2, e2, h⟩ := Out.bind_eq_ok h
  obtain ⟨hz, rfl, rfl⟩ := lenOk_ok h
  exact ⟨_, rfl⟩
end
end Vw
set_option Elab.async false
set_option linter.all false
set_option maxRecDepth 100000
set_option maxHeartbeats 4000000
namespace Vw
open PySem PySem.Spec L2
section
variable {X : Cx} {nm : Nm} {P : Pr} {Γ : Gam} {cl : Cls0} {fa : Fa} {gl df : Nat → Bool} {j : Nat} {H0 : Hp} {N : List Str} {sc : Scope}
theorem pa_star' {e : E} {es : Es} {x : Expr} {xs : List Expr} {p : Pos} (h : Snd X cl H0 x (ev P Γ e)) (hr : PA X xs (LA X.K cl H0 (evs P Γ es))) : PA X (.Starred x p :: xs) (LA X.K cl H0 (evs P Γ (.star e es))) :=
  ⟨fun pos pins s σ H Q I ⟨ρ, μ, π, ds, μ', rs, cr, ee, k⟩ => (StX.pa_star h.pe hr).run pos pins s σ H Q I (by
    simp only [evs] at ee
    obtain ⟨d1, μ1, e1, ee⟩ := Out.bind_eq_ok ee
    refine ⟨ρ, μ, π, d1, μ1, rs, cr, e1, fun v1 H1 π1 r1 m1 c1 => ?_⟩
    cases r1 with
    | @lst a l vs hl hr' =>
      simp only [seqOf] at ee
      obtain ⟨d2, μ2, e2, ee⟩ := Out.bind_eq_ok ee
      cases ee
      exact ⟨a, vs, rfl, .inr hl.sq, ρ, μ1, π1, d2, _, rs.mv cr.ok m1, c1, e2, fun ws H2 π2 r2 m2 c2 => k _ H2 π2 ((hr'.mv c1.ok m2).append r2) (m1.trans m2) c2⟩
    | @tup a l vs hl hr' =>
      simp only [seqOf] at ee
      obtain ⟨d2, μ2, e2, ee⟩ := Out.bind_eq_ok ee
      cases ee
      exact ⟨a, vs, rfl, .inl hl, ρ, μ1, π1, d2, _, rs.mv cr.ok m1, c1, e2, fun ws H2 π2 r2 m2 c2 => k _ H2 π2 ((hr'.mv c1.ok m2).append r2) (m1.trans m2) c2⟩
    | _ => simp only [seqOf] at ee; cases ee)⟩
theorem snd_rev {a : E} {x : Expr} {k : Nat} {p1 p2 p3 pos : Pos} (h : Snd X cl H0 x (ev P Γ a)) : Snd X cl H0 (.Subscript x (.Slice none none (some (.UnaryOp .USub (.Constant (.int 1) k p1) p2)) p3) pos) (ev P Γ (.rev a)) :=
  .of (PE.of (PE.frz (pe_revL h.pe)) fun σ H Q ⟨ρ, μ, π, d, μ', rs, cr, e, kk⟩ => by
    simp only [ev] at e
    obtain ⟨d1, μ1, e1, e⟩ := Out.bind_eq_ok e
    refine ⟨ρ, μ, π, d1, μ1, rs, cr, e1, fun v1 H1 π1 r1 m1 c1 => ?_⟩
    cases r1 with
    | @lst a l vs hl hr =>
      cases e
      refine ⟨a, vs, rfl, hl.sq, fun p hp => .inr ⟨p, vs.reverse, upd_same, fun o => ?_⟩⟩
      rw [upd_upd]
      exact kk _ _ π1 (frz_new c1.ok hp hr.reverse) (m1.trans (Mv.new c1.ok hp)) (c1.new hp)
    | _ => cases e) rfl
theorem meth_eq {o : Expr} {m : Str} {apos pos : Pos} {args : List Expr} {env : Env} (hp : plainA o = true) (hx : (backTo pos (starEach args env)).any (·.1) = false) (hn : args.length < 29) (hl : (apos.endLine == pos.line) = true) :
    eval (.Call (.Attribute o m apos) args [] pos) env = (do
      let ov ← eval o env
      standAt apos.atName
      let (f, first) ← holding [ov] (getMethod ov m (do return (← importBound o env).getD true))
      callWith pos f first (backTo pos (starEach args env)) (backToKw pos (keywordEach [] env))) := by
  show (do
    let ov ← attributeBase o m env (eval o env)
    standAt apos.atName
    methodCall o m apos pos env ov (args.length + ([] : List Keyword).length) (backTo pos (starEach args env)) (backToKw pos (keywordEach [] env))) = _
  rw [attr_plain hp]
  have hf : methodCallForm (args.length + ([] : List Keyword).length) (backTo pos (starEach args env)) (backToKw pos (keywordEach [] env)) = true := by
    unfold methodCallForm
    have h1 : (backTo pos (starEach args env)).all (fun x => !x.1) = true := by
      rw [List.all_eq_not_any_not]
      simp only [Bool.not_not]
      rw [hx]; rfl
    rw [h1]
    show (true && true && decide (args.length + 0 + 0 < 30)) = true
    simp only [Bool.and_self, Bool.true_and, decide_eq_true_eq]
    omega
  have hq : methodCallPos true o env apos pos = pure pos := by unfold methodCallPos; simp [hl]
  unfold methodCall
  rw [hf, hq]
  simp only [calleeOf, if_true, pure_bind]
theorem snd_meth {o : E} {m : Nat} {as : Es} {x : Expr} {n : Str} {y : Expr} {ys : List Expr} {apos pos : Pos} (B : Bd X nm P Γ cl fa gl df j) (hnm : nm.mth m = n) (hp : plainA x = true) (hl : (apos.endLine == pos.line) = true) (hn : (y :: ys).length < 29)
    (hx : (y :: ys).all plainX = true) (ho : Snd X cl H0 x (ev P Γ o)) (ha : PA X (y :: ys) (LA X.K cl H0 (evs P Γ as))) : Snd X cl H0 (.Call (.Attribute x n apos) (y :: ys) [] pos) (ev P Γ (.meth o m as)) := by
  rw [List.all_cons, Bool.and_eq_true] at hx
  refine .of ⟨fun pins s σ H Q I ⟨ρ, μ, π, d, μ', rs, cr, e, k⟩ => ?_⟩ rfl
  simp only [ev] at e
  obtain ⟨d1, μ1, e1, e⟩ := Out.bind_eq_ok e
  obtain ⟨ds, μ2, e2, e⟩ := Out.bind_eq_ok e
  have hst := star_cons (env := X.env) (es := ys) hx.1
  have hpl := star_all (env := X.env) (pos := pos) hx.2
  refine PySem.W.methodCall_KW (thn (ho.pe.run pins s σ H (fun v1 H1 => ∃ π1, Rp X.K cl H1 π1 d1 v1 ∧ Mv H π H1 π1 ∧ CR X.K cl H1 π1 μ1) I ⟨ρ, μ, π, d1, μ1, rs, cr, e1, fun v1 H1 π1 r1 m1 c1 => ⟨π1, r1, m1, c1⟩⟩) fun u s1 ⟨v1, H1, I1, ru, π1, r1, m1, c1⟩ => ?_) (meth_eq hp (by rw [hst]; exact hpl) hn hl)
  cases r1 with
  | @obj c C ad dx ns fs xs hc hH hl' hr =>
    cases ru
    simp only at e
    unfold callM at e
    split at e
    rotate_left
    · cases e
    rename_i f hf'
    obtain ⟨Cl, _, hln, hnd, hno⟩ := B.gf.cls c C ns hc
    have M := B.gf.mth c m f C ns hf' hc
    rw [hnm] at M
    have hlk : (ns.zip xs).lookup n = none := by
      have : ∀ (ns : List Str) (xs : List V), n ∉ ns → (ns.zip xs).lookup n = none := fun ns => by
        induction ns with
        | nil => intro xs _; rfl
        | cons a ns ih =>
          intro xs h
          cases xs with
          | nil => rfl
          | cons b xs =>
            simp only [List.mem_cons, not_or] at h
            rw [List.zip_cons_cons, List.lookup_cons, beq_eq_false_iff_ne.mpr h.1]
            exact ih xs h.2
      refine this ns xs fun hm => ?_
      have z1 := hno n hm
      have z2 := M.at_
      rw [show PySem.W.findIn X.K (.ref C) n = some none from z1] at z2
      cases z2
    refine getmeth_ok I1 hH Cl M hlk ?_
    refine PySem.W.callWith_K (first := [.ref ad]) (h₀ := X.base) I.ok.mod.kin M.kp (thn (ha.run pos pins s1 σ H1 (fun vs H2 => ∃ π2, Rps X.K cl H2 π2 ds vs ∧ Mv H1 π1 H2 π2 ∧ CR X.K cl H2 π2 μ2) I1 ⟨ρ, μ1, π1, ds, μ2, rs.mv cr.ok m1, c1, e2, fun vs H2 π2 r2 m2 c2 => ⟨π2, r2, m2, c2⟩⟩) fun us s2 ⟨vs, H2, I2, r, π2, r2, m2, c2⟩ => ⟨I2.kIn, ?_⟩) hst hpl
    exact run_df (us := .ref ad :: us) (vs := .ref ad :: vs) B (B.ff.meth c m f hf') I2 (.cons rfl r) (.cons (.obj hc (m2.keep _ _ hH (c1.ok.notIns hH)) hl' (hr.mv c1.ok m2)) r2) c2 e (fun v H' π' rr mm cc => k v H' π' rr ((m1.trans m2).trans mm) cc)
  | _ => simp only at e; cases e
theorem snd_stat {sc : Scope} {f c m : Nat} {as : Es} {x n : Str} {y : Expr} {ys : List Expr} {apos pos p2 : Pos} (hs : X.env.scope = sc) (B : Bd X nm P Γ cl fa gl df j) (hst : P.sta f = some (c, m)) (hg : glB sc x (nm.cls c) = true) (hnm : nm.mth m = n) (hl : (apos.endLine == pos.line) = true) (hn : (y :: ys).length < 29)
    (hx : (y :: ys).all plainX = true) (ha : PA X (y :: ys) (LA X.K cl H0 (evs P Γ as))) : Snd X cl H0 (.Call (.Attribute (.Name x p2) n apos) (y :: ys) [] pos) (ev P Γ (.stat f as)) := by
  rw [List.all_cons, Bool.and_eq_true] at hx
  obtain ⟨g1, g2, g3⟩ := glB_of hg
  subst g1
  obtain ⟨C, ns, mc, p, rest, hc, hR, hA, hT, hF, hP⟩ := B.gf.sta f c m hst
  obtain ⟨_, hM, _⟩ := B.gf.cls c C ns hc
  have hG : Gl X (nm.cls c) := by show X.env.scope.names.lookup _ = _; rw [hs]; exact g2
  rw [hnm] at hF
  refine .of ⟨fun pins s σ H Q I ⟨ρ, μ, π, d, μ', rs, cr, e, k⟩ => ?_⟩ rfl
  simp only [ev] at e
  obtain ⟨ds, μ1, e1, e⟩ := Out.bind_eq_ok e
  have hst' := star_cons (env := X.env) (es := ys) hx.1
  have hpl := star_all (env := X.env) (pos := pos) hx.2
  have PC : PE X (.Name (nm.cls c) p2) (tC (.ref C)) := pe_glob hG hM rfl g3
  refine PySem.W.methodCall_KW (thn (PC.run pins s σ H (fun v1 H1 => v1 = .ref C ∧ H = H1) I ⟨rfl, rfl⟩) fun u s1 ⟨v1, H1, I1, ru, ev1, eh⟩ => ?_) (meth_eq rfl (by rw [hst']; exact hpl) hn hl)
  subst ev1 eh
  obtain rfl : u = Value.ref C := ru
  refine PySem.W.method_cls I1.kIn hA (PySem.W.cls_bind I1.kIn hR hF (wpAny_call (PySem.W.sm_get (s := { s1 with toks := s1.toks + 1 }) I1.kIn hP (PySem.W.handed_on rfl ?_))))
  have I1' : Inv X pins σ H { s1 with toks := s1.toks + 1 } := I1.tok _
  obtain ⟨_, _, hk⟩ := B.ff.ok f (B.ff.sta f _ hst)
  refine PySem.W.callWith_K (first := []) (h₀ := X.base) I1'.ok.mod.kin hk (thn (ha.run pos pins _ σ H (fun vs H2 => ∃ π2, Rps X.K cl H2 π2 ds vs ∧ Mv H π H2 π2 ∧ CR X.K cl H2 π2 μ1) I1' ⟨ρ, μ, π, ds, μ1, rs, cr, e1, fun vs H2 π2 r2 m2 c2 => ⟨π2, r2, m2, c2⟩⟩) fun us s2 ⟨vs, H2, I2, r, π2, r2, m2, c2⟩ => ⟨I2.kIn, ?_⟩) hst' hpl
  exact run_df (us := us) (vs := vs) B (B.ff.sta f _ hst) I2 r r2 c2 e (fun v H' π' rr mm cc => k v H' π' rr (m2.trans mm) cc)
theorem sni_r3 {a b : E} {tg y z u : Expr} {x : Str} {c : Int} {pos p2 : Pos} (hs : X.env.scope = sc) (B : Bd X nm P Γ cl fa gl df j) (h : glB sc x "range" = true) (hx : plainX y = true) (hz : plainX z = true) (hu : plainX u = true) (ha : Snd X cl H0 y (ev P Γ a)) (hb : Snd X cl H0 z (ev P Γ b)) (hc : PE X u (tC (.int c))) :
    PI X tg (.Call (.Name x p2) [y, z, u] [] pos) (LI X.K cl H0 (evi P Γ (.r3 a b c))) := by
  obtain ⟨h1, h2, h3⟩ := glB_of h
  subst h1
  have hg : Gl X "range" := by show X.env.scope.names.lookup _ = _; rw [hs]; exact h2
  refine PI.of (pi_range3 hg (B.gf.blt _ (by decide +kernel)) (pa_cons ha.pe (pa_cons hb.pe (pa_cons hc pa_nil (star_cons hu)) (star_cons hz)) (star_cons hx)) (star_cons hx) (by rw [star_cons hz, star_cons hu]; rfl)) fun σ H R ⟨ρ, μ, π, items, μ', rs, cr, e, k⟩ => ?_
  simp only [evi] at e
  obtain ⟨d1, μ1, e1, e⟩ := Out.bind_eq_ok e
  obtain ⟨d2, μ2, e2, e⟩ := Out.bind_eq_ok e
  refine ⟨ρ, μ, π, d1, μ1, rs, cr, e1, fun v1 H1 π1 r1 m1 c1 => ⟨ρ, μ1, π1, d2, μ2, rs.mv cr.ok m1, c1, e2, fun v2 H2 π2 r2 m2 c2 => ?_⟩⟩
  cases r1 with
  | int i =>
    cases r2 with
    | int n =>
      simp only at e
      split at e
      · rename_i q
        cases e
        obtain ⟨q1, q2, rfl⟩ := q
        obtain ⟨a1, a2⟩ := inR_of q1
        obtain ⟨b1, b2⟩ := inR_of q2
        refine ⟨i, n, -1, (i - n).toNat, rfl, RgC.neg a1 a2 b1 b2, k _ H2 π2 (fun H' π' _ _ _ => ⟨fun r d hr => ?_, by rw [rng_len]; exact Nat.le_refl _⟩) (m1.trans m2) c2⟩
        obtain ⟨hi, rfl⟩ := rng_get hr
        exact ⟨hi, fun x H'' ⟨e1, e2⟩ => by
          subst e1 e2
          exact ⟨.int _, .inl rfl⟩⟩
      · cases e
    | _ => cases e
  | _ => cases r2 <;> cases e
theorem eval_callF {f : Expr} {args : List Expr} {pos : Pos} {env : Env} (h : plainF f = true) : eval (.Call f args [] pos) env = (do callWith pos (← eval f env) [] (backTo pos (starEach args env)) (backToKw pos (keywordEach [] env))) := by
  cases f <;> first | rfl | cases h
theorem snd_appE {o : E} {as : Es} {x : Expr} {y : Expr} {ys : List Expr} {pos : Pos} (B : Bd X nm P Γ cl fa gl df j) (hp : plainF x = true) (hx : (y :: ys).all plainX = true) (ho : Snd X cl H0 x (ev P Γ o))
    (ha : PA X (y :: ys) (LA X.K cl H0 (evs P Γ as))) : Snd X cl H0 (.Call x (y :: ys) [] pos) (ev P Γ (.appE o as)) := by
  rw [List.all_cons, Bool.and_eq_true] at hx
  refine .of ⟨fun pins s σ H Q I ⟨ρ, μ, π, d, μ', rs, cr, e, k⟩ => ?_⟩ rfl
  simp only [ev] at e
  obtain ⟨d1, μ1, e1, e⟩ := Out.bind_eq_ok e
  rw [eval_callF hp]
  refine wpAny_bind (thn (ho.pe.run pins s σ H (fun v1 H1 => ∃ π1, Rp X.K cl H1 π1 d1 v1 ∧ Mv H π H1 π1 ∧ CR X.K cl H1 π1 μ1) I ⟨ρ, μ, π, d1, μ1, rs, cr, e1, fun v1 H1 π1 r1 m1 c1 => ⟨π1, r1, m1, c1⟩⟩) fun u s2 ⟨v1, H1, I1, ru, π1, r1, m1, c1⟩ => ?_)
  cases r1 with
  | @obj c C ad dx ns fs xs hc hH hl hr =>
    cases ru
    simp only at e
    obtain ⟨ds, μ2, e2, e⟩ := Out.bind_eq_ok e
    refine StX.callO_with (thn (ha.run pos pins s2 σ H1 (fun vs H2 => ∃ π2, Rps X.K cl H2 π2 ds vs ∧ Mv H1 π1 H2 π2 ∧ CR X.K cl H2 π2 μ2) I1 ⟨ρ, μ1, π1, ds, μ2, rs.mv cr.ok m1, c1, e2, fun vs H2 π2 r2 m2 c2 => ⟨π2, r2, m2, c2⟩⟩) fun us s3 ⟨vs, H2, I2, r, π2, r2, m2, c2⟩ => ?_) (star_cons hx.1) (star_all hx.2)
    have hH2 := m2.keep _ _ hH (c1.ok.notIns hH)
    obtain ⟨od, J⟩ := inst_of I2 hH2
    unfold callM at e
    split at e
    rotate_left
    · cases e
    rename_i f hf
    have w := code_df (us := .ref ad :: us) (vs := .ref ad :: vs) B (B.ff.meth c 52 f hf) I2 (.cons rfl r) (.cons (.obj hc hH2 hl (hr.mv c1.ok m2)) r2) c2 e (fun v H' π' rr m c => k v H' π' rr ((m1.trans m2).trans m) c)
    have M := B.gf.mth c 52 f C ns hf hc
    have hs' := M.at_
    rw [B.gf.spn.2.2] at hs'
    exact ⟨⟨C, _, _, J, rfl⟩, wpAny_call (PySem.W.kco_code I2.kIn J rfl hs' M.fn (B.gf.app c f C ns hf hc) w)⟩
  | _ => simp only at e; cases e
theorem RelS.unD {K : PySem.W.Frag} {H : Hp} {π : List Addr} {ρ : Rho} {σ : L2.St} {p : Addr} {vs : List V} {o : HO} (r : RelS K cl H0 ρ σ H π) (h : H p = some (.lst vs)) (hn : ∀ i l, Sl.get ρ i = .own l → σ[i]? ≠ some (some (.ref p))) : RelS K cl H0 ρ σ (upd H p o) π := by
  refine ⟨r.len, fun i d e => ?_, fun i l e => ?_, r.sep⟩
  · obtain ⟨v, h1, h2⟩ := r.val i d e
    exact ⟨v, h1, h2.st (Ste.un h) fun _ _ q => q⟩
  · obtain ⟨q, ws, h1, h2, h3, h4⟩ := r.own i l e
    exact ⟨q, ws, h1, by rw [upd_ne (fun z => hn i l e (by rw [← z]; exact h1))]; exact h2, h3, h4.st (Ste.un h) fun _ _ q => q⟩
theorem own_put {ρ : Rho} {i j : Nat} {s : Sl} {l : List D} (hs : ∀ l, s ≠ .own l) (h : Sl.get (Sl.put ρ j s) i = .own l) : Sl.get ρ i = .own l ∧ i ≠ j := by
  have hne : i ≠ j := fun e => by
    subst e
    have hl : i < ρ.length := by
      have := get_lt (ρ := Sl.put ρ i s) (i := i) (by rw [h]; simp)
      rwa [put_length] at this
    rw [get_put_same _ _ _ hl] at h
    exact hs l h
  rw [get_put_ne _ _ _ _ hne] at h
  exact ⟨h, hne⟩
theorem own_wipe {ρ : Rho} {i : Nat} {l : List D} : ∀ {vs : List Nat}, Sl.get (Sl.wipe ρ vs) i = .own l → Sl.get ρ i = .own l ∧ i ∉ vs
  | [], h => ⟨h, by simp⟩
  | v :: vs, h => by
    obtain ⟨h1, h2⟩ := own_put (by intro l; simp) (show Sl.get (Sl.put (Sl.wipe ρ vs) v .und) i = .own l from h)
    obtain ⟨h3, h4⟩ := own_wipe h1
    exact ⟨h3, by simp [h2, h4]⟩
theorem own_fold {i : Nat} {l : List D} : ∀ {is : List Nat} {ds : List D} {ρ : Rho}, Sl.get ((is.zip ds).foldl (fun r p => Sl.put r p.1 (.val p.2)) ρ) i = .own l → Sl.get ρ i = .own l
  | [], _, _, h => by simpa using h
  | _ :: _, [], _, h => by simpa using h
  | j :: is, d :: ds, ρ, h => by
    rw [List.zip_cons_cons, List.foldl_cons] at h
    exact (own_put (by intro l; simp) (own_fold (is := is) (ds := ds) h)).1
theorem own_tgo {t : Tg} {d : D} {ρ ρ1 : Rho} {i : Nat} {l : List D} (ht : tgo t d ρ = some ρ1) (h : Sl.get ρ1 i = .own l) : Sl.get ρ i = .own l := by
  cases t with
  | nm j => cases ht; exact (own_put (by intro l; simp) h).1
  | tp is =>
    unfold tgo at ht
    cases d with
    | tup ds =>
      simp only at ht
      split at ht
      · cases ht; exact own_fold h
      · cases ht
    | lst ds =>
      simp only at ht
      split at ht
      · cases ht; exact own_fold h
      · cases ht
    | _ => cases ht
theorem wipe_get {i : Nat} : ∀ {vs : List Nat} {σ : L2.St}, i ∉ vs → (L2.wipe σ vs)[i]? = σ[i]?
  | [], _, _ => rfl
  | v :: vs, σ, h => by
    simp only [List.mem_cons, not_or] at h
    show ((L2.wipe σ vs).set v none)[i]? = _
    rw [List.getElem?_set_ne (Ne.symm h.1), wipe_get h.2]
def lc2F (P : Pr) (Γ : Gam) (own : List Nat) (t : Tg) (own2 : List Nat) (t2 : Tg) (it2 : Vw.It) (e : E) (ρ : Rho) : D → Mu → Out (Option D) := fun d μ => match tgo t d (Sl.wipe ρ own) with
  | none => .bad
  | some ρ1 => (evi P Γ it2 ρ1 μ).bind fun items2 μ1 => (lcgo (lcF P Γ own2 t2 .none e ρ1) items2 μ1).bind fun l μ2 => .ok (some (.lst l)) μ2
def lcIt (d : D) : List D := match d with
  | .lst l => l
  | _ => []
theorem ev_lc2 {own own2 : List Nat} {t t2 : Tg} {it it2 : Vw.It} {e : E} {ρ : Rho} {μ : Mu} : ev P Γ (.lc2 own t it own2 t2 it2 e) ρ μ = (evi P Γ it ρ μ).bind fun items μ1 => (lcgo (lc2F P Γ own t own2 t2 it2 e ρ) items μ1).bind fun ls μ2 => lenOk (ls.flatMap lcIt) μ2 .lst := by
  simp only [ev]; rfl
theorem lc2_le {own own2 : List Nat} {t t2 : Tg} {it it2 : Vw.It} {e : E} (ht : ∀ i ∈ tgIs t, i ∈ own) (ht2 : ∀ i ∈ tgIs t2, i ∈ own2) {K : PySem.W.Frag} (σ : L2.St) (H : Hp) (Q : VK) (h : RawL K cl H0 (ev P Γ (.lc2 own t it own2 t2 it2 e)) σ H Q) :
    tLc2 (LI K cl H0 (evi P Γ it)) (LG K cl H0 t) tYes (LI K cl H0 (evi P Γ it2)) (LG K cl H0 t2) tYes (LE K cl H0 (ev P Γ e)) own own2 σ H Q := by
  obtain ⟨ρ, μ, π, l, μ', rs, cr, e0, k⟩ := h
  rw [ev_lc2] at e0
  obtain ⟨items, μ1, e1, e0⟩ := Out.bind_eq_ok e0
  obtain ⟨ls, μ2, e2, e0⟩ := Out.bind_eq_ok e0
  obtain ⟨hz, ez, rfl⟩ := lenOk_ok e0
  cases ez
  refine ⟨ρ, μ, π, items, μ1, rs, cr, e1, fun J H1 π1 y m1 c1 D hD => ?_⟩
  refine ⟨fun i m H' => m = items.length - i ∧ i ≤ items.length ∧ ∃ π' μi acc vs rest, H' D = some (.lst vs) ∧ Rps K cl H' π' acc vs ∧ CR K cl H' π' μi ∧ Mv H1 π1 H' π' ∧ lcgo (lc2F P Γ own t own2 t2 it2 e ρ) (items.drop i) μi = .ok rest μ' ∧ acc ++ rest.flatMap lcIt = ls.flatMap lcIt,
    ⟨items.length, rfl, Nat.zero_le _, π1, μ1, [], [], ls, upd_same, .nil, c1.new hD, Mv.new c1.ok hD, e2, rfl⟩, ?_⟩
  rintro i m H' ⟨rfl, hi, π', μi, acc, vs, rest, hd, ra, ci, mi, el, er⟩
  have Y := y H' π' (mi.ste c1.ok) (fun k a q => mi.at q) ci.ok
  have rs' : RelS K cl H0 ρ σ H' π' := (rs.mv cr.ok m1).mv c1.ok mi
  by_cases hlt : i < items.length
  · right
    obtain ⟨g1, g2⟩ := Y.1 i items[i] (by simp [hlt])
    refine ⟨g1, fun H' => i + 1 ≤ items.length ∧ ∃ π' μi acc vs rest, H' D = some (.lst vs) ∧ Rps K cl H' π' acc vs ∧ CR K cl H' π' μi ∧ Mv H1 π1 H' π' ∧ lcgo (lc2F P Γ own t own2 t2 it2 e ρ) (items.drop (i + 1)) μi = .ok rest μ' ∧ acc ++ rest.flatMap lcIt = ls.flatMap lcIt,
      fun H' hw => ⟨items.length - (i + 1), by omega, rfl, hw⟩, fun x H2 hy => ?_⟩
    obtain ⟨rx, nw⟩ := g2 x H2 hy
    have m2 : Mv H' π' H2 π' := nw.mv ci.ok
    have c2 : CR K cl H2 π' μi := nw.cr ci
    have hd2 : H2 D = some (.lst vs) := m2.keep _ _ hd (ci.ok.notLst hd)
    have ra2 := ra.mv ci.ok m2
    have mm : Mv H1 π1 H2 π' := mi.trans m2
    rw [List.drop_eq_getElem_cons hlt] at el
    obtain ⟨o, μ3, r1, f1, f2, f3⟩ := lcgo_cons el
    unfold lc2F at f1
    cases hq : tgo t items[i] (Sl.wipe ρ own) with
    | none => rw [hq] at f1; cases f1
    | some ρ1 =>
    rw [hq] at f1
    simp only at f1
    obtain ⟨items2, μ4, fi, f1⟩ := Out.bind_eq_ok f1
    obtain ⟨l2, μ5, fl, f1⟩ := Out.bind_eq_ok f1
    cases f1
    have er2 : acc ++ (l2 ++ r1.flatMap lcIt) = ls.flatMap lcIt := by
      rw [← er, f3]
      rfl
    refine ⟨Sl.wipe ρ own, π', items[i], ρ1, (rs'.mv ci.ok m2).wipe own, rx, hq, fun σ2 rs2 hw => ⟨by rw [hw own ht, wipe_sub fun i hi => hi], ?_⟩⟩
    have hN : ∀ i l, Sl.get ρ1 i = .own l → σ2[i]? ≠ some (some (.ref D)) := fun i l e q => by
      obtain ⟨o1, o2⟩ := own_wipe (own_tgo hq e)
      have w1 := hw own ht
      rw [wipe_sub fun i hi => hi] at w1
      have w2 := wipe_get (σ := σ2) o2
      rw [w1, wipe_get o2] at w2
      obtain ⟨p, ws, s1, s2, _⟩ := rs.own i l o1
      rw [← w2, s1] at q
      cases q
      rw [m1.keep _ _ s2 (cr.ok.notLst s2)] at hD
      cases hD
    unfold tYes
    refine (if_pos (rfl : true = true)).mpr ?_
    refine ⟨ρ1, μi, π', items2, μ4, rs2, c2, fi, fun J2 H4 π4 y4 m4 c4 => ?_⟩
    have hd4 : H4 D = some (.lst vs) := m4.keep _ _ hd2 (c2.ok.notLst hd2)
    refine ⟨fun j m H' => m = items2.length - j ∧ j ≤ items2.length ∧ ∃ π'' μj acc2 ws rest2, H' D = some (.lst ws) ∧ Rps K cl H' π'' (acc ++ acc2) ws ∧ CR K cl H' π'' μj ∧ Ste H4 H' ∧ (∀ (k : Nat) a, π4[k]? = some a → π''[k]? = some a) ∧ Mv H1 π1 H' π'' ∧ RelS K cl H0 ρ1 σ2 H' π'' ∧ lcgo (lcF P Γ own2 t2 .none e ρ1) (items2.drop j) μj = .ok rest2 μ3 ∧ acc2 ++ rest2 = l2,
      ⟨items2.length, rfl, Nat.zero_le _, π4, μ4, [], vs, l2, hd4, by rw [List.append_nil]; exact ra2.mv c2.ok m4, c4, fun _ _ q _ => q, fun _ _ q => q, mm.trans m4, rs2.mv c2.ok m4, fl, rfl⟩, ?_⟩
    rintro j m H5 ⟨rfl, hj, π5, μj, acc2, ws, rest2, hd5, ra5, c5, st5, pi5, m5, rs5, el5, er5⟩
    have Y5 := y4 H5 π5 st5 pi5 c5.ok
    by_cases hlt2 : j < items2.length
    · right
      obtain ⟨h1, h2⟩ := Y5.1 j items2[j] (by simp [hlt2])
      refine ⟨h1, fun H' => j + 1 ≤ items2.length ∧ ∃ π'' μj acc2 ws rest2, H' D = some (.lst ws) ∧ Rps K cl H' π'' (acc ++ acc2) ws ∧ CR K cl H' π'' μj ∧ Ste H4 H' ∧ (∀ (k : Nat) a, π4[k]? = some a → π''[k]? = some a) ∧ Mv H1 π1 H' π'' ∧ RelS K cl H0 ρ1 σ2 H' π'' ∧ lcgo (lcF P Γ own2 t2 .none e ρ1) (items2.drop (j + 1)) μj = .ok rest2 μ3 ∧ acc2 ++ rest2 = l2,
        fun H' hw => ⟨items2.length - (j + 1), by omega, rfl, hw⟩, fun x2 H6 hy2 => ?_⟩
      obtain ⟨rx2, nw2⟩ := h2 x2 H6 hy2
      have m6 : Mv H5 π5 H6 π5 := nw2.mv c5.ok
      have c6 : CR K cl H6 π5 μj := nw2.cr c5
      have hd6 : H6 D = some (.lst ws) := m6.keep _ _ hd5 (c5.ok.notLst hd5)
      have ra6 := ra5.mv c5.ok m6
      rw [List.drop_eq_getElem_cons hlt2] at el5
      obtain ⟨o2, μ6, r6, z1, z2, z3⟩ := lcgo_cons el5
      unfold lcF at z1
      cases hq2 : tgo t2 items2[j] (Sl.wipe ρ1 own2) with
      | none => rw [hq2] at z1; cases z1
      | some ρ2 =>
      rw [hq2] at z1
      have z1 : ((ev P Γ e ρ2 μj).bind fun x μ2 => .ok (some x) μ2) = (.ok o2 μ6 : Out (Option Vw.D)) := z1
      obtain ⟨x', μ7, ee, z1⟩ := Out.bind_eq_ok z1
      cases z1
      refine ⟨Sl.wipe ρ1 own2, π5, items2[j], ρ2, (rs5.mv c5.ok m6).wipe own2, rx2, hq2, fun σ3 rs3 hw3 => ⟨by rw [hw3 own2 ht2, wipe_sub fun i hi => hi], ?_⟩⟩
      refine (if_pos (rfl : true = true)).mpr ?_
      refine ⟨ρ2, μj, π5, x', _, rs3, c6, ee, fun v H7 π7 rv m7 c7 => ?_⟩
      have hd7 : H7 D = some (.lst ws) := m7.keep _ _ hd6 (c6.ok.notLst hd6)
      have mA := (m5.trans m6).trans m7
      refine ⟨ws, hd7, ?_, hlt2, π7, _, acc2 ++ [x'], ws ++ [v], r6, upd_same, ?_, c7.un hd7, ?_, fun k a q => (m6.trans m7).at (pi5 k a q), mA.un hD hd7, ?_, z2, ?_⟩
      · have q1 := ra6.length
        have q2 : (ls.flatMap lcIt).length = acc.length + (l2.length + (r1.flatMap lcIt).length) := by rw [← er2, List.length_append, List.length_append]
        have q3 : l2.length = acc2.length + (r6.length + 1) := by rw [← er5, z3, List.length_append]; rfl
        have := cap_line hz
        rw [List.length_append] at q1
        omega
      · rw [← List.append_assoc]
        exact (Rps.append (ra6.mv c6.ok m7) (.cons rv .nil)).st (Ste.un hd7) fun _ _ q => q
      · exact fun b o q1 q2 => Ste.un hd7 b o (m7.ste c6.ok b o (m6.ste c5.ok b o (st5 b o q1 q2) q2) q2) q2
      · exact ((rs5.mv c5.ok m6).mv c6.ok m7).unD hd7 hN
      · rw [← er5, z3, List.append_assoc]; rfl
    · left
      have ej : j = items2.length := by omega
      subst ej
      rw [List.drop_length] at el5
      cases el5
      rw [List.append_nil] at er5
      subst er5
      exact ⟨Y5.2, hlt, π5, μ3, acc ++ acc2, ws, r1, hd5, ra5, c5, m5, f2, by rw [List.append_assoc]; exact er2⟩
  · left
    have ei : i = items.length := by omega
    subst ei
    rw [List.drop_length] at el
    cases el
    rw [List.flatMap_nil, List.append_nil] at er
    subst er
    exact ⟨Y.2, k D vs H' π' hd (m1.none hD) ra (m1.trans mi) ci⟩
theorem raw_lc2 {own own2 : List Nat} {t t2 : Tg} {it it2 : Vw.It} {e : E} {elt tg iter tg2 iter2 : Expr} {scope : Scope} {pos : Pos} (hN : X.N = N) (hs : X.env.scope = sc) (hd : X.N.Nodup) (B : Bd X nm P Γ cl fa gl df j)
    (hb : ownOk N sc scope own = true) (ht : ((tgIs t).all fun i => own.contains i) = true) (ho : (own2.all fun i => own.contains i) = true) (ht2 : ((tgIs t2).all fun i => own2.contains i) = true) (hi : PI X tg iter (LI X.K cl H0 (evi P Γ it)))
    (htg : chkT N (blkS scope sc) (fun x => scope.names.lookup x == some .cell) t tg = true) (htg2 : chkT N (blkS scope sc) (fun x => scope.names.lookup x == some .cell) t2 tg2 = true) (hfs : ∀ env x, foldedSetIterable iter env x = pure x) (hfs2 : ∀ env x, foldedSetIterable iter2 env x = pure x)
    (hi2 : ∀ (s : Shared) (H : Hp) (C : Addr) (c1 : List (Str × Addr)) (fp : List Addr), PI (X.blk s H scope (compEnvC scope c1 C X.env) fp) tg2 iter2 (LI X.K cl H0 (evi P Γ it2)))
    (he : ∀ (s : Shared) (H : Hp) (C : Addr) (c1 : List (Str × Addr)) (fp : List Addr), Snd (X.blk s H scope (compEnvC scope c1 C X.env) fp) cl H0 elt (ev P Γ e)) :
    PE X (.ListComp elt [⟨tg, iter, [], 0⟩, ⟨tg2, iter2, [], 0⟩] scope pos) (RawL X.K cl H0 (ev P Γ (.lc2 own t it own2 t2 it2 e))) := by
  subst hN hs
  have hb' : BlkOk X.N X.env.scope scope (own.map fun i => (X.N.getD i Str.empty, i)) := blkOk_by hb
  refine PE.of (pe_lc2 (vs1 := own2) (g := LG X.K cl H0 t) (g1 := LG X.K cl H0 t2) (te := LE X.K cl H0 (ev P Γ e)) B.calm hd hi hb' (fun i h => by rw [map_own]; simpa using List.all_eq_true.mp ho i h)
    (fun s H C c1 fp => pg_of (H0 := H0) (cl := cl) (X := X.blk s H scope (compEnvC scope c1 C X.env) fp) rfl rfl rfl B.calm hd htg) (fun s H C c1 fp => pts_nil) hi2
    (fun s H C c1 fp => pg_of (H0 := H0) (cl := cl) (X := X.blk s H scope (compEnvC scope c1 C X.env) fp) rfl rfl rfl B.calm hd htg2) (fun s H C c1 fp => pts_nil) (fun s H C c1 fp => (he s H C c1 fp).pe) (hfs _) hfs2) fun σ H Q h => ?_
  rw [map_own]
  refine lc2_le (fun i hi => ?_) (fun i hi => ?_) σ H Q h
  · simpa using List.all_eq_true.mp ht i hi
  · simpa using List.all_eq_true.mp ht2 i hi
theorem lc2_isl {own own2 : List Nat} {t t2 : Tg} {it it2 : Vw.It} {e : E} (ρ : Rho) (μ : Mu) (d : D) (μ' : Mu) (h : ev P Γ (.lc2 own t it own2 t2 it2 e) ρ μ = .ok d μ') : ∃ l, d = .lst l := by
  rw [ev_lc2] at h
  obtain ⟨items, μ1, e1, h⟩ := Out.bind_eq_ok h
  obtain ⟨l', μ2, e2, h⟩ := Out.bind_eq_ok h
  obtain ⟨hz, rfl, rfl⟩ := lenOk_ok h
  exact ⟨_, rfl⟩
theorem pe_negK {k : Int} {k2 : Nat} {p1 p2 : Pos} : PE X (.UnaryOp .USub (.Constant (.int k) k2 p1) p2) (tC (.int (-k))) := PE.of (pe_un un_neg pe_int) fun σ H Q q => ⟨k, rfl, q⟩
end
end Vw
set_option Elab.async false
set_option linter.all false
set_option maxRecDepth 100000
set_option maxHeartbeats 4000000
namespace Vw
open PySem PySem.Spec L2
section
variable {X : Cx} {nm : Nm} {P : Pr} {Γ : Gam} {cl : Cls0} {fa : Fa} {gl df : Nat → Bool} {j : Nat} {H0 : Hp} {N : List Str} {sc : Scope}
theorem star_one {e : Expr} {env : Env} (h : plainX e = true) : starEach [e] env = [(false, eval e env)] := star_cons (es := []) h
theorem snd_zfill {o a : E} {x y : Expr} {ap pos : Pos} (hp : plainA x = true) (hl : (ap.endLine == pos.line) = true) (hy : plainX y = true) (ho : Snd X cl H0 x (ev P Γ o)) (ha : Snd X cl H0 y (ev P Γ a)) : Snd X cl H0 (.Call (.Attribute x "zfill" ap) [y] [] pos) (ev P Γ (.zfill o a)) :=
  .of (PE.of (pe_m1 F.slot_str_zfill F.type_str_zfill mt_zfill ho.pe ha.pe (star_one hy) (attr_plain hp) hl) fun σ H Q ⟨ρ, μ, π, d, μ', rs, cr, e, k⟩ => by
    simp only [ev] at e
    obtain ⟨d1, μ1, e1, e⟩ := Out.bind_eq_ok e
    refine ⟨ρ, μ, π, d1, μ1, rs, cr, e1, fun v1 H1 π1 r1 m1 c1 => ?_⟩
    cases r1 with
    | str s =>
      simp only at e
      obtain ⟨d2, μ2, e2, e⟩ := Out.bind_eq_ok e
      refine ⟨⟨s, rfl⟩, ρ, μ1, π1, d2, μ2, rs.mv cr.ok m1, c1, e2, fun v2 H2 π2 r2 m2 c2 => ?_⟩
      cases r2 with
      | int i =>
        simp only [zfop] at e
        split at e
        · rename_i hc
          cases e
          exact ⟨s, i, rfl, rfl, hc, k _ H2 π2 (.str _) (m1.trans m2) c2⟩
        · cases e
      | _ => simp only [zfop] at e; cases e
    | _ => simp only at e; cases e) rfl
theorem strs_rps {K : PySem.W.Frag} {H : Hp} {π : List Addr} : ∀ {l : List D} {ys : List Str} {vs : List V}, strsOf l = some ys → Rps K cl H π l vs → vs = ys.map V.str
  | [], ns, vs, e, r => by
    cases r
    simp only [strsOf] at e
    cases e; rfl
  | d :: l, ns, vs, e, r => by
    cases r with
    | cons a b =>
      cases a with
      | str i =>
        simp only [strsOf] at e
        obtain ⟨m, e1, rfl⟩ := Option.map_eq_some_iff.mp e
        rw [strs_rps e1 b]; rfl
      | _ => simp only [strsOf] at e; cases e
theorem snd_join {o a : E} {x y : Expr} {ap pos : Pos} (hp : plainA x = true) (hl : (ap.endLine == pos.line) = true) (hy : plainX y = true) (ho : Snd X cl H0 x (ev P Γ o)) (ha : Snd X cl H0 y (ev P Γ a)) : Snd X cl H0 (.Call (.Attribute x "join" ap) [y] [] pos) (ev P Γ (.join o a)) :=
  .of (PE.of (pe_m1 F.slot_str_join F.type_str_join mt_join ho.pe ha.pe (star_one hy) (attr_plain hp) hl) fun σ H Q ⟨ρ, μ, π, d, μ', rs, cr, e, k⟩ => by
    simp only [ev] at e
    obtain ⟨d1, μ1, e1, e⟩ := Out.bind_eq_ok e
    refine ⟨ρ, μ, π, d1, μ1, rs, cr, e1, fun v1 H1 π1 r1 m1 c1 => ?_⟩
    cases r1 with
    | str s =>
      simp only at e
      obtain ⟨d2, μ2, e2, e⟩ := Out.bind_eq_ok e
      refine ⟨⟨s, rfl⟩, ρ, μ1, π1, d2, μ2, rs.mv cr.ok m1, c1, e2, fun v2 H2 π2 r2 m2 c2 => ?_⟩
      cases r2 with
      | @lst p l vs hs hr =>
        simp only [jnop] at e
        cases q : strsOf l with
        | none => rw [q] at e; cases e
        | some ys =>
          rw [q] at e
          simp only at e
          split at e
          · rename_i hc
            cases e
            have hv := strs_rps q hr
            subst hv
            exact ⟨s, p, ys, rfl, rfl, .inl hs.sq, hc, k _ H2 π2 (.str _) (m1.trans m2) c2⟩
          · cases e
      | _ => simp only [jnop] at e; cases e
    | _ => simp only at e; cases e) rfl
inductive Fps (X : Cx) (cl : Cls0) (H0 : Hp) (P : Pr) (Γ : Gam) : Es → List Expr → Prop
  | nil : Fps X cl H0 P Γ .nil []
  | txt {y : Str} {k : Nat} {p : Pos} {es : Es} {xs : List Expr} : Fps X cl H0 P Γ es xs → Fps X cl H0 P Γ (.cons (.str y) es) (.Constant (.str y) k p :: xs)
  | val {e : E} {es : Es} {x : Expr} {p : Pos} {xs : List Expr} : Snd X cl H0 x (ev P Γ e) → Fps X cl H0 P Γ es xs → Fps X cl H0 P Γ (.cons e es) (.FormattedValue x (-1) none p :: xs)
theorem fps_run : ∀ {es : Es} {xs : List Expr}, Fps X cl H0 P Γ es xs → ∃ ts, PJ X xs ts ∧ ∀ (acc out : Str) (σ : L2.St) (H : Hp) (Q : Str → Hp → Prop) (ρ : Rho) (μ μ' : Mu) (π : List Addr) (ds : List D), RelS X.K cl H0 ρ σ H π → CR X.K cl H π μ → evs P Γ es ρ μ = .ok ds μ' → fsJ ds acc = some out →
    (∀ H' π', Mv H π H' π' → CR X.K cl H' π' μ' → Q out H') → tJs ts acc σ H Q
  | _, _, .nil => ⟨[], .nil, fun acc out σ H Q ρ μ μ' π ds rs cr e f k => by
    simp only [evs] at e
    cases e
    simp only [fsJ] at f
    cases f
    exact k H π (Mv.refl cr.ok) cr⟩
  | _, _, .txt (y := y) h => by
    obtain ⟨ts, pj, ih⟩ := fps_run h
    refine ⟨_, .cons pe_str pj, fun acc out σ H Q ρ μ μ' π ds rs cr e f k => ?_⟩
    simp only [evs, ev, Out.bind_ok] at e
    obtain ⟨ds1, μ1, e1, e⟩ := Out.bind_eq_ok e
    cases e
    simp only [fsJ, ftxt] at f
    split at f
    · rename_i hz
      exact ⟨y, rfl, by rw [PySem.sizeLine_eq]; exact hz, ih _ _ σ H Q ρ μ _ π ds1 rs cr e1 f k⟩
    · cases f
  | _, _, .val (e := ee) hs h => by
    obtain ⟨ts, pj, ih⟩ := fps_run h
    refine ⟨_, .cons (pe_fmt hs.pe) pj, fun acc out σ H Q ρ μ μ' π ds rs cr e f k => ?_⟩
    simp only [evs] at e
    obtain ⟨d1, μ1, e1, e⟩ := Out.bind_eq_ok e
    obtain ⟨ds1, μ2, e2, e⟩ := Out.bind_eq_ok e
    cases e
    simp only [fsJ] at f
    refine ⟨ρ, μ, π, d1, μ1, rs, cr, e1, fun v1 H1 π1 r1 m1 c1 => ?_⟩
    have go : ∀ y : Str, ftxt d1 = some y → ∃ z : Str, V.str y = .str z ∧ (acc ++ z).length ≤ sizeLine ∧ tJs ts (acc ++ z) σ H1 Q := fun y hy => by
      rw [hy] at f
      simp only at f
      split at f
      · rename_i hz
        exact ⟨y, rfl, by rw [PySem.sizeLine_eq]; exact hz, ih _ _ σ H1 Q ρ μ1 _ π1 ds1 (rs.mv cr.ok m1) c1 e2 f fun H' π' m c => k H' π' (m1.trans m) c⟩
      · cases f
    cases r1 with
    | str y =>
      obtain ⟨z, ez, h1, h2⟩ := go y rfl
      cases ez
      refine .inl ⟨y, rfl, ?_, y, rfl, h1, h2⟩
      rw [PySem.Str.length_append] at h1
      omega
    | int i =>
      simp only [ftxt] at go f
      by_cases hc : i.natAbs.log2 < 1920
      · rw [if_pos hc] at go
        obtain ⟨z, ez, h1, h2⟩ := go _ rfl
        cases ez
        exact .inr ⟨i, rfl, hc, _, rfl, h1, h2⟩
      · rw [if_neg hc] at f
        cases f
    | _ => simp only [ftxt] at f; cases f
theorem snd_fs {es : Es} {x1 x2 : Expr} {xs : List Expr} {pos : Pos} (h : Fps X cl H0 P Γ es (x1 :: x2 :: xs)) : Snd X cl H0 (.JoinedStr (x1 :: x2 :: xs) pos) (ev P Γ (.fs es)) := by
  obtain ⟨ts, pj, ih⟩ := fps_run h
  refine .of (PE.of (pe_joined pj) fun σ H Q ⟨ρ, μ, π, d, μ', rs, cr, e, k⟩ => ?_) rfl
  simp only [ev] at e
  obtain ⟨ds, μ1, e1, e⟩ := Out.bind_eq_ok e
  split at e
  · rename_i t q
    cases e
    exact ih _ _ σ H _ ρ μ _ π ds rs cr e1 q fun H' π' m c => k _ H' π' (.str t) m c
  · cases e
end
end Vw
set_option Elab.async false
set_option linter.all false
set_option maxRecDepth 100000
set_option maxHeartbeats 4000000
namespace Vw
open PySem PySem.Spec L2
section
variable {nm : Nm} {P : Pr} {Γ : Gam} {cl : Cls0} {fa : Fa} {gl df : Nat → Bool} {j : Nat} {H0 : Hp}
theorem snd_olen {X : Cx} {N : List Str} {sc : Scope} {i : Nat} {x y : Str} {pos p2 p3 : Pos} (hN : X.N = N) (hs : X.env.scope = sc) (B : Bd X nm P Γ cl fa gl df j) (h : glB sc x "len" = true) (hy : nmB N sc i y = true) :
    Snd X cl H0 (.Call (.Name x p2) [.Name y p3] [] pos) (ev P Γ (.olen i)) := by
  obtain ⟨g1, g2, g3⟩ := glB_of h
  subst g1
  obtain ⟨h1, h2, h3, h4⟩ := nmB_of hy
  refine .of (PE.of (pe_callB (call_len_seq) (show Gl X "len" from by show X.env.scope.names.lookup _ = _; rw [hs]; exact g2) (B.gf.blt _ (by decide +kernel)) (by decide +kernel) (pa_cons (pe_var (i := i) (by rw [hN]; exact h1) (by rw [hs]; exact h2) h3 h4) pa_nil (star_cons rfl)) (by decide +kernel) g3 (star_cons rfl) rfl) fun σ H Q ⟨ρ, μ, π, d, μ', rs, cr, e, k⟩ => ?_) rfl
  simp only [ev] at e
  split at e
  · rename_i l q
    cases e
    obtain ⟨p, vs, s1, s2, s3, s4⟩ := rs.own i l q
    exact ⟨.ref p, s1, p, vs, rfl, .inl (SqL.of s2), by rw [← s4.length]; exact k _ H π (.int _) (Mv.refl cr.ok) cr⟩
  · cases e
def isBO : Expr → Bool
  | .BoolOp .. => true
  | _ => false
def Sn (X : Cx) (cl : Cls0) (H0 : Hp) (x : Expr) (r : Rho → Mu → Out D) : Prop := Snd X cl H0 x r ∧ (isBO x = true → SndW X cl H0 x r)
theorem Sn.of {X : Cx} {x : Expr} {r : Rho → Mu → Out D} (h : Snd X cl H0 x r) (hb : isBO x = false) : Sn X cl H0 x r := ⟨h, fun q => by rw [hb] at q; cases q⟩
theorem Sn.w {X : Cx} {x : Expr} {r : Rho → Mu → Out D} (h : SndW X cl H0 x r) : Sn X cl H0 x r := ⟨h.snd, fun _ => h⟩
theorem Bd.cls {X : Cx} (B : Bd X nm P Γ cl fa gl df j) {b : Blt} (h : hasB P b = true) : ∀ c, b = .isObj c → ∃ C ns, cl c = some (C, ns) := fun c e => by
  subst e
  have h : (P.init c).isSome = true := h
  cases q : P.init c with
  | none => rw [q] at h; cases h
  | some f => exact (B.ff.init c f q).1
theorem plain_fs {x : Expr} (h : plainM x = true) (env : Env) (v : Value) : foldedSetIterable x env v = pure v := by
  cases x <;> first | rfl | cases h
theorem chks_all {N : List Str} {sc : Scope} : ∀ {es : Es} {xs : List Expr}, chks nm P gl N sc es xs = true → xs.all plainX = true
  | .nil, [], _ => rfl
  | .nil, _ :: _, h => by cases h
  | .cons e es, [], h => by cases h
  | .cons e es, x :: xs, h => by
    have h : (plainX x && chk nm P gl N sc e x && chks nm P gl N sc es xs) = true := h
    simp only [Bool.and_eq_true] at h
    rw [List.all_cons, h.1.1, chks_all h.2]; rfl
theorem chki_fs {N : List Str} {sc : Scope} {it : Vw.It} {tg x : Expr} (h : chki nm P gl N sc it tg x = true) : ∀ env v, foldedSetIterable x env v = pure v := by
  unfold chki at h
  split at h
  · exact fun _ _ => rfl
  · exact fun _ _ => rfl
  · exact fun _ _ => rfl
  · exact fun _ _ => rfl
  · exact fun _ _ => rfl
  · exact fun _ _ => rfl
  · rw [Bool.and_eq_true] at h
    exact plain_fs h.1
  · cases h
variable (nm P Γ cl fa gl df j H0)
def OkE (n : Nat) : Prop := ∀ (e : E) {X : Cx} {N : List Str} {sc : Scope} {x : Expr}, sizeOf e < n → X.N = N → X.env.scope = sc → X.N.Nodup → Bd X nm P Γ cl fa gl df j → chk nm P gl N sc e x = true → Sn X cl H0 x (ev P Γ e)
def OkEs (n : Nat) : Prop := ∀ (es : Es) {X : Cx} {N : List Str} {sc : Scope} {xs : List Expr}, sizeOf es < n → X.N = N → X.env.scope = sc → X.N.Nodup → Bd X nm P Γ cl fa gl df j → chks nm P gl N sc es xs = true → Sns X cl H0 P Γ es xs
def OkQ (n : Nat) : Prop := ∀ (es : Es) {X : Cx} {N : List Str} {sc : Scope} {xs : List Expr}, sizeOf es < n → X.N = N → X.env.scope = sc → X.N.Nodup → Bd X nm P Γ cl fa gl df j → chkq nm P gl N sc es xs = true → PA X xs (LA X.K cl H0 (evs P Γ es))
def OkF (n : Nat) : Prop := ∀ (es : Es) {X : Cx} {N : List Str} {sc : Scope} {xs : List Expr}, sizeOf es < n → X.N = N → X.env.scope = sc → X.N.Nodup → Bd X nm P Γ cl fa gl df j → chkf nm P gl N sc es xs = true → Fps X cl H0 P Γ es xs
def OkO (n : Nat) : Prop := ∀ (o : Oe) {X : Cx} {N : List Str} {sc : Scope} {x : Option Expr}, sizeOf o < n → X.N = N → X.env.scope = sc → X.N.Nodup → Bd X nm P Γ cl fa gl df j → chko nm P gl N sc o x = true →
  match o, x with | .none, none => True | .some e, some y => Snd X cl H0 y (ev P Γ e) | _, _ => False
def OkC (n : Nat) : Prop := ∀ (o : Oe) {X : Cx} {N : List Str} {sc : Scope} {xs : List Expr}, sizeOf o < n → X.N = N → X.env.scope = sc → X.N.Nodup → Bd X nm P Γ cl fa gl df j → chkc nm P gl N sc o xs = true →
  match o, xs with | .none, [] => True | .some c, [x] => Snd X cl H0 x (ev P Γ c) | _, _ => False
def OkI (n : Nat) : Prop := ∀ (it : It) {X : Cx} {N : List Str} {sc : Scope} {tg x : Expr}, sizeOf it < n → X.N = N → X.env.scope = sc → X.N.Nodup → Bd X nm P Γ cl fa gl df j → chki nm P gl N sc it tg x = true →
  PI X tg x (LI X.K cl H0 (evi P Γ it)) ∧ ∀ env v, foldedSetIterable x env v = pure v
variable {nm P Γ cl fa gl df j H0}
theorem okE_step {n : Nat} (hE : OkE nm P Γ cl fa gl df j H0 n) (hEs : OkEs nm P Γ cl fa gl df j H0 n) (hQ : OkQ nm P Γ cl fa gl df j H0 n) (hO : OkO nm P Γ cl fa gl df j H0 n) (hC : OkC nm P Γ cl fa gl df j H0 n) (hI : OkI nm P Γ cl fa gl df j H0 n) (hF : OkF nm P Γ cl fa gl df j H0 n) : OkE nm P Γ cl fa gl df j H0 (n + 1) := by
  intro e X N sc x hz hN hs hd B h
  unfold chk at h
  split at h
  · exact .of (snd_var hN hs h) rfl
  · rename_i i k _ pos
    rw [decide_eq_true_eq] at h
    subst h
    exact .of (snd_c pe_int rfl fun _ _ => .int _) rfl
  · rename_i b k _ pos
    have h : b = k := by simpa using h
    subst h
    exact .of (snd_c pe_bl rfl fun _ _ => .bl _) rfl
  · exact .of (snd_c pe_non rfl fun _ _ => .non) rfl
  · rename_i s k _ pos
    rw [decide_eq_true_eq] at h
    subst h
    exact .of (snd_c pe_str rfl fun _ _ => .str _) rfl
  · exact .of (snd_con hs B h) rfl
  · rename_i op a b y op' z pos
    simp only [Bool.and_eq_true, decide_eq_true_eq] at h
    obtain ⟨⟨rfl, h1⟩, h2⟩ := h
    simp only [E.bin.sizeOf_spec] at hz
    exact .of (snd_bin B (hE a (by omega) hN hs hd B h1).1 (hE b (by omega) hN hs hd B h2).1) rfl
  · rename_i op a op' z pos
    simp only [Bool.and_eq_true, decide_eq_true_eq, Bool.not_eq_true', decide_eq_false_iff_not] at h
    obtain ⟨⟨rfl, h1⟩, h2⟩ := h
    simp only [E.un.sizeOf_spec] at hz
    exact .of (snd_un B h1 (hE a (by omega) hN hs hd B h2).1) rfl
  · rename_i op a b y op' z pos
    simp only [Bool.and_eq_true, decide_eq_true_eq] at h
    obtain ⟨⟨⟨rfl, hm⟩, h1⟩, h2⟩ := h
    simp only [E.cmp.sizeOf_spec] at hz
    exact .of (snd_cmp B hm (hE a (by omega) hN hs hd B h1).1 (hE b (by omega) hN hs hd B h2).1) rfl
  · rename_i op op2 a b c x1 o1 o2 x2 x3 pos
    simp only [Bool.and_eq_true, decide_eq_true_eq] at h
    obtain ⟨⟨⟨⟨⟨⟨rfl, rfl⟩, hm⟩, hm2⟩, h1⟩, h2⟩, h3⟩ := h
    simp only [E.chain.sizeOf_spec] at hz
    exact .of (snd_chain B hm hm2 (hE a (by omega) hN hs hd B h1).1 (hE b (by omega) hN hs hd B h2).1 (hE c (by omega) hN hs hd B h3).1) rfl
  · rename_i a y _ _ _
    simp only [E.isN.sizeOf_spec] at hz
    exact .of (snd_isN (hE a (by omega) hN hs hd B h).1) rfl
  · rename_i a y _ _ _
    simp only [E.notN.sizeOf_spec] at hz
    exact .of (snd_notN (hE a (by omega) hN hs hd B h).1) rfl
  · rename_i a b y z r pos
    rw [Bool.and_eq_true] at h
    simp only [E.and.sizeOf_spec] at hz
    exact .w (snd_and (hE a (by omega) hN hs hd B h.1).1 ((hE b (by omega) hN hs hd B h.2).2 rfl))
  · rename_i a b y z r pos
    rw [Bool.and_eq_true] at h
    simp only [E.or.sizeOf_spec] at hz
    exact .w (snd_or (hE a (by omega) hN hs hd B h.1).1 ((hE b (by omega) hN hs hd B h.2).2 rfl))
  · rename_i a _ y _
    simp only [E.one.sizeOf_spec] at hz
    exact .w (snd_one (hE a (by omega) hN hs hd B h).1)
  · rename_i a y _
    simp only [E.not.sizeOf_spec] at hz
    exact .of (snd_not (hE a (by omega) hN hs hd B h).1) rfl
  · rename_i c a b z x y pos
    simp only [Bool.and_eq_true] at h
    simp only [E.ife.sizeOf_spec] at hz
    exact .of (snd_ife (hE c (by omega) hN hs hd B h.1.1).1 (hE a (by omega) hN hs hd B h.1.2).1 (hE b (by omega) hN hs hd B h.2).1) rfl
  · rename_i es xs _ _
    simp only [E.tup.sizeOf_spec] at hz
    exact .of (snd_tup (hQ es (by omega) hN hs hd B h)) rfl
  · rename_i es xs _
    simp only [E.lst.sizeOf_spec] at hz
    exact .of (snd_lst (hQ es (by omega) hN hs hd B h)) rfl
  · rename_i a x _ _ _ _ _
    simp only [E.rev.sizeOf_spec] at hz
    exact .of (snd_rev (hE a (by omega) hN hs hd B h).1) rfl
  · rename_i f as x _ n ap y ys pos
    split at h
    · rename_i c m hst
      simp only [Bool.and_eq_true, decide_eq_true_eq] at h
      simp only [E.stat.sizeOf_spec] at hz
      obtain ⟨⟨⟨⟨h1, h2⟩, h3⟩, h4⟩, h5⟩ := h
      exact .of (snd_stat hs B hst h1 h2 h3 h4 (chks_all h5) (hEs as (by omega) hN hs hd B h5).pa) rfl
    · cases h
  · rename_i o m as x n ap y ys pos
    simp only [Bool.and_eq_true, decide_eq_true_eq] at h
    simp only [E.meth.sizeOf_spec] at hz
    obtain ⟨⟨⟨⟨⟨h1, h2⟩, h3⟩, h4⟩, h5⟩, h6⟩ := h
    exact .of (snd_meth B h1 h2 h3 h4 (chks_all h6) (hE o (by omega) hN hs hd B h5).1 (hEs as (by omega) hN hs hd B h6).pa) rfl
  · rename_i a b x y pos
    simp only [Bool.and_eq_true] at h
    simp only [E.ix.sizeOf_spec] at hz
    exact .of (snd_ix h.1.1 (hE a (by omega) hN hs hd B h.1.2).1 (hE b (by omega) hN hs hd B h.2).1) rfl
  · rename_i a lo hi x l u _ _
    simp only [Bool.and_eq_true] at h
    simp only [E.sl.sizeOf_spec] at hz
    exact .of (snd_sl (hE a (by omega) hN hs hd B h.1.1).1 (hO lo (by omega) hN hs hd B h.1.2) (hO hi (by omega) hN hs hd B h.2)) rfl
  · rename_i f as x _ xs _
    simp only [Bool.and_eq_true] at h
    simp only [E.call.sizeOf_spec] at hz
    cases xs with
    | nil =>
      cases as with
      | nil => exact .of (snd_call0 hs B h.1.1 h.1.2) rfl
      | cons => cases h.2
      | star => cases h.2
    | cons y ys => exact .of (snd_call hs B h.1.1 h.1.2 (chks_all h.2) (by simp) (hEs as (by omega) hN hs hd B h.2).pa) rfl
  · rename_i o f x n pos
    simp only [Bool.and_eq_true, decide_eq_true_eq] at h
    simp only [E.fld.sizeOf_spec] at hz
    exact .of (snd_fld B h.1.1 h.1.2 (hE o (by omega) hN hs hd B h.2).1) rfl
  · rename_i c as x _ y ys _
    simp only [Bool.and_eq_true] at h
    simp only [E.new.sizeOf_spec] at hz
    exact .of (snd_new hs B h.1 (chks_all h.2) (hEs as (by omega) hN hs hd B h.2).pa) rfl
  · rename_i i as x _ y ys _
    simp only [Bool.and_eq_true] at h
    simp only [E.app.sizeOf_spec] at hz
    exact .of (snd_app hN hs B h.1 (chks_all h.2) (hEs as (by omega) hN hs hd B h.2).pa) rfl
  · rename_i b as x _ xs _
    rw [Bool.and_eq_true] at h
    simp only [E.blt.sizeOf_spec] at hz
    obtain ⟨h1, h2⟩ := h
    split at h2
    · rename_i hb
      split at h2
      · rename_i y z
        simp only [Bool.and_eq_true] at h2
        have q := hEs as (by omega) hN hs hd B h2.1.1
        cases q with
        | cons hp hy hr =>
          cases hr
          exact .of (snd_is hs B hb h1 hp h2.1.2 (B.cls h2.2) hy) rfl
      · cases h2
    · rename_i hb
      simp only [Bool.and_eq_true] at h2
      cases xs with
      | nil => cases h2.1.1
      | cons y ys => exact .of (snd_blt hs B (by simpa using hb) h2.1.2 h1 (chks_all h2.2) (hEs as (by omega) hN hs hd B h2.2).pa) rfl
  · rename_i own t it c e elt tg iter ifs scope _
    simp only [Bool.and_eq_true] at h
    simp only [E.lc.sizeOf_spec] at hz
    obtain ⟨⟨⟨⟨⟨h1, h2⟩, h3⟩, h4⟩, h5⟩, h6⟩ := h
    obtain ⟨hi, hf⟩ := hI it (by omega) hN hs hd B h3
    exact .of (snd_raw (raw_lc hN hs hd B h1 h2 hi h4 hf (fun s H C c1 fp => pts_of (hC c (by omega) (X := X.blk s H scope (compEnvC scope c1 C X.env) fp) hN (by subst hs; rfl) hd (B.blk s H scope C c1 fp) h5))
      (fun s H C c1 fp => (hE e (by omega) (X := X.blk s H scope (compEnvC scope c1 C X.env) fp) hN (by subst hs; rfl) hd (B.blk s H scope C c1 fp) h6).1)) lc_isl rfl) rfl
  · rename_i o key x k _ _ _
    simp only [Bool.and_eq_true, decide_eq_true_eq] at h
    obtain ⟨rfl, h2⟩ := h
    simp only [E.dget.sizeOf_spec] at hz
    exact .of (snd_dget B (hE o (by omega) hN hs hd B h2).1) rfl
  · rename_i keys es ks xs _
    simp only [Bool.and_eq_true, decide_eq_true_eq] at h
    simp only [E.dict.sizeOf_spec] at hz
    exact .of (snd_dict h.1.1 (hEs es (by omega) hN hs hd B h.1.2) h.2) rfl
  · rename_i i b x _ y _
    simp only [Bool.and_eq_true] at h
    simp only [E.oix.sizeOf_spec] at hz
    exact .of (snd_oix hN hs h.1.1 h.1.2 (hE b (by omega) hN hs hd B h.2).1) rfl
  · rename_i i x _ y _ _
    rw [Bool.and_eq_true] at h
    exact .of (snd_olen hN hs B h.1 h.2) rfl
  · rename_i o as x y ys _
    simp only [Bool.and_eq_true] at h
    simp only [E.appE.sizeOf_spec] at hz
    exact .of (snd_appE B h.1.1 (chks_all h.2) (hE o (by omega) hN hs hd B h.1.2).1 (hEs as (by omega) hN hs hd B h.2).pa) rfl
  · rename_i own t it own2 t2 it2 e elt tg iter tg2 iter2 scope _
    simp only [Bool.and_eq_true] at h
    simp only [E.lc2.sizeOf_spec] at hz
    obtain ⟨⟨⟨⟨⟨⟨⟨⟨h1, h2⟩, h3⟩, h4⟩, h5⟩, h6⟩, h7⟩, h8⟩, h9⟩ := h
    obtain ⟨hi, hf⟩ := hI it (by omega) hN hs hd B h5
    exact .of (snd_raw (raw_lc2 hN hs hd B h1 h2 h3 h4 hi h6 h8 hf (chki_fs h7)
      (fun s H C c1 fp => (hI it2 (by omega) (X := X.blk s H scope (compEnvC scope c1 C X.env) fp) hN (by subst hs; rfl) hd (B.blk s H scope C c1 fp) h7).1)
      (fun s H C c1 fp => (hE e (by omega) (X := X.blk s H scope (compEnvC scope c1 C X.env) fp) hN (by subst hs; rfl) hd (B.blk s H scope C c1 fp) h9).1)) lc2_isl rfl) rfl
  · rename_i o a x n ap y pos
    simp only [Bool.and_eq_true, decide_eq_true_eq] at h
    simp only [E.zfill.sizeOf_spec] at hz
    obtain ⟨⟨⟨⟨⟨rfl, h2⟩, h3⟩, h4⟩, h5⟩, h6⟩ := h
    exact .of (snd_zfill h2 h3 h4 (hE o (by omega) hN hs hd B h5).1 (hE a (by omega) hN hs hd B h6).1) rfl
  · rename_i o a x n ap y pos
    simp only [Bool.and_eq_true, decide_eq_true_eq] at h
    simp only [E.join.sizeOf_spec] at hz
    obtain ⟨⟨⟨⟨⟨rfl, h2⟩, h3⟩, h4⟩, h5⟩, h6⟩ := h
    exact .of (snd_join h2 h3 h4 (hE o (by omega) hN hs hd B h5).1 (hE a (by omega) hN hs hd B h6).1) rfl
  · rename_i es x1 x2 xs pos
    simp only [E.fs.sizeOf_spec] at hz
    exact .of (snd_fs (hF es (by omega) hN hs hd B h)) rfl
  · cases h
theorem okF_step {n : Nat} (hE : OkE nm P Γ cl fa gl df j H0 n) (hF : OkF nm P Γ cl fa gl df j H0 n) : OkF nm P Γ cl fa gl df j H0 (n + 1) := by
  intro es X N sc xs hz hN hs hd B h
  unfold chkf at h
  split at h
  · exact .nil
  · rename_i e es z k p xs
    rw [Bool.and_eq_true] at h
    simp only [Es.cons.sizeOf_spec] at hz
    have h1 := h.1
    split at h1
    · rw [decide_eq_true_eq] at h1
      subst h1
      exact .txt (hF es (by omega) hN hs hd B h.2)
    · cases h1
  · rename_i e es x c p xs
    simp only [Bool.and_eq_true, decide_eq_true_eq] at h
    simp only [Es.cons.sizeOf_spec] at hz
    obtain ⟨⟨rfl, h2⟩, h3⟩ := h
    exact .val (hE e (by omega) hN hs hd B h2).1 (hF es (by omega) hN hs hd B h3)
  · cases h
theorem okQ_step {n : Nat} (hE : OkE nm P Γ cl fa gl df j H0 n) (hQ : OkQ nm P Γ cl fa gl df j H0 n) : OkQ nm P Γ cl fa gl df j H0 (n + 1) := by
  intro es X N sc xs hz hN hs hd B h
  cases es with
  | nil =>
    cases xs with
    | nil => exact pa_none
    | cons => cases h
  | cons e es =>
    cases xs with
    | nil => cases h
    | cons x xs =>
      have h : (plainX x && chk nm P gl N sc e x && chkq nm P gl N sc es xs) = true := h
      simp only [Bool.and_eq_true] at h
      simp only [Es.cons.sizeOf_spec] at hz
      exact pa_more h.1.1 (hE e (by omega) hN hs hd B h.1.2).1 (hQ es (by omega) hN hs hd B h.2)
  | star e es =>
    cases xs with
    | nil => cases h
    | cons x xs =>
      cases x with
      | Starred x p =>
        have h : (chk nm P gl N sc e x && chkq nm P gl N sc es xs) = true := h
        rw [Bool.and_eq_true] at h
        simp only [Es.star.sizeOf_spec] at hz
        exact pa_star' (hE e (by omega) hN hs hd B h.1).1 (hQ es (by omega) hN hs hd B h.2)
      | _ => cases h
theorem okEs_step {n : Nat} (hE : OkE nm P Γ cl fa gl df j H0 n) (hEs : OkEs nm P Γ cl fa gl df j H0 n) : OkEs nm P Γ cl fa gl df j H0 (n + 1) := by
  intro es X N sc xs hz hN hs hd B h
  cases es with
  | nil =>
    cases xs with
    | nil => exact .nil
    | cons => cases h
  | cons e es =>
    cases xs with
    | nil => cases h
    | cons x xs =>
      have h : (plainX x && chk nm P gl N sc e x && chks nm P gl N sc es xs) = true := h
      simp only [Bool.and_eq_true] at h
      simp only [Es.cons.sizeOf_spec] at hz
      exact .cons h.1.1 (hE e (by omega) hN hs hd B h.1.2).1 (hEs es (by omega) hN hs hd B h.2)
  | star e es =>
    cases xs with
    | nil => cases h
    | cons x xs => cases h
theorem okO_step {n : Nat} (hE : OkE nm P Γ cl fa gl df j H0 n) : OkO nm P Γ cl fa gl df j H0 (n + 1) := by
  intro o X N sc x hz hN hs hd B h
  cases o with
  | none =>
    cases x with
    | none => trivial
    | some => cases h
  | some e =>
    cases x with
    | none => cases h
    | some y =>
      simp only [Oe.some.sizeOf_spec] at hz
      exact (hE e (by omega) hN hs hd B h).1
theorem okC_step {n : Nat} (hE : OkE nm P Γ cl fa gl df j H0 n) : OkC nm P Γ cl fa gl df j H0 (n + 1) := by
  intro o X N sc xs hz hN hs hd B h
  cases o with
  | none =>
    cases xs with
    | nil => trivial
    | cons => cases h
  | some e =>
    cases xs with
    | nil => cases h
    | cons y ys =>
      cases ys with
      | nil =>
        simp only [Oe.some.sizeOf_spec] at hz
        exact (hE e (by omega) hN hs hd B h).1
      | cons => cases h
theorem okI_step {n : Nat} (hE : OkE nm P Γ cl fa gl df j H0 n) : OkI nm P Γ cl fa gl df j H0 (n + 1) := by
  intro it X N sc tg x hz hN hs hd B h
  unfold chki at h
  split at h
  · rename_i a y _ z _
    simp only [Bool.and_eq_true] at h
    simp only [It.r1.sizeOf_spec] at hz
    exact ⟨sni_r1 hs B h.1.1 h.1.2 (hE a (by omega) hN hs hd B h.2).1, fun _ _ => rfl⟩
  · rename_i a b x _ y z _
    simp only [Bool.and_eq_true] at h
    simp only [It.r2.sizeOf_spec] at hz
    exact ⟨sni_r2 hs B h.1.1.1.1 h.1.1.1.2 h.1.1.2 (hE a (by omega) hN hs hd B h.1.2).1 (hE b (by omega) hN hs hd B h.2).1, fun _ _ => rfl⟩
  · rename_i a b c x _ y z u _
    simp only [Bool.and_eq_true] at h
    simp only [It.r3.sizeOf_spec] at hz
    obtain ⟨⟨⟨⟨⟨h1, h2⟩, h3⟩, h4⟩, h5⟩, h6⟩ := h
    unfold negK at h4
    split at h4
    · rw [decide_eq_true_eq] at h4
      subst h4
      exact ⟨sni_r3 hs B h1 h2 h3 rfl (hE a (by omega) hN hs hd B h5).1 (hE b (by omega) hN hs hd B h6).1 pe_negK, fun _ _ => rfl⟩
    · cases h4
  · rename_i e _ _ _ x _ y _
    simp only [Bool.and_eq_true] at h
    simp only [It.enum.sizeOf_spec] at hz
    exact ⟨sni_enum hs B h.1.1 h.1.2 (hE e (by omega) hN hs hd B h.2).1, fun _ _ => rfl⟩
  · rename_i a b _ _ _ x _ y z _
    simp only [Bool.and_eq_true] at h
    simp only [It.zip.sizeOf_spec] at hz
    exact ⟨sni_zip hs B h.1.1.1.1 h.1.1.1.2 h.1.1.2 (hE a (by omega) hN hs hd B h.1.2).1 (hE b (by omega) hN hs hd B h.2).1, fun _ _ => rfl⟩
  · rename_i a b c _ _ _ x _ y z u _
    simp only [Bool.and_eq_true] at h
    simp only [It.zip3.sizeOf_spec] at hz
    exact ⟨sni_zip3 hs B h.1.1.1.1.1.1 h.1.1.1.1.1.2 h.1.1.1.1.2 h.1.1.1.2 (hE a (by omega) hN hs hd B h.1.1.2).1 (hE b (by omega) hN hs hd B h.1.2).1 (hE c (by omega) hN hs hd B h.2).1, fun _ _ => rfl⟩
  · rename_i e
    simp only [Bool.and_eq_true] at h
    simp only [It.seq.sizeOf_spec] at hz
    exact ⟨sni_seq (hE e (by omega) hN hs hd B h.2).1, plain_fs h.1⟩
  · cases h
theorem ok_all : ∀ n : Nat, OkE nm P Γ cl fa gl df j H0 n ∧ OkEs nm P Γ cl fa gl df j H0 n ∧ OkO nm P Γ cl fa gl df j H0 n ∧ OkC nm P Γ cl fa gl df j H0 n ∧ OkI nm P Γ cl fa gl df j H0 n ∧ OkQ nm P Γ cl fa gl df j H0 n ∧ OkF nm P Γ cl fa gl df j H0 n
  | 0 => ⟨fun _ _ _ _ _ h => absurd h (Nat.not_lt_zero _), fun _ _ _ _ _ h => absurd h (Nat.not_lt_zero _), fun _ _ _ _ _ h => absurd h (Nat.not_lt_zero _), fun _ _ _ _ _ h => absurd h (Nat.not_lt_zero _), fun _ _ _ _ _ _ h => absurd h (Nat.not_lt_zero _), fun _ _ _ _ _ h => absurd h (Nat.not_lt_zero _), fun _ _ _ _ _ h => absurd h (Nat.not_lt_zero _)⟩
  | n + 1 => by
    obtain ⟨a, b, c, d, e, q, f⟩ := ok_all n
    exact ⟨okE_step a b q c d e f, okEs_step a b, okO_step a, okC_step a, okI_step a, okQ_step a q, okF_step a f⟩
section
variable {X : Cx} {N : List Str} {sc : Scope}
theorem chk_ok {e : E} {x : Expr} (hN : X.N = N) (hs : X.env.scope = sc) (hd : X.N.Nodup) (B : Bd X nm P Γ cl fa gl df j) (h : chk nm P gl N sc e x = true) : Snd X cl H0 x (ev P Γ e) := ((ok_all (sizeOf e + 1)).1 e (Nat.lt_succ_self _) hN hs hd B h).1
theorem chks_ok {es : Es} {xs : List Expr} (hN : X.N = N) (hs : X.env.scope = sc) (hd : X.N.Nodup) (B : Bd X nm P Γ cl fa gl df j) (h : chks nm P gl N sc es xs = true) : Sns X cl H0 P Γ es xs := (ok_all (sizeOf es + 1)).2.1 es (Nat.lt_succ_self _) hN hs hd B h
theorem chki_ok {it : It} {tg x : Expr} (hN : X.N = N) (hs : X.env.scope = sc) (hd : X.N.Nodup) (B : Bd X nm P Γ cl fa gl df j) (h : chki nm P gl N sc it tg x = true) : PI X tg x (LI X.K cl H0 (evi P Γ it)) ∧ ∀ env v, foldedSetIterable x env v = pure v :=
  (ok_all (sizeOf it + 1)).2.2.2.2.1 it (Nat.lt_succ_self _) hN hs hd B h
theorem chkc_ok {o : Oe} {xs : List Expr} (hN : X.N = N) (hs : X.env.scope = sc) (hd : X.N.Nodup) (B : Bd X nm P Γ cl fa gl df j) (h : chkc nm P gl N sc o xs = true) : PTs X xs (LC X.K cl H0 P Γ o) :=
  pts_of ((ok_all (sizeOf o + 1)).2.2.2.1 o (Nat.lt_succ_self _) hN hs hd B h)
theorem raw_ok {e : E} {x : Expr} (hN : X.N = N) (hs : X.env.scope = sc) (hd : X.N.Nodup) (B : Bd X nm P Γ cl fa gl df j) (h : chk nm P gl N sc e x = true) (hr : (match e with | .lst _ => true | .lc .. => true | _ => false) = true) : PE X x (RawL X.K cl H0 (ev P Γ e)) := by
  cases e with
  | lst es =>
    unfold chk at h
    cases x with
    | List xs pos => exact rawL_lst ((ok_all (sizeOf es + 1)).2.2.2.2.2.1 es (Nat.lt_succ_self _) hN hs hd B h)
    | _ => cases h
  | lc own t it c e =>
    unfold chk at h
    split at h
    all_goals first | (rename_i q; cases q; done) | skip
    · rename_i own' t' it' c' e' elt tg iter ifs scope pos q h
      cases q
      simp only [Bool.and_eq_true] at h
      obtain ⟨⟨⟨⟨⟨h1, h2⟩, h3⟩, h4⟩, h5⟩, h6⟩ := h
      obtain ⟨hi, hf⟩ := chki_ok (H0 := H0) hN hs hd B h3
      exact raw_lc hN hs hd B h1 h2 hi h4 hf (fun s H C c1 fp => chkc_ok (X := X.blk s H scope (compEnvC scope c1 C X.env) fp) hN (by subst hs; rfl) hd (B.blk s H scope C c1 fp) h5)
        (fun s H C c1 fp => chk_ok (X := X.blk s H scope (compEnvC scope c1 C X.env) fp) hN (by subst hs; rfl) hd (B.blk s H scope C c1 fp) h6)
    · cases h
  | _ => cases hr
end
end
end Vw
set_option Elab.async false
set_option linter.all false
set_option maxRecDepth 100000
set_option maxHeartbeats 4000000
namespace Vw
open PySem PySem.Spec L2
def notComp : Expr → Bool
  | .ListComp .. => false
  | .SetComp .. => false
  | .DictComp .. => false
  | _ => true
def isRaw : E → Bool
  | .lst _ => true
  | .lc .. => true
  | _ => false
def isLcE : E → Bool
  | .lc .. => true
  | _ => false
def funB (sc : Scope) : Bool := match sc.kind with
  | .function => true
  | _ => false
def swOk (sc : Scope) (y : Str) (py : Pos) : Expr → Bool
  | .ListComp _ _ scope pos => funB sc && decide (sc.names.lookup y = some .local) && (py.line == pos.line) && !(scope.names.any fun (n, k) => n == y && (k == .local || k == .cell))
  | _ => false
def noSw (sc : Scope) (y : Str) (x : Expr) : Bool := notComp x || decide (sc.names.lookup y = some .cell)
def cellT (sc : Scope) (ts : List Expr) : Bool := ts.any fun t => match t with
  | .Name y _ => decide (sc.names.lookup y = some .cell)
  | _ => false
def stOk : Expr → Bool
  | .Tuple vs _ _ => vs.all (foldedForSure 8)
  | _ => true
section
variable (nm : Nm) (P : Pr) (gl : Nat → Bool) (N : List Str) (sc : Scope)
mutual
def chkS : S → Stmt → Bool
  | .set i e, .Assign [.Name y py] x _ => chkN N sc (fun _ => true) i (.Name y py) && chk nm P gl N sc e x && (noSw sc y x || (isLcE e && swOk sc y py x))
  | .bld i e, .Assign [.Name y py] x _ => chkN N sc (fun _ => true) i (.Name y py) && chk nm P gl N sc e x && isRaw e && (noSw sc y x || swOk sc y py x)
  | .par i j a b false false, .Assign [.Tuple [.Name x px, .Name y py] _ _] (.Tuple [v, w] _ _) _ => decide (N[i]? = some x) && decide (N[j]? = some y) && decide (i ≠ j) && funB sc && decide (sc.names.lookup x = some .local) && decide (sc.names.lookup y = some .local) &&
      (py.line == px.line) && !(x == y) && plainX v && plainX w && !([v, w].all (foldedForSure 8)) && !([v, w].all (constantsAlone 8)) && chk nm P gl N sc a v && chk nm P gl N sc b w
  | .par i j a b false true, .Assign [.Tuple [.Name x px, .Name y py] _ _] (.Tuple [v, w] _ _) _ => decide (N[i]? = some x) && decide (N[j]? = some y) && decide (i ≠ j) && funB sc && decide (sc.names.lookup x = some .local) && decide (sc.names.lookup y = some .local) &&
      (py.line == px.line) && !(x == y) && plainX v && plainX w && !([v, w].all (foldedForSure 8)) && !([v, w].all (constantsAlone 8)) && chk nm P gl N sc a v && chk nm P gl N sc b w && isRaw b
  | .dput2 o1 k1 o2 k2 e1 e2, .Assign [.Tuple [.Subscript x (.Constant (.str a1) _ _) _, .Subscript y (.Constant (.str a2) _ _) _] _ _] (.Tuple [v, w] _ _) _ => decide (k1 = a1) && decide (k2 = a2) && chk nm P gl N sc o1 x && chk nm P gl N sc o2 y && plainX v && plainX w && chk nm P gl N sc e1 v && chk nm P gl N sc e2 w
  | .un is e, .Assign [.Tuple xs _ _] x _ => chkNs N sc (fun _ => true) is xs && chk nm P gl N sc e x && (stOk x || cellT sc xs)
  | .app i e, .Expr (.Call (.Attribute (.Name x _) n apos) [y] [] cpos) _ => decide (n = ("append" : Str)) && nmB N sc i x && plainX y && (apos.endLine == cpos.line) && chk nm P gl N sc e y
  | .put i k e, .Assign [.Subscript (.Name x _) y _] z _ => nmB N sc i x && plainS y && notComp z && chk nm P gl N sc k y && chk nm P gl N sc e z
  | .dput o key e, .Assign [.Subscript x (.Constant (.str k) _ _) _] z _ => decide (k = key) && notComp z && chk nm P gl N sc o x && chk nm P gl N sc e z
  | .ife c t e, .If x y z _ => chk nm P gl N sc c x && chkSs t y && chkSs e z
  | .whl c b, .While x y [] _ => chk nm P gl N sc c x && chkSs b y
  | .for t it b, .For tg x y [] _ => chki nm P gl N sc it tg x && chkT N sc (fun _ => true) t tg && chkSs b y
  | .ret e, .Return (some x) _ => chk nm P gl N sc e x
  | .retN, .Return none _ => true
  | .brk, .Break _ => true
  | .cnt, .Continue _ => true
  | .pas, .Pass _ => true
  | .pas, .Expr (.Constant (.str _) _ _) _ => true
  | .exp e, .Expr x _ => notComp x && chk nm P gl N sc e x
  | .never, _ => true
  | _, _ => false
def chkSs : Ss → List Stmt → Bool
  | .nil, [] => true
  | .cons (.frz _) ss, sts => chkSs ss sts
  | .cons s ss, st :: sts => chkS s st && chkSs ss sts
  | _, _ => false
end
end
section
variable {K : PySem.W.Frag} {cl : Cls0} {H0 H H1 : Hp} {π0 π π1 : List Addr} {ρ : Rho} {σ : L2.St} {μ : Mu}
structure Wy (H0 : Hp) (π0 : List Addr) (H : Hp) (π : List Addr) (H1 : Hp) (π1 : List Addr) : Prop where
  mv : Mv H0 π0 H1 π1
  st : Ste H H1
  at_ : ∀ (k : Nat) a, π[k]? = some a → π1[k]? = some a
theorem Wy.of (m0 : Mv H0 π0 H π) (ok : PiOk H π) (m1 : Mv H π H1 π1) : Wy H0 π0 H π H1 π1 := ⟨m0.trans m1, m1.ste ok, fun k a q => m1.at q⟩
theorem Ste.trans {H H1 H2 : Hp} (a : Ste H H1) (b : Ste H1 H2) : Ste H H2 := fun x o e k => b x o (a x o e k) k
theorem Wy.trans {H2 : Hp} {π2 : List Addr} (a : Wy H0 π0 H π H1 π1) (b : Wy H0 π0 H1 π1 H2 π2) : Wy H0 π0 H π H2 π2 := ⟨b.mv, a.st.trans b.st, fun k x q => b.at_ k x (a.at_ k x q)⟩
theorem Wy.un {p : Addr} {vs : List V} {o : HO} (a : Wy H0 π0 H π H1 π1) (h0 : H0 p = none) (h : H1 p = some (.lst vs)) : Wy H0 π0 H π (upd H1 p o) π1 := ⟨a.mv.un h0 h, a.st.trans (Ste.un h), a.at_⟩
def Dst (K : PySem.W.Frag) (cl : Cls0) (H0 : Hp) (π0 : List Addr) (H : Hp) (π : List Addr) (D : Ends) : So → Prop
  | .nx ρ1 μ1 => ∀ σ1 H1 π1, RelS K cl H0 ρ1 σ1 H1 π1 → CR K cl H1 π1 μ1 → Wy H0 π0 H π H1 π1 → D.nx σ1 H1
  | .ret d μ1 => ∀ v H1 π1, Rp K cl H1 π1 d v → CR K cl H1 π1 μ1 → Wy H0 π0 H π H1 π1 → D.rt v H1
  | .brk ρ1 μ1 => ∀ σ1 H1 π1, RelS K cl H0 ρ1 σ1 H1 π1 → CR K cl H1 π1 μ1 → Wy H0 π0 H π H1 π1 → D.bk σ1 H1
  | .cnt ρ1 μ1 => ∀ σ1 H1 π1, RelS K cl H0 ρ1 σ1 H1 π1 → CR K cl H1 π1 μ1 → Wy H0 π0 H π H1 π1 → D.ct σ1 H1
  | .err _ _ => False
  | .bad => False
theorem Dst.from {D : Ends} {o : So} (w : Wy H0 π0 H π H1 π1) (h : Dst K cl H0 π0 H π D o) : Dst K cl H0 π0 H1 π1 D o := by
  cases o with
  | nx ρ1 μ1 => exact fun σ2 H2 π2 a b c => h σ2 H2 π2 a b (w.trans c)
  | ret d μ1 => exact fun v H2 π2 a b c => h v H2 π2 a b (w.trans c)
  | brk ρ1 μ1 => exact fun σ2 H2 π2 a b c => h σ2 H2 π2 a b (w.trans c)
  | cnt ρ1 μ1 => exact fun σ2 H2 π2 a b c => h σ2 H2 π2 a b (w.trans c)
  | err => exact h
  | bad => exact h
def LS (K : PySem.W.Frag) (cl : Cls0) (H0 : Hp) (π0 : List Addr) (r : Rho → Mu → So) : TS := fun D σ H => ∃ ρ μ π, RelS K cl H0 ρ σ H π ∧ CR K cl H π μ ∧ Mv H0 π0 H π ∧ Dst K cl H0 π0 H π D (r ρ μ)
theorem so_bind {α : Type} {o : Out α} {f : α → Mu → So} {D : Ends} (h : Dst K cl H0 π0 H π D (o.so f)) : ∃ a μ1, o = .ok a μ1 ∧ Dst K cl H0 π0 H π D (f a μ1) := by
  cases o with
  | ok a μ1 => exact ⟨a, μ1, rfl, h⟩
  | err x μ1 => exact h.elim
  | bad => exact h.elim
theorem RelS.setO {i p : Nat} {l : List D} {vs : List V} (r : RelS K cl H0 ρ σ H π) (ok : PiOk H π) (m : Mv H π H1 π1) (hp : H p = none) (h0 : H0 p = none) (h1 : H1 p = some (.lst vs)) (rl : Rps K cl H1 π1 l vs) :
    RelS K cl H0 (Sl.put ρ i (.own l)) (σ.set i (some (.ref p))) H1 π1 := by
  have r1 := r.mv ok m
  by_cases hi : i < ρ.length
  · have hi' : i < σ.length := by rw [r.len]; exact hi
    have ne : ∀ {j : Nat} {l' : List D} {q : Nat}, Sl.get ρ j = .own l' → σ[j]? = some (some (.ref q)) → q ≠ p := fun {j l' q} g s e => by
      obtain ⟨q', vs', s1, s2, _⟩ := r.own j l' g
      rw [s] at s1
      cases s1
      rw [e, hp] at s2; cases s2
    refine ⟨by rw [List.length_set, put_length]; exact r.len, fun j e q => ?_, fun j l' q => ?_, fun j k l1 l2 q hjk q1 q2 s1 s2 => ?_⟩
    · by_cases hj : j = i
      · subst hj
        rw [get_put_same _ _ _ hi] at q
        cases q
      · rw [get_put_ne _ _ _ _ hj] at q
        obtain ⟨u, z1, z2⟩ := r1.val j e q
        exact ⟨u, by rw [List.getElem?_set_ne (Ne.symm hj)]; exact z1, z2⟩
    · by_cases hj : j = i
      · subst hj
        rw [get_put_same _ _ _ hi] at q
        cases q
        exact ⟨p, vs, by rw [List.getElem?_set_self hi'], h1, h0, rl⟩
      · rw [get_put_ne _ _ _ _ hj] at q
        obtain ⟨u, z1, z2⟩ := r1.own j l' q
        exact ⟨u, z1, by rw [List.getElem?_set_ne (Ne.symm hj)]; exact z2.1, z2.2⟩
    · by_cases hj : j = i
      · subst hj
        rw [List.getElem?_set_self hi'] at s1
        cases s1
        have hk : k ≠ j := Ne.symm hjk
        rw [get_put_ne _ _ _ _ hk] at q2
        rw [List.getElem?_set_ne (Ne.symm hk)] at s2
        exact ne q2 s2 rfl
      · rw [get_put_ne _ _ _ _ hj] at q1
        rw [List.getElem?_set_ne (Ne.symm hj)] at s1
        by_cases hk : k = i
        · subst hk
          rw [List.getElem?_set_self hi'] at s2
          cases s2
          exact ne q1 s1 rfl
        · rw [get_put_ne _ _ _ _ hk] at q2
          rw [List.getElem?_set_ne (Ne.symm hk)] at s2
          exact r1.sep j k l1 l2 q hjk q1 q2 s1 s2
  · have h1 : ρ.length ≤ i := Nat.le_of_not_lt hi
    rw [put_out h1, List.set_eq_of_length_le (by rw [r.len]; exact h1)]
    exact r1
theorem RelS.own_un {i p : Nat} {l : List D} {vs : List V} {o : HO} (r : RelS K cl H0 ρ σ H π) (g : Sl.get ρ i = .own l) (s : σ[i]? = some (some (.ref p))) (h : H p = some (.lst vs)) :
    (∀ j e, Sl.get ρ j = .val e → ∃ v, σ[j]? = some (some v) ∧ Rp K cl (upd H p o) π e v) ∧ ∀ j l', j ≠ i → Sl.get ρ j = .own l' → ∃ q vs', σ[j]? = some (some (.ref q)) ∧ upd H p o q = some (.lst vs') ∧ H0 q = none ∧ Rps K cl (upd H p o) π l' vs' := by
  refine ⟨fun j e q => ?_, fun j l' hj q => ?_⟩
  · obtain ⟨v, z1, z2⟩ := r.val j e q
    exact ⟨v, z1, z2.st (Ste.un h) fun _ _ z => z⟩
  · obtain ⟨q', vs', z1, z2, z3, z4⟩ := r.own j l' q
    refine ⟨q', vs', z1, ?_, z3, z4.st (Ste.un h) fun _ _ z => z⟩
    rw [upd_ne (fun e => by subst e; exact r.sep j i l' l _ hj q g z1 s)]
    exact z2
theorem RelS.frz {i p : Nat} {l : List D} {vs : List V} {o : Obj} (r : RelS K cl H0 ρ σ H π) (g : Sl.get ρ i = .own l) (s : σ[i]? = some (some (.ref p))) (h : H p = some (.lst vs)) (rl : Rps K cl H π l vs) :
    RelS K cl H0 (Sl.put ρ i (.val (.lst l))) σ (upd H p (.frz o (.lst vs))) π := by
  have hi : i < ρ.length := get_lt (by rw [g]; simp)
  obtain ⟨a, b⟩ := r.own_un (o := .frz o (.lst vs)) g s h
  refine ⟨by rw [put_length]; exact r.len, fun j e q => ?_, fun j l' q => ?_, fun j k l1 l2 q hjk q1 q2 s1 => ?_⟩
  · by_cases hj : j = i
    · subst hj
      rw [get_put_same _ _ _ hi] at q
      cases q
      exact ⟨_, s, .lst (.inl ⟨o, upd_same⟩) (rl.st (Ste.un h) fun _ _ z => z)⟩
    · rw [get_put_ne _ _ _ _ hj] at q
      exact a j e q
  · have hj : j ≠ i := fun e => by
      subst e
      rw [get_put_same _ _ _ hi] at q; cases q
    rw [get_put_ne _ _ _ _ hj] at q
    exact b j l' hj q
  · have hj : j ≠ i := fun e => by
      subst e
      rw [get_put_same _ _ _ hi] at q1; cases q1
    have hk : k ≠ i := fun e => by
      subst e
      rw [get_put_same _ _ _ hi] at q2; cases q2
    rw [get_put_ne _ _ _ _ hj] at q1
    rw [get_put_ne _ _ _ _ hk] at q2
    exact r.sep j k l1 l2 q hjk q1 q2 s1
theorem RelS.own_set {i p : Nat} {l l2 : List D} {vs ws : List V} (r : RelS K cl H0 ρ σ H π) (g : Sl.get ρ i = .own l) (s : σ[i]? = some (some (.ref p))) (h : H p = some (.lst vs)) (h0 : H0 p = none) (rl : Rps K cl H π l2 ws) :
    RelS K cl H0 (Sl.put ρ i (.own l2)) σ (upd H p (.lst ws)) π := by
  have hi : i < ρ.length := get_lt (by rw [g]; simp)
  obtain ⟨a, b⟩ := r.own_un (o := .lst ws) g s h
  have get : ∀ {j : Nat} {l' : List D}, Sl.get (Sl.put ρ i (.own l2)) j = .own l' → ∃ l'', Sl.get ρ j = .own l'' := fun {j l'} q => by
    by_cases hj : j = i
    · subst hj; exact ⟨l, g⟩
    · rw [get_put_ne _ _ _ _ hj] at q; exact ⟨l', q⟩
  refine ⟨by rw [put_length]; exact r.len, fun j e q => ?_, fun j l' q => ?_, fun j k l1 l2 q hjk q1 q2 s1 => ?_⟩
  · have hj : j ≠ i := fun e => by
      subst e
      rw [get_put_same _ _ _ hi] at q; cases q
    rw [get_put_ne _ _ _ _ hj] at q
    exact a j e q
  · by_cases hj : j = i
    · subst hj
      rw [get_put_same _ _ _ hi] at q
      cases q
      exact ⟨p, ws, s, upd_same, h0, rl.st (Ste.un h) fun _ _ z => z⟩
    · rw [get_put_ne _ _ _ _ hj] at q
      exact b j l' hj q
  · obtain ⟨l1', g1⟩ := get q1
    obtain ⟨l2', g2⟩ := get q2
    exact r.sep j k l1' l2' q hjk g1 g2 s1
end
section
variable {X : Cx} {nm : Nm} {P : Pr} {Γ : Gam} {cl : Cls0} {fa : Fa} {gl df : Nat → Bool} {j : Nat} {H0 : Hp} {π0 : List Addr} {N : List Str} {sc : Scope}
structure Bo (X : Cx) (nm : Nm) (P : Pr) (Γ : Gam) (cl : Cls0) (fa : Fa) (gl df : Nat → Bool) (j : Nat) (N : List Str) (sc : Scope) : Prop where
  n : X.N = N
  s : X.env.scope = sc
  d : X.N.Nodup
  b : Bd X nm P Γ cl fa gl df j
  p : PassesOwn (model X.prog X.w) X.A X.env X.xe
  f : X.fn = fun _ => true
theorem Bo.chk (o : Bo X nm P Γ cl fa gl df j N sc) {e : E} {x : Expr} (h : chk nm P gl N sc e x = true) : Snd X cl H0 x (ev P Γ e) := chk_ok o.n o.s o.d o.b h
theorem Bo.raw (o : Bo X nm P Γ cl fa gl df j N sc) {e : E} {x : Expr} (h : Vw.chk nm P gl N sc e x = true) (hr : isRaw e = true) : PE X x (RawL X.K cl H0 (ev P Γ e)) := raw_ok o.n o.s o.d o.b h (by cases e <;> first | rfl | cases hr)
theorem PS.of {st : Stmt} {t t' : TS} (h : PS X st t) (k : ∀ D σ H, t' D σ H → t D σ H) : PS X st t' := ⟨fun pins s σ H D I q => h.run pins s σ H D I (k D σ H q)⟩
theorem PSs.of {st : List Stmt} {t t' : TS} (h : PSs X st t) (k : ∀ D σ H, t' D σ H → t D σ H) : PSs X st t' := ⟨fun pins s σ H D I q => h.run pins s σ H D I (k D σ H q)⟩
theorem PS.frz {st : Stmt} {t : TS} (h : PS X st t) : PS X st (fun D σ H => t { D with nx := fun σ H => D.nx σ H ∨ ∃ p xs, H p = some (.lst xs) ∧ ∀ o, D.nx σ (upd H p (.frz o (.lst xs))) } σ H) := by
  refine ⟨fun pins s σ H D I q => thn (h.run pins s σ H _ I q) fun f s1 z => ?_⟩
  cases f with
  | next =>
    obtain ⟨σ', H', I', q'⟩ := z
    rcases q' with q' | ⟨p, xs, e, q'⟩
    · exact ⟨σ', H', I', q'⟩
    · obtain ⟨o, I2⟩ := freeze I' e
      exact ⟨σ', _, I2, q' o⟩
  | ret v => exact z
  | brk => exact z
  | cont => exact z
theorem sw_no {x : Expr} {t : Option Expr} {l : Nat} {env : Env} (h : notComp x = true) : swapsWith x t l env = pure false := by
  cases x <;> first | rfl | cases h
theorem sw_name {x : Expr} {y : Str} {py : Pos} {l : Nat} {env : Env} {sc : Scope} (hs : env.scope = sc) (h : noSw sc y x = true) : swapsWith x (some (.Name y py)) l env = pure false := by
  unfold noSw at h
  rw [Bool.or_eq_true, decide_eq_true_eq] at h
  rcases h with h | h
  · exact sw_no h
  · have k : env.kindOf y = some .cell := by unfold Env.kindOf; rw [hs]; exact h
    cases x <;> first | rfl | (unfold swapsWith; simp [k, show (NameKind.cell == NameKind.local) = false from rfl])
theorem chkN_nm {i : Nat} {y : Str} {py : Pos} (h : chkN N sc (fun _ => true) i (.Name y py) = true) : N[i]? = some y ∧ L2.Loc sc y := by
  obtain ⟨x, p, e, h1, h2, _⟩ := chkN_of h
  cases e
  exact ⟨h1, h2⟩
theorem sw_tup {x : Expr} {xs : List Expr} {kk : Nat} {tpos : Pos} {l : Nat} {env : Env} : swapsWith x (some (.Tuple xs kk tpos)) l env = pure false := by
  cases x <;> rfl
theorem st_set {i : Nat} {e : E} {y : Str} {py pos : Pos} {x : Expr} (o : Bo X nm P Γ cl fa gl df j N sc) (hy : chkN N sc (fun _ => true) i (.Name y py) = true) (hx : chk nm P gl N sc e x = true) (hc : noSw sc y x = true) :
    PS X (.Assign [.Name y py] x pos) (LS X.K cl H0 π0 (exs P Γ (.set i e))) := by
  obtain ⟨h1, h2⟩ := chkN_nm hy
  refine PS.of (ps_set (i := i) o.d (by rw [o.n]; exact h1) (by rw [o.s]; exact h2) (o.chk (H0 := H0) hx).pe (sw_name o.s hc) (.inl (by rw [o.f]))) fun D σ H ⟨ρ, μ, π, rs, cr, m0, q⟩ => ?_
  simp only [exs] at q
  obtain ⟨d, μ1, e1, q⟩ := so_bind q
  exact ⟨ρ, μ, π, d, μ1, rs, cr, e1, fun v H1 π1 r1 m1 c1 => q _ H1 π1 ((rs.mv cr.ok m1).store i r1) c1 (.of m0 cr.ok m1)⟩
theorem bld_raw {i : Nat} {e : E} (hr : isRaw e = true) {D : Ends} {σ : L2.St} {H : Hp} (h : LS X.K cl H0 π0 (exs P Γ (.bld i e)) D σ H) (hl : ∀ ρ μ d μ', ev P Γ e ρ μ = .ok d μ' → ∃ l, d = .lst l) : RawL X.K cl H0 (ev P Γ e) σ H fun x H1 => gName i x σ H1 D.nx := by
  obtain ⟨ρ, μ, π, rs, cr, m0, q⟩ := h
  simp only [exs] at q
  obtain ⟨d, μ1, e1, q⟩ := so_bind q
  obtain ⟨l, rfl⟩ := hl _ _ _ _ e1
  exact ⟨ρ, μ, π, l, μ1, rs, cr, e1, fun p vs H1 π1 h1 hp r1 m1 c1 => q _ H1 π1 (rs.setO cr.ok m1 hp (m0.none hp) h1 r1) c1 (.of m0 cr.ok m1)⟩
theorem lst_isl {es : Es} (ρ : Rho) (μ : Mu) (d : D) (μ' : Mu) (h : ev P Γ (.lst es) ρ μ = .ok d μ') : ∃ l, d = .lst l := by
  simp only [ev] at h
  obtain ⟨ds, μ1, e1, h⟩ := Out.bind_eq_ok h
  obtain ⟨hz, rfl, rfl⟩ := lenOk_ok h
  exact ⟨_, rfl⟩
theorem raw_isl {e : E} (hr : isRaw e = true) (ρ : Rho) (μ : Mu) (d : D) (μ' : Mu) (h : ev P Γ e ρ μ = .ok d μ') : ∃ l, d = .lst l := by
  cases e with
  | lst es => exact lst_isl _ _ _ _ h
  | lc => exact lc_isl _ _ _ _ h
  | _ => cases hr
theorem st_bld {i : Nat} {e : E} {y : Str} {py pos : Pos} {x : Expr} (o : Bo X nm P Γ cl fa gl df j N sc) (hy : chkN N sc (fun _ => true) i (.Name y py) = true) (hx : chk nm P gl N sc e x = true) (hr : isRaw e = true) (hc : noSw sc y x = true) :
    PS X (.Assign [.Name y py] x pos) (LS X.K cl H0 π0 (exs P Γ (.bld i e))) := by
  obtain ⟨h1, h2⟩ := chkN_nm hy
  exact PS.of (ps_set (i := i) o.d (by rw [o.n]; exact h1) (by rw [o.s]; exact h2) (o.raw (H0 := H0) hx hr) (sw_name o.s hc) (.inl (by rw [o.f]))) fun D σ H h => bld_raw hr h (raw_isl hr)
theorem ps_setLc' {i : Nat} {e : E} {y : Str} {py pos : Pos} {x : Expr} (o : Bo X nm P Γ cl fa gl df j N sc) (hy : chkN N sc (fun _ => true) i (.Name y py) = true) (hx : Vw.chk nm P gl N sc e x = true) (hl : isLcE e = true) (hw : swOk sc y py x = true) :
    PS X (.Assign [.Name y py] x pos) (tAsg (RawL X.K cl H0 (ev P Γ e)) (gName i)) := by
  obtain ⟨h1, h2⟩ := chkN_nm hy
  cases e with
  | lc own t it c e =>
    unfold Vw.chk at hx
    split at hx
    all_goals first | (rename_i q; cases q; done) | skip
    · rename_i own' t' it' c' e' elt tg iter ifs scope pos q
      cases q
      simp only [Bool.and_eq_true] at hx
      obtain ⟨⟨⟨⟨⟨g1, g2⟩, g3⟩, g4⟩, g5⟩, g6⟩ := hx
      unfold swOk at hw
      simp only [Bool.and_eq_true, decide_eq_true_eq, Bool.not_eq_true'] at hw
      obtain ⟨⟨⟨w1, w2⟩, w3⟩, w4⟩ := hw
      obtain ⟨hN, hs, hd, B, _, _⟩ := o
      subst hN hs
      have hk : X.env.scope.kind = .function := by
        unfold funB at w1
        split at w1
        · assumption
        · cases w1
      obtain ⟨hi, hf⟩ := chki_ok (H0 := H0) rfl rfl hd B g3
      have hb' : BlkOk X.N X.env.scope scope (own.map fun i => (X.N.getD i Str.empty, i)) := blkOk_by g1
      refine PS.of (ps_setLc (i := i) (g := LG X.K cl H0 t) (tt := LC X.K cl H0 P Γ c) (te := LE X.K cl H0 (ev P Γ e)) B.calm hd h1 w2 (sw_true hk w2 w3 w4) hi hb' (fun s H C c1 fp => pg_of (H0 := H0) (cl := cl) (X := X.blk s H scope (compEnvC scope c1 C X.env) fp) rfl rfl rfl B.calm hd g4)
        (fun s H C c1 fp => chkc_ok (X := X.blk s H scope (compEnvC scope c1 C X.env) fp) rfl rfl hd (B.blk s H scope C c1 fp) g5)
        (fun s H C c1 fp => (chk_ok (X := X.blk s H scope (compEnvC scope c1 C X.env) fp) rfl rfl hd (B.blk s H scope C c1 fp) g6).pe) (hf _)) fun D σ H h => ?_
      show tLc _ _ _ _ _ σ H _
      rw [map_own]
      refine lc_le (fun i hi => ?_) σ H _ h
      have := List.all_eq_true.mp g2 i hi
      simpa using this
    · cases hx
  | _ => cases hl
theorem st_bldC {i : Nat} {e : E} {y : Str} {py pos : Pos} {x : Expr} (o : Bo X nm P Γ cl fa gl df j N sc) (hy : chkN N sc (fun _ => true) i (.Name y py) = true) (hx : Vw.chk nm P gl N sc e x = true) (hl : isLcE e = true) (hw : swOk sc y py x = true) :
    PS X (.Assign [.Name y py] x pos) (LS X.K cl H0 π0 (exs P Γ (.bld i e))) := by
  have hr : isRaw e = true := by cases e <;> first | rfl | cases hl
  exact PS.of (ps_setLc' (H0 := H0) o hy hx hl hw) fun D σ H h => bld_raw hr h (raw_isl hr)
theorem st_setC {i : Nat} {e : E} {y : Str} {py pos : Pos} {x : Expr} (o : Bo X nm P Γ cl fa gl df j N sc) (hy : chkN N sc (fun _ => true) i (.Name y py) = true) (hx : Vw.chk nm P gl N sc e x = true) (hl : isLcE e = true) (hw : swOk sc y py x = true) :
    PS X (.Assign [.Name y py] x pos) (LS X.K cl H0 π0 (exs P Γ (.set i e))) := by
  have hr : isRaw e = true := by cases e <;> first | rfl | cases hl
  refine PS.of (PS.frz (ps_setLc' (H0 := H0) o hy hx hl hw)) fun D σ H ⟨ρ, μ, π, rs, cr, m0, q⟩ => ?_
  simp only [exs] at q
  obtain ⟨d, μ1, e1, q⟩ := so_bind q
  obtain ⟨l, rfl⟩ := raw_isl hr _ _ _ _ e1
  refine ⟨ρ, μ, π, l, μ1, rs, cr, e1, fun p vs H1 π1 h1 hp r1 m1 c1 => .inr ⟨p, vs, h1, fun ob => ?_⟩⟩
  have m2 : Mv H π (upd H1 p (.frz ob (.lst vs))) π1 := m1.un hp h1
  exact q _ _ π1 ((rs.mv cr.ok m2).store i (.lst (.inl ⟨ob, upd_same⟩) (r1.st (Ste.un h1) fun _ _ z => z))) (c1.un h1) (.of m0 cr.ok m2)
theorem filterMap_lt {α β : Type} {f : α → Option β} : ∀ {l : List α}, (∃ x ∈ l, f x = none) → (l.filterMap f).length < l.length
  | [], ⟨_, h, _⟩ => by cases h
  | a :: l, ⟨x, hx, hn⟩ => by
    rw [List.filterMap_cons]
    rcases List.mem_cons.mp hx with e | hx
    · subst e
      rw [hn]
      exact Nat.lt_succ_of_le (List.length_filterMap_le _ _)
    · have ih := filterMap_lt ⟨x, hx, hn⟩
      cases f a with
      | none => exact Nat.lt_succ_of_lt ih
      | some b => exact Nat.succ_lt_succ ih
theorem sw_const {xs : List Expr} {kk : Nat} {tpos : Pos} {x : Expr} {env : Env} (h : stOk x = true) : swappedStores [.Tuple xs kk tpos] x env = pure none := by
  cases x with
  | Tuple vs k2 p2 =>
    have ho : vs.all (foldedForSure 8) = true := h
    unfold swappedStores
    repeat' (first | rfl | split)
    all_goals first | (simp only [ite_self]; done) | (rename_i q _ _ h3; cases q; exact absurd ho h3) | (rename_i q _ _ h3 _; cases q; exact absurd ho h3) | skip
  | _ => rfl
theorem sw_cell {xs : List Expr} {kk : Nat} {tpos : Pos} {x : Expr} {env : Env} (h : cellT env.scope xs = true) : swappedStores [.Tuple xs kk tpos] x env = pure none := by
  cases x with
  | Tuple vs k2 p2 =>
    unfold swappedStores
    split
    · rename_i q
      cases q
      split
      · rfl
      · split
        · rfl
        · dsimp only
          rw [if_pos]
          rw [Bool.or_eq_true]
          refine .inl ?_
          rw [bne_iff_ne]
          refine Nat.ne_of_lt (filterMap_lt ?_)
          unfold cellT at h
          rw [List.any_eq_true] at h
          obtain ⟨t, ht, hk⟩ := h
          refine ⟨t, ht, ?_⟩
          cases t with
          | Name y p =>
            have hk : env.kindOf y = some .cell := of_decide_eq_true hk
            simp [hk]
          | _ => cases hk
    · rename_i q
      exact (q _ _ rfl).elim
  | _ => rfl
theorem st_un {is : List Nat} {e : E} {xs : List Expr} {kk : Nat} {tpos pos : Pos} {x : Expr} (o : Bo X nm P Γ cl fa gl df j N sc) (hy : chkNs N sc (fun _ => true) is xs = true) (hx : Vw.chk nm P gl N sc e x = true) (ho : (stOk x || cellT sc xs) = true) :
    PS X (.Assign [.Tuple xs kk tpos] x pos) (LS X.K cl H0 π0 (exs P Γ (.un is e))) := by
  have hst : swappedStores [.Tuple xs kk tpos] x X.env = pure none := by
    rw [Bool.or_eq_true] at ho
    rcases ho with ho | ho
    · exact sw_const ho
    · exact sw_cell (by rw [o.s]; exact ho)
  refine PS.of (ps_asg (o.chk (H0 := H0) hx).pe (pg_of (H0 := H0) (cl := cl) (t := .tp is) o.n o.s o.f o.b.calm o.d hy) (by show swapsWith x (some (.Tuple xs kk tpos)) pos.line X.env = _; exact sw_tup) hst rfl) fun D σ H ⟨ρ, μ, π, rs, cr, m0, q⟩ => ?_
  simp only [exs] at q
  obtain ⟨d, μ1, e1, q⟩ := so_bind q
  refine ⟨ρ, μ, π, d, μ1, rs, cr, e1, fun v H1 π1 r1 m1 c1 => ?_⟩
  split at q
  · rename_i ρ1 hq
    exact ⟨ρ, π1, d, ρ1, rs.mv cr.ok m1, r1, hq, fun σ1 rs1 _ => q σ1 H1 π1 rs1 c1 (.of m0 cr.ok m1)⟩
  · exact q.elim
end
end Vw
set_option Elab.async false
set_option linter.all false
set_option maxRecDepth 100000
set_option maxHeartbeats 4000000
namespace Vw
open PySem PySem.Spec L2
theorem fun_of {sc : Scope} (h : funB sc = true) : sc.kind = .function := by
  unfold funB at h
  split at h
  · assumption
  · cases h
theorem dups2 {x y : Str} (h : (x == y) = false) : [x, y].eraseDups = [x, y] := by
  have h' : (y == x) = false := by
    rw [beq_eq_false_iff_ne] at h ⊢
    exact Ne.symm h
  rw [List.eraseDups_cons]
  simp [List.eraseDups_cons, h', h]
theorem sw_par {x y : Str} {px py pt p2 : Pos} {kt k2 : Nat} {v w : Expr} {env : Env} (hk : env.scope.kind = .function) (hx : env.scope.names.lookup x = some .local) (hy : env.scope.names.lookup y = some .local) (hl : (py.line == px.line) = true) (hxy : (x == y) = false)
    (hv : plainX v = true) (hw : plainX w = true) (h1 : [v, w].all (foldedForSure 8) = false) (h2 : [v, w].all (constantsAlone 8) = false) : swappedStores [.Tuple [.Name x px, .Name y py] kt pt] (.Tuple [v, w] k2 p2) env = pure (some [x, y]) := by
  have hb : env.blockKind = .function := by unfold Env.blockKind; rw [hk]; rfl
  have kx : env.kindOf x = some .local := hx
  have ky : env.kindOf y = some .local := hy
  have hl' : py.line = px.line := by simpa using hl
  have d2 := dups2 hxy
  unfold swappedStores
  split
  rotate_left
  · rename_i q
    exact (q _ _ rfl).elim
  · rename_i q
    cases q
    rw [if_neg, if_neg]
    dsimp only
    rw [if_neg, if_neg, if_neg]
    · simp [List.filterMap_cons, kx, ky, hl', Expr.pos]
    · rw [h2]; exact Bool.false_ne_true
    · rw [h1]; exact Bool.false_ne_true
    · simp [List.filterMap_cons, kx, ky, hl', d2, Expr.pos]
    · intro h
      rw [List.any_eq_true] at h
      obtain ⟨e, he, hs⟩ := h
      have he : e = v ∨ e = w := by simpa using he
      rcases he with rfl | rfl
      · cases e <;> first | (cases hs; done) | cases hv
      · cases e <;> first | (cases hs; done) | cases hw
    · rw [hb]; simp
section
variable {X : Cx} {nm : Nm} {P : Pr} {Γ : Gam} {cl : Cls0} {fa : Fa} {gl df : Nat → Bool} {j : Nat} {H0 : Hp} {π0 : List Addr} {N : List Str} {sc : Scope}
theorem st_par {i k : Nat} {a b : E} {x y : Str} {px py pt p2 pos : Pos} {kt k2 : Nat} {v w : Expr} (o : Bo X nm P Γ cl fa gl df j N sc) (hi : N[i]? = some x) (hj : N[k]? = some y) (hij : i ≠ k) (hk : funB sc = true) (hx : sc.names.lookup x = some .local) (hy : sc.names.lookup y = some .local)
    (hl : (py.line == px.line) = true) (hxy : (x == y) = false) (hv : plainX v = true) (hw : plainX w = true) (h1 : [v, w].all (foldedForSure 8) = false) (h2 : [v, w].all (constantsAlone 8) = false) (ha : chk nm P gl N sc a v = true) (hb : chk nm P gl N sc b w = true) :
    PS X (.Assign [.Tuple [.Name x px, .Name y py] kt pt] (.Tuple [v, w] k2 p2) pos) (LS X.K cl H0 π0 (exs P Γ (.par i k a b false false))) := by
  have oo := o
  obtain ⟨hN, hs, hd, B, _, _⟩ := o
  subst hN hs
  refine PS.of (ps_par (i := i) (j := k) B.calm hd hi hj hij hx hy (pa_more hv (oo.chk (H0 := H0) ha) (pa_more hw (oo.chk (H0 := H0) hb) pa_none)) (sw_par (fun_of hk) hx hy hl hxy hv hw h1 h2)) fun D σ H ⟨ρ, μ, π, rs, cr, m0, q⟩ => ?_
  simp only [exs] at q
  obtain ⟨d1, μ1, e1, q⟩ := so_bind q
  obtain ⟨d2, μ2, e2, q⟩ := so_bind q
  refine ⟨ρ, μ, π, [d1, d2], μ2, rs, cr, by simp only [evs, e1, e2, Out.bind_ok], fun vs H1 π1 r1 m1 c1 => ?_⟩
  cases r1 with
  | cons ra rr =>
    cases rr with
    | cons rb rr =>
      cases rr
      exact ⟨_, _, rfl, q _ H1 π1 (((rs.mv cr.ok m1).store i ra).store k rb) c1 (.of m0 cr.ok m1)⟩
theorem st_app {i : Nat} {e : E} {x : Str} {y : Expr} {p2 apos cpos pos : Pos} (o : Bo X nm P Γ cl fa gl df j N sc) (hx : nmB N sc i x = true) (hp : plainX y = true) (hl : (apos.endLine == cpos.line) = true) (hy : chk nm P gl N sc e y = true) :
    PS X (.Expr (.Call (.Attribute (.Name x p2) "append" apos) [y] [] cpos) pos) (LS X.K cl H0 π0 (exs P Γ (.app i e))) := by
  obtain ⟨h1, h2, h3, h4⟩ := nmB_of hx
  refine PS.of (ps_expr (pe_bm PySem.F.plainAttrs_list PySem.F.slot_list_append PySem.F.type_list_append mt_append (pe_var (i := i) (by rw [o.n]; exact h1) (by rw [o.s]; exact h2) h3 h4) (pa_more hp (o.chk (H0 := H0) hy) pa_none) rfl (by rw [star_cons hp]; rfl) hl (star_cons hp) rfl) rfl) fun D σ H ⟨ρ, μ, π, rs, cr, m0, q⟩ => ?_
  simp only [exs] at q
  obtain ⟨d, μ1, e1, q⟩ := so_bind q
  split at q
  · rename_i l hg
    split at q
    · rename_i hz
      obtain ⟨p, vs, s1, s2, s3, s4⟩ := rs.own i l hg
      refine ⟨.ref p, s1, .inl ⟨rfl, _, SqL.of s2⟩, ρ, μ, π, [d], μ1, rs, cr, by simp only [evs, e1, Out.bind_ok], fun ws H1 π1 r1 m1 c1 => ?_⟩
      cases r1 with
      | cons ra rr =>
        cases rr
        have hp1 := m1.keep _ _ s2 (cr.ok.notLst s2)
        refine ⟨p, vs, _, rfl, rfl, hp1, ?_, ?_⟩
        · have := s4.length
          rw [PySem.sizeLine_eq]
          show vs.length < 16777216
          have hz : l.length < 16777216 := hz
          omega
        · exact q σ _ π1 ((rs.mv cr.ok m1).own_set hg s1 hp1 s3 (Rps.append (s4.mv cr.ok m1) (.cons ra .nil))) (c1.un hp1) ((Wy.of m0 cr.ok m1).un s3 hp1)
    · exact q.elim
  · exact q.elim
theorem st_put {i : Nat} {k e : E} {x : Str} {y z : Expr} {p2 tpos pos : Pos} (o : Bo X nm P Γ cl fa gl df j N sc) (hx : nmB N sc i x = true) (hp : plainS y = true) (hc : notComp z = true) (hy : chk nm P gl N sc k y = true) (hz : chk nm P gl N sc e z = true) :
    PS X (.Assign [.Subscript (.Name x p2) y tpos] z pos) (LS X.K cl H0 π0 (exs P Γ (.put i k e))) := by
  obtain ⟨h1, h2, h3, h4⟩ := nmB_of hx
  refine PS.of (ps_asg (o.chk (H0 := H0) hz).pe (pg_sub (pe_var (i := i) (by rw [o.n]; exact h1) (by rw [o.s]; exact h2) h3 h4) (o.chk (H0 := H0) hy).pe set_list (fun v => by cases y <;> first | rfl | cases hp)) (by show swapsWith z (some (.Subscript (.Name x p2) y tpos)) pos.line X.env = _; exact sw_no hc) rfl rfl) fun D σ H ⟨ρ, μ, π, rs, cr, m0, q⟩ => ?_
  simp only [exs] at q
  obtain ⟨d, μ1, e1, q⟩ := so_bind q
  obtain ⟨d2, μ2, e2, q⟩ := so_bind q
  split at q
  · rename_i l n hg
    split at q
    · rename_i jj hj
      obtain ⟨p, vs, s1, s2, s3, s4⟩ := rs.own i l hg
      refine ⟨ρ, μ, π, d, μ1, rs, cr, e1, fun v H1 π1 r1 m1 c1 => ⟨.ref p, s1, ρ, μ1, π1, .int n, μ2, rs.mv cr.ok m1, c1, e2, fun u H2 π2 r2 m2 c2 => ?_⟩⟩
      cases r2
      have mm := m1.trans m2
      have hp1 := mm.keep _ _ s2 (cr.ok.notLst s2)
      refine ⟨p, vs, n, jj, rfl, rfl, hp1, by rw [← s4.length]; exact hj, ?_⟩
      exact q σ _ π2 ((rs.mv cr.ok mm).own_set hg s1 hp1 s3 (Rps.set (r1.mv c1.ok m2) jj (s4.mv cr.ok mm))) (c2.un hp1) ((Wy.of m0 cr.ok mm).un s3 hp1)
    · exact q.elim
  · exact q.elim
theorem st_ife {c : E} {t e : Ss} {x : Expr} {ys zs : List Stmt} {pos : Pos} (o : Bo X nm P Γ cl fa gl df j N sc) (hx : chk nm P gl N sc c x = true) (hy : PSs X ys (LS X.K cl H0 π0 (exss P Γ t))) (hz : PSs X zs (LS X.K cl H0 π0 (exss P Γ e))) :
    PS X (.If x ys zs pos) (LS X.K cl H0 π0 (exs P Γ (.ife c t e))) := by
  refine PS.of (ps_if (o.chk (H0 := H0) hx).pt hy hz) fun D σ H ⟨ρ, μ, π, rs, cr, m0, q⟩ => ?_
  simp only [exs] at q
  obtain ⟨d, μ1, e1, q⟩ := so_bind q
  cases d with
  | bl b =>
    refine ⟨ρ, μ, π, b, μ1, rs, cr, e1, fun H1 π1 m1 c1 => ?_⟩
    cases b with
    | true => exact iteT ⟨ρ, μ1, π1, rs.mv cr.ok m1, c1, m0.trans m1, q.from (.of m0 cr.ok m1)⟩
    | false => exact iteF ⟨ρ, μ1, π1, rs.mv cr.ok m1, c1, m0.trans m1, q.from (.of m0 cr.ok m1)⟩
  | _ => exact q.elim
theorem st_ret {e : E} {x : Expr} {pos : Pos} (o : Bo X nm P Γ cl fa gl df j N sc) (hx : chk nm P gl N sc e x = true) : PS X (.Return (some x) pos) (LS X.K cl H0 π0 (exs P Γ (.ret e))) := by
  refine PS.of (ps_ret (o.chk (H0 := H0) hx).pe) fun D σ H ⟨ρ, μ, π, rs, cr, m0, q⟩ => ?_
  simp only [exs] at q
  obtain ⟨d, μ1, e1, q⟩ := so_bind q
  exact ⟨ρ, μ, π, d, μ1, rs, cr, e1, fun v H1 π1 r1 m1 c1 => q v H1 π1 r1 c1 (.of m0 cr.ok m1)⟩
theorem st_exp {e : E} {x : Expr} {pos : Pos} (o : Bo X nm P Γ cl fa gl df j N sc) (hc : notComp x = true) (hx : chk nm P gl N sc e x = true) : PS X (.Expr x pos) (LS X.K cl H0 π0 (exs P Γ (.exp e))) := by
  refine PS.of (ps_expr (o.chk (H0 := H0) hx).pe (sw_no hc)) fun D σ H ⟨ρ, μ, π, rs, cr, m0, q⟩ => ?_
  simp only [exs] at q
  obtain ⟨d, μ1, e1, q⟩ := so_bind q
  exact ⟨ρ, μ, π, d, μ1, rs, cr, e1, fun v H1 π1 r1 m1 c1 => q σ H1 π1 (rs.mv cr.ok m1) c1 (.of m0 cr.ok m1)⟩
theorem st_retN {pos : Pos} : PS X (.Return none pos) (LS X.K cl H0 π0 (exs P Γ .retN)) :=
  PS.of ps_retN fun D σ H ⟨ρ, μ, π, rs, cr, m0, q⟩ => q _ H π .non cr (.of m0 cr.ok (Mv.refl cr.ok))
theorem st_brk {pos : Pos} : PS X (.Break pos) (LS X.K cl H0 π0 (exs P Γ .brk)) :=
  PS.of ps_break fun D σ H ⟨ρ, μ, π, rs, cr, m0, q⟩ => q σ H π rs cr (.of m0 cr.ok (Mv.refl cr.ok))
theorem st_cnt {pos : Pos} : PS X (.Continue pos) (LS X.K cl H0 π0 (exs P Γ .cnt)) :=
  PS.of ps_continue fun D σ H ⟨ρ, μ, π, rs, cr, m0, q⟩ => q σ H π rs cr (.of m0 cr.ok (Mv.refl cr.ok))
theorem st_pas {pos : Pos} : PS X (.Pass pos) (LS X.K cl H0 π0 (exs P Γ .pas)) :=
  PS.of ps_pass fun D σ H ⟨ρ, μ, π, rs, cr, m0, q⟩ => q σ H π rs cr (.of m0 cr.ok (Mv.refl cr.ok))
theorem st_doc {x : Str} {k : Nat} {p2 pos : Pos} : PS X (.Expr (.Constant (.str x) k p2) pos) (LS X.K cl H0 π0 (exs P Γ .pas)) :=
  PS.of ps_doc fun D σ H ⟨ρ, μ, π, rs, cr, m0, q⟩ => q σ H π rs cr (.of m0 cr.ok (Mv.refl cr.ok))
theorem st_never {st : Stmt} : PS X st (LS X.K cl H0 π0 (exs P Γ .never)) :=
  PS.of ps_never fun D σ H ⟨ρ, μ, π, rs, cr, m0, q⟩ => q
theorem ss_nil : PSs X [] (LS X.K cl H0 π0 (exss P Γ .nil)) :=
  PSs.of pss_nil fun D σ H ⟨ρ, μ, π, rs, cr, m0, q⟩ => q σ H π rs cr (.of m0 cr.ok (Mv.refl cr.ok))
theorem ss_cons {s : S} {ss : Ss} {st : Stmt} {sts : List Stmt} (h : PS X st (LS X.K cl H0 π0 (exs P Γ s))) (hr : PSs X sts (LS X.K cl H0 π0 (exss P Γ ss))) : PSs X (st :: sts) (LS X.K cl H0 π0 (exss P Γ (.cons s ss))) := by
  refine PSs.of (pss_cons h hr) fun D σ H ⟨ρ, μ, π, rs, cr, m0, q⟩ => ⟨ρ, μ, π, rs, cr, m0, ?_⟩
  simp only [exss] at q
  cases e : exs P Γ s ρ μ with
  | nx ρ1 μ1 =>
    rw [e] at q
    exact fun σ1 H1 π1 rs1 c1 m1 => ⟨ρ1, μ1, π1, rs1, c1, m1.mv, q.from m1⟩
  | ret d μ1 => rw [e] at q; exact q
  | brk ρ1 μ1 => rw [e] at q; exact q
  | cnt ρ1 μ1 => rw [e] at q; exact q
  | err x μ1 => rw [e] at q; exact q
  | bad => rw [e] at q; exact q
theorem ss_frz {i : Nat} {ss : Ss} {sts : List Stmt} (hr : PSs X sts (LS X.K cl H0 π0 (exss P Γ ss))) : PSs X sts (LS X.K cl H0 π0 (exss P Γ (.cons (.frz i) ss))) := by
  refine ⟨fun pins s σ H D I ⟨ρ, μ, π, rs, cr, m0, q⟩ => ?_⟩
  simp only [exss, exs] at q
  split at q
  · rename_i l hg
    obtain ⟨p, vs, s1, s2, s3, s4⟩ := rs.own i l hg
    obtain ⟨ob, I2⟩ := freeze I s2
    exact hr.run pins s σ _ D I2 ⟨_, μ, π, rs.frz (o := ob) hg s1 s2 s4, cr.un s2, m0.un s3 s2, q.from ((Wy.of m0 cr.ok (Mv.refl cr.ok)).un s3 s2)⟩
  · exact q.elim
end
end Vw
set_option Elab.async false
set_option linter.all false
set_option maxRecDepth 100000
set_option maxHeartbeats 4000000
namespace Vw
open PySem PySem.Spec L2
section
variable {X : Cx} {nm : Nm} {P : Pr} {Γ : Gam} {cl : Cls0} {fa : Fa} {gl df : Nat → Bool} {j : Nat} {H0 : Hp} {π0 : List Addr} {N : List Str} {sc : Scope}
theorem st_whl {c : E} {b : Ss} {x : Expr} {ys : List Stmt} {pos : Pos} (o : Bo X nm P Γ cl fa gl df j N sc) (hx : chk nm P gl N sc c x = true) (hy : PSs X ys (LS X.K cl H0 π0 (exss P Γ b))) :
    PS X (.While x ys [] pos) (LS X.K cl H0 π0 (exs P Γ (.whl c b))) := by
  refine PS.of (ps_while o.p (o.chk (H0 := H0) hx).pt hy) fun D σ H ⟨ρ, μ, π, rs, cr, m0, q⟩ => ?_
  simp only [exs] at q
  refine ⟨fun m σ' H' => ∃ ρ μ π', RelS X.K cl H0 ρ σ' H' π' ∧ CR X.K cl H' π' μ ∧ Wy H0 π0 H π H' π' ∧ Dst X.K cl H0 π0 H π D (whlgo (ev P Γ c) (exss P Γ b) m ρ μ), ⟨fuel, ρ, μ, π, rs, cr, .of m0 cr.ok (Mv.refl cr.ok), q⟩, ?_⟩
  rintro m σ1 H1 ⟨ρ1, μ1, π1, rs1, cr1, w1, q1⟩
  cases m with
  | zero => exact q1.elim
  | succ n =>
    unfold whlgo at q1
    obtain ⟨d, μ2, e2, q1⟩ := so_bind q1
    cases d with
    | bl kk =>
      refine ⟨ρ1, μ1, π1, kk, μ2, rs1, cr1, e2, fun H2 π2 m2 c2 => ?_⟩
      have rs2 := rs1.mv cr1.ok m2
      have w2 : Wy H0 π0 H π H2 π2 := w1.trans (.of w1.mv cr1.ok m2)
      cases kk with
      | true =>
        refine iteT ⟨fun σ' H' => ∃ ρ μ π', RelS X.K cl H0 ρ σ' H' π' ∧ CR X.K cl H' π' μ ∧ Wy H0 π0 H π H' π' ∧ Dst X.K cl H0 π0 H π D (whlgo (ev P Γ c) (exss P Γ b) n ρ μ), fun σ' H' z => ⟨n, Nat.lt_succ_self n, z⟩, ρ1, μ2, π2, rs2, c2, w2.mv, ?_⟩
        simp only at q1
        cases e : exss P Γ b ρ1 μ2 with
        | nx ρ3 μ3 =>
          rw [e] at q1
          exact fun σ3 H3 π3 rs3 c3 w3 => ⟨ρ3, μ3, π3, rs3, c3, w2.trans w3, q1⟩
        | cnt ρ3 μ3 =>
          rw [e] at q1
          exact fun σ3 H3 π3 rs3 c3 w3 => ⟨ρ3, μ3, π3, rs3, c3, w2.trans w3, q1⟩
        | brk ρ3 μ3 =>
          rw [e] at q1
          exact fun σ3 H3 π3 rs3 c3 w3 => q1 σ3 H3 π3 rs3 c3 (w2.trans w3)
        | ret d μ3 =>
          rw [e] at q1
          exact fun v H3 π3 rv c3 w3 => q1 v H3 π3 rv c3 (w2.trans w3)
        | err x μ3 => rw [e] at q1; exact q1
        | bad => rw [e] at q1; exact q1
      | false => exact iteF (q1 σ1 H2 π2 rs2 c2 w2)
    | _ => exact q1.elim
theorem st_for {t : Tg} {it : It} {b : Ss} {tg x : Expr} {ys : List Stmt} {pos : Pos} (o : Bo X nm P Γ cl fa gl df j N sc) (hx : chki nm P gl N sc it tg x = true) (ht : chkT N sc (fun _ => true) t tg = true) (hy : PSs X ys (LS X.K cl H0 π0 (exss P Γ b))) :
    PS X (.For tg x ys [] pos) (LS X.K cl H0 π0 (exs P Γ (.for t it b))) := by
  obtain ⟨hi, hf⟩ := chki_ok (H0 := H0) o.n o.s o.d o.b hx
  refine PS.of (ps_for o.p o.b.calm hi (pg_of (H0 := H0) (cl := cl) (t := t) o.n o.s o.f o.b.calm o.d ht) hy (hf _)) fun D σ H ⟨ρ, μ, π, rs, cr, m0, q⟩ => ?_
  simp only [exs] at q
  obtain ⟨items, μ1, e1, q⟩ := so_bind q
  generalize hF : (fun (d : Vw.D) (ρ : Rho) (μ : Mu) => match tgo t d ρ with | some ρ1 => exss P Γ b ρ1 μ | none => .bad) = F at q
  refine ⟨ρ, μ, π, items, μ1, rs, cr, e1, fun J H1 π1 y m1 c1 => ?_⟩
  have w1 : Wy H0 π0 H π H1 π1 := .of m0 cr.ok m1
  refine ⟨fun i m σ' H' => m = items.length - i ∧ i ≤ items.length ∧ ∃ ρ μ π', RelS X.K cl H0 ρ σ' H' π' ∧ CR X.K cl H' π' μ ∧ Wy H0 π0 H1 π1 H' π' ∧ Dst X.K cl H0 π0 H π D (forgo F (items.drop i) ρ μ),
    ⟨items.length, rfl, Nat.zero_le _, ρ, μ1, π1, rs.mv cr.ok m1, c1, .of w1.mv c1.ok (Mv.refl c1.ok), q⟩, ?_⟩
  rintro i m σ2 H2 ⟨rfl, hi, ρ2, μ2, π2, rs2, c2, w2, q2⟩
  have Y := y H2 π2 w2.st w2.at_ c2.ok
  by_cases hlt : i < items.length
  · right
    obtain ⟨g1, g2⟩ := Y.1 i items[i] (by simp [hlt])
    rw [List.drop_eq_getElem_cons hlt] at q2
    unfold forgo at q2
    refine ⟨g1, fun σ' H' => ∃ ρ μ π', RelS X.K cl H0 ρ σ' H' π' ∧ CR X.K cl H' π' μ ∧ Wy H0 π0 H1 π1 H' π' ∧ Dst X.K cl H0 π0 H π D (forgo F (items.drop (i + 1)) ρ μ), fun σ' H' z => ⟨items.length - (i + 1), by omega, rfl, hlt, z⟩, fun v H3 hy => ?_⟩
    obtain ⟨rv, nw⟩ := g2 v H3 hy
    have m3 : Mv H2 π2 H3 π2 := nw.mv c2.ok
    have c3 := nw.cr c2
    have w3 : Wy H0 π0 H1 π1 H3 π2 := w2.trans (.of w2.mv c2.ok m3)
    cases hq : tgo t items[i] ρ2 with
    | none =>
      rw [← hF] at q2
      simp only [hq] at q2
      exact q2.elim
    | some ρ3 =>
      refine ⟨ρ2, π2, items[i], ρ3, rs2.mv c2.ok m3, rv, hq, fun σ3 rs3 _ => ⟨ρ3, μ2, π2, rs3, c3, w3.mv, ?_⟩⟩
      have eF : F items[i] ρ2 μ2 = exss P Γ b ρ3 μ2 := by rw [← hF]; simp only [hq]
      rw [eF] at q2
      cases e : exss P Γ b ρ3 μ2 with
      | nx ρ4 μ4 =>
        rw [e] at q2
        exact fun σ4 H4 π4 rs4 c4 w4 => ⟨ρ4, μ4, π4, rs4, c4, w3.trans w4, q2⟩
      | cnt ρ4 μ4 =>
        rw [e] at q2
        exact fun σ4 H4 π4 rs4 c4 w4 => ⟨ρ4, μ4, π4, rs4, c4, w3.trans w4, q2⟩
      | brk ρ4 μ4 =>
        rw [e] at q2
        exact fun σ4 H4 π4 rs4 c4 w4 => q2 σ4 H4 π4 rs4 c4 (w1.trans (w3.trans w4))
      | ret d μ4 =>
        rw [e] at q2
        exact fun v H4 π4 rv c4 w4 => q2 v H4 π4 rv c4 (w1.trans (w3.trans w4))
      | err x μ4 => rw [e] at q2; exact q2
      | bad => rw [e] at q2; exact q2
  · left
    have ei : i = items.length := by omega
    subst ei
    rw [List.drop_length] at q2
    exact ⟨Y.2, q2 σ2 H2 π2 rs2 c2 (w1.trans w2)⟩
end
end Vw
set_option Elab.async false
set_option linter.all false
set_option maxRecDepth 100000
set_option maxHeartbeats 4000000
namespace Vw
open PySem PySem.Spec L2
section
variable {K : PySem.W.Frag} {cl : Cls0} {H : Hp} {π : List Addr}
theorem rps_put {key : Str} {d : D} {v : V} (r : Rp K cl H π d v) : ∀ {kvs : Cel} {kv : List (Key × V)}, kv.map (·.1) = kvs.map (fun p => (Sum.inr p.1 : Key)) → Rps K cl H π (kvs.map (·.2)) (kv.map (·.2)) →
    (kv.map fun p => if p.1 = (Sum.inr key : Key) then (p.1, v) else p).map (·.1) = (kvs.map fun p => if p.1 = key then (key, d) else p).map (fun p => (Sum.inr p.1 : Key)) ∧ Rps K cl H π ((kvs.map fun p => if p.1 = key then (key, d) else p).map (·.2)) ((kv.map fun p => if p.1 = (Sum.inr key : Key) then (p.1, v) else p).map (·.2)) ∧
    (kvs.map fun p => if p.1 = key then (key, d) else p).map (·.1) = kvs.map (·.1)
  | [], [], _, _ => ⟨rfl, .nil, rfl⟩
  | [], _ :: _, h, _ => by cases h
  | _ :: _, [], h, _ => by cases h
  | p :: ps, q :: qs, h, hr => by
    simp only [List.map_cons, List.cons.injEq] at h
    simp only [List.map_cons] at hr
    cases hr with
    | cons ra rr =>
      obtain ⟨i1, i2, i3⟩ := rps_put r h.2 rr
      by_cases e : p.1 = key
      · have e' : q.1 = (Sum.inr key : Key) := by rw [h.1, e]
        simp only [List.map_cons, if_pos e, if_pos e']
        exact ⟨by rw [i1, e'], .cons r i2, by rw [i3, e]⟩
      · have e' : ¬ q.1 = (Sum.inr key : Key) := fun z => e (Sum.inr.inj (h.1.symm.trans z))
        simp only [List.map_cons, if_neg e, if_neg e']
        exact ⟨by rw [i1, h.1], .cons ra i2, by rw [i3]⟩
theorem any_put {key : Str} : ∀ {kvs : Cel} {kv : List (Key × V)}, kv.map (·.1) = kvs.map (fun p => (Sum.inr p.1 : Key)) → (kvs.lookup key).isSome = true → (kv.any fun p => decide (p.1 = (Sum.inr key : Key))) = true
  | [], _, _, h => by cases h
  | _ :: _, [], h, _ => by cases h
  | p :: ps, q :: qs, h, hs => by
    simp only [List.map_cons, List.cons.injEq] at h
    rw [List.any_cons]
    rw [List.lookup_cons] at hs
    by_cases e : key = p.1
    · have e' : q.1 = (Sum.inr key : Key) := by rw [h.1, e]
      rw [decide_eq_true e']; rfl
    · rw [beq_eq_false_iff_ne.mpr e] at hs
      rw [any_put h.2 hs, Bool.or_true]
theorem CR.put {μ : Mu} {k : Nat} {kvs kvs' : Cel} {a : Addr} {kv : List (Key × V)} {key : Str} {d : D} {v : V} (c : CR K cl H π μ) (hk : μ[k]? = some kvs) (ha : π[k]? = some a) (hH : H a = some (.dK kv)) (hq : dset kvs key d = some kvs') (r : Rp K cl H π d v) :
    kv.length < sizeLine ∧ CR K cl (upd H a (.dK (putK kv (Sum.inr key) v))) π (μ.set k kvs') := by
  obtain ⟨a', kv', z1, z2, z3, z4, z5⟩ := c.at_ k kvs hk
  rw [ha] at z1; cases z1
  rw [hH] at z2; cases z2
  unfold dset at hq
  split at hq
  · rename_i hs
    cases hq
    have hlen : kv.length = kvs.length := by simpa using congrArg List.length z3
    refine ⟨by rw [hlen, PySem.sizeLine_eq]; omega, ?_⟩
    have hp : putK kv (Sum.inr key : Key) v = kv.map fun p => if p.1 = (Sum.inr key : Key) then (p.1, v) else p := by
      unfold putK
      rw [if_pos (any_put z3 hs.1)]
    have st : Ste H (upd H a (.dK (putK kv (Sum.inr key) v))) := Ste.dK hH
    obtain ⟨i1, i2, i3⟩ := rps_put r z3 z5
    have hkl : k < π.length := (List.getElem?_eq_some_iff.mp ha).1
    refine ⟨by rw [List.length_set]; exact c.len, c.nd, fun b m => ?_, fun n kvs2 e => ?_⟩
    · by_cases hb : b = a
      · subst hb; exact ⟨_, upd_same⟩
      · obtain ⟨w, e⟩ := c.ok b m
        exact ⟨w, by rw [upd_ne hb]; exact e⟩
    · by_cases hn : n = k
      · subst hn
        rw [List.getElem?_set_self (by rw [← c.len]; exact hkl)] at e
        cases e
        refine ⟨a, _, ha, upd_same, ?_, ?_, ?_⟩
        · rw [hp]; exact i1
        · rw [i3]; exact z4
        · rw [hp]; exact i2.st (by rw [← hp]; exact st) fun _ _ q => q
      · rw [List.getElem?_set_ne (Ne.symm hn)] at e
        obtain ⟨b, w, y1, y2, y3, y4, y5⟩ := c.at_ n kvs2 e
        have hb : b ≠ a := fun z => by
          subst z
          exact hn ((List.getElem?_inj (List.getElem?_eq_some_iff.mp y1).1 c.nd).mp (y1.trans ha.symm))
        exact ⟨b, w, y1, by rw [upd_ne hb]; exact y2, y3, y4, y5.st st fun _ _ q => q⟩
  · cases hq
end
section
variable {X : Cx} {nm : Nm} {P : Pr} {Γ : Gam} {cl : Cls0} {fa : Fa} {gl df : Nat → Bool} {j : Nat} {H0 : Hp} {π0 : List Addr} {N : List Str} {sc : Scope}
theorem RelS.ste {K : PySem.W.Frag} {H H1 : Hp} {π : List Addr} {ρ : Rho} {σ : L2.St} (r : RelS K cl H0 ρ σ H π) (m : Ste H H1) (hl : ∀ p vs, H p = some (.lst vs) → H1 p = some (.lst vs)) : RelS K cl H0 ρ σ H1 π := by
  refine ⟨r.len, fun i d e => ?_, fun i l e => ?_, r.sep⟩
  · obtain ⟨v, h1, h2⟩ := r.val i d e
    exact ⟨v, h1, h2.st m fun _ _ q => q⟩
  · obtain ⟨q, vs, h1, h2, h3, h4⟩ := r.own i l e
    exact ⟨q, vs, h1, hl q vs h2, h3, h4.st m fun _ _ q => q⟩
theorem st_dput {ob e : E} {key : Str} {x z : Expr} {k2 : Nat} {p2 tpos pos : Pos} (o : Bo X nm P Γ cl fa gl df j N sc) (hc : notComp z = true) (hx : chk nm P gl N sc ob x = true) (hz : chk nm P gl N sc e z = true) :
    PS X (.Assign [.Subscript x (.Constant (.str key) k2 p2) tpos] z pos) (LS X.K cl H0 π0 (exs P Γ (.dput ob key e))) := by
  refine PS.of (ps_dput (hu_of o.b.room) (o.chk (H0 := H0) hx).pe pe_str (o.chk (H0 := H0) hz).pe (sw_no hc)) fun D σ H ⟨ρ, μ, π, rs, cr, m0, q⟩ => ?_
  simp only [exs] at q
  obtain ⟨d, μ1, e1, q⟩ := so_bind q
  obtain ⟨d2, μ2, e2, q⟩ := so_bind q
  refine ⟨ρ, μ, π, d, μ1, rs, cr, e1, fun v H1 π1 r1 m1 c1 => ⟨ρ, μ1, π1, d2, μ2, rs.mv cr.ok m1, c1, e2, fun u H2 π2 r2 m2 c2 => ?_⟩⟩
  cases r2 with
  | @cel n a hn =>
    simp only at q
    split at q
    · rename_i kvs q1
      split at q
      · rename_i kvs' q2
        obtain ⟨a', kv, z1, z2, z3⟩ := c2.at_ n kvs q1
        rw [hn] at z1
        cases z1
        have r1' := r1.mv c1.ok m2
        obtain ⟨y1, y2⟩ := c2.put q1 hn z2 q2 r1'
        have mm := m1.trans m2
        have w := Wy.of m0 cr.ok mm
        have st : Ste H2 (upd H2 a (.dK (putK kv (Sum.inr key) v))) := Ste.dK z2
        have nl : ∀ p vs, H2 p = some (.lst vs) → upd H2 a (.dK (putK kv (Sum.inr key) v)) p = some (.lst vs) := fun p vs h => by
          rw [upd_ne (fun e => by rw [e, z2] at h; cases h)]; exact h
        refine ⟨a, _, rfl, DPut.k (k := Sum.inr key) z2 y1, q σ _ π2 ((rs.mv cr.ok mm).ste st nl) y2 ⟨⟨w.mv.ext, fun b ob hb hp => ?_, y2.ok⟩, w.st.trans st, w.at_⟩⟩
        have hb2 := w.mv.keep b ob hb hp
        have hba : b ≠ a := fun z => by
          subst z
          obtain ⟨ex, ee, en⟩ := w.mv.ext
          have hm : b ∈ π2 := List.mem_of_getElem? hn
          rw [ee] at hm
          rcases List.mem_append.mp hm with hm | hm
          · exact hp hm
          · rw [en b hm] at hb; cases hb
        rw [upd_ne hba]; exact hb2
      · exact q.elim
    · exact q.elim
  | _ => exact q.elim
theorem st_parO {i k : Nat} {a b : E} {x y : Str} {px py pt p2 pos : Pos} {kt k2 : Nat} {v w : Expr} (o : Bo X nm P Γ cl fa gl df j N sc) (hi : N[i]? = some x) (hj : N[k]? = some y) (hij : i ≠ k) (hk : funB sc = true) (hx : sc.names.lookup x = some .local) (hy : sc.names.lookup y = some .local)
    (hl : (py.line == px.line) = true) (hxy : (x == y) = false) (hv : plainX v = true) (hw : plainX w = true) (h1 : [v, w].all (foldedForSure 8) = false) (h2 : [v, w].all (constantsAlone 8) = false) (ha : chk nm P gl N sc a v = true) (hb : chk nm P gl N sc b w = true) (hr : isRaw b = true) :
    PS X (.Assign [.Tuple [.Name x px, .Name y py] kt pt] (.Tuple [v, w] k2 p2) pos) (LS X.K cl H0 π0 (exs P Γ (.par i k a b false true))) := by
  have oo := o
  obtain ⟨hN, hs, hd, B, _, _⟩ := o
  subst hN hs
  refine PS.of (ps_par (i := i) (j := k) B.calm hd hi hj hij hx hy (pa_cons (oo.chk (H0 := H0) ha).pe (pa_cons (oo.raw (H0 := H0) hb hr) pa_nil (star_cons hw)) (star_cons hv)) (sw_par (fun_of hk) hx hy hl hxy hv hw h1 h2)) fun D σ H ⟨ρ, μ, π, rs, cr, m0, q⟩ => ?_
  simp only [exs] at q
  obtain ⟨d1, μ1, e1, q⟩ := so_bind q
  obtain ⟨d2, μ2, e2, q⟩ := so_bind q
  obtain ⟨l, rfl⟩ := raw_isl hr _ _ _ _ e2
  refine ⟨ρ, μ, π, d1, μ1, rs, cr, e1, fun v1 H1 π1 r1 m1 c1 => ⟨ρ, μ1, π1, l, μ2, rs.mv cr.ok m1, c1, e2, fun p vs H2 π2 g1 g2 r2 m2 c2 => ?_⟩⟩
  refine ⟨_, _, rfl, q _ H2 π2 ?_ c2 (.of m0 cr.ok (m1.trans m2))⟩
  exact ((rs.mv cr.ok m1).store i r1).setO c1.ok m2 g2 ((m0.trans m1).none g2) g1 r2
theorem sw_sub {x y i1 i2 : Expr} {q1 q2 pt p2 : Pos} {kt k2 : Nat} {v w : Expr} {env : Env} : swappedStores [.Tuple [.Subscript x i1 q1, .Subscript y i2 q2] kt pt] (.Tuple [v, w] k2 p2) env = pure none := by
  unfold swappedStores
  split
  · rename_i q
    cases q
    split
    · rfl
    · split
      · rfl
      · dsimp only
        rw [if_pos (by simp)]
  · rename_i q
    exact (q _ _ rfl).elim
theorem put_cell {K : PySem.W.Frag} {H : Hp} {π : List Addr} {ρ : Rho} {σ : L2.St} {μ : Mu} {n a : Nat} {kvs kvs' : Cel} {key : Str} {d : Vw.D} {v : V} (rs : RelS K cl H0 ρ σ H π) (c : CR K cl H π μ) (m0 : Mv H0 π0 H π) (hn : π[n]? = some a) (q1 : μ[n]? = some kvs) (q2 : dset kvs key d = some kvs') (r : Rp K cl H π d v) :
    ∃ H', DPut H a (.str key) v H' ∧ RelS K cl H0 ρ σ H' π ∧ CR K cl H' π (μ.set n kvs') ∧ Wy H0 π0 H π H' π := by
  obtain ⟨a', kv, z1, z2, z3⟩ := c.at_ n kvs q1
  rw [hn] at z1
  cases z1
  obtain ⟨y1, y2⟩ := c.put q1 hn z2 q2 r
  have st : Ste H (upd H a (.dK (putK kv (Sum.inr key) v))) := Ste.dK z2
  have nl : ∀ p vs, H p = some (.lst vs) → upd H a (.dK (putK kv (Sum.inr key) v)) p = some (.lst vs) := fun p vs h => by
    rw [upd_ne (fun e => by rw [e, z2] at h; cases h)]; exact h
  refine ⟨_, DPut.k (k := Sum.inr key) z2 y1, rs.ste st nl, y2, ⟨⟨m0.ext, fun b ob hb hp => ?_, y2.ok⟩, st, fun k x q => q⟩⟩
  have hb2 := m0.keep b ob hb hp
  have hba : b ≠ a := fun z => by
    subst z
    obtain ⟨ex, ee, en⟩ := m0.ext
    have hm : b ∈ π := List.mem_of_getElem? hn
    rw [ee] at hm
    rcases List.mem_append.mp hm with hm | hm
    · exact hp hm
    · rw [en b hm] at hb; cases hb
  rw [upd_ne hba]; exact hb2
theorem st_dput2 {o1 o2 e1 e2 : E} {k1 k2 : Str} {x y v w : Expr} {c1 c2 kt kv : Nat} {a1 a2 b1 b2 pt pv pos : Pos} (o : Bo X nm P Γ cl fa gl df j N sc) (hx : chk nm P gl N sc o1 x = true) (hy : chk nm P gl N sc o2 y = true) (pv1 : plainX v = true) (pw1 : plainX w = true) (hv : chk nm P gl N sc e1 v = true) (hw : chk nm P gl N sc e2 w = true) :
    PS X (.Assign [.Tuple [.Subscript x (.Constant (.str k1) c1 a1) b1, .Subscript y (.Constant (.str k2) c2 a2) b2] kt pt] (.Tuple [v, w] kv pv) pos) (LS X.K cl H0 π0 (exs P Γ (.dput2 o1 k1 o2 k2 e1 e2))) := by
  have hu := hu_of o.b.room
  have pe : Snd X cl H0 (.Tuple [v, w] kv pv) (ev P Γ (.tup (.cons e1 (.cons e2 .nil)))) := snd_tup (pa_more pv1 (o.chk hv) (pa_more pw1 (o.chk hw) pa_none))
  refine PS.of (ps_asg pe.pe (pg_tup o.b.calm (pgs_cons (pg_sub (o.chk (H0 := H0) hx).pe pe_str (set_dict hu)) (pgs_cons (pg_sub (o.chk (H0 := H0) hy).pe pe_str (set_dict hu)) pgs_nil))) rfl sw_sub rfl) fun D σ H ⟨ρ, μ, π, rs, cr, m0, q⟩ => ?_
  simp only [exs] at q
  obtain ⟨d1, μ1, q1, q⟩ := so_bind q
  obtain ⟨d2, μ2, q2, q⟩ := so_bind q
  obtain ⟨t1, μ3, q3, q⟩ := so_bind q
  have et : ev P Γ (.tup (.cons e1 (.cons e2 .nil))) ρ μ = .ok (.tup [d1, d2]) μ2 := by
    simp only [ev, evs, q1, q2, Out.bind_ok]
    unfold lenOk
    rw [if_pos (by show 2 ≤ 16777216; decide)]
  refine ⟨ρ, μ, π, _, μ2, rs, cr, et, fun u H1 π1 r1 m1 k1' => ?_⟩
  cases r1 with
  | tup hq hr =>
  cases hr with
  | cons ra hr =>
  cases hr with
  | cons rb hr =>
  cases hr
  refine ⟨_, _, rfl, hq, rfl, _, _, rfl, ρ, μ2, π1, t1, μ3, rs.mv cr.ok m1, k1', q3, fun u2 H2 π2 r2 m2 c2 => ?_⟩
  have m3 := m1.trans m2
  cases r2 with
  | @cel n a hn =>
    simp only at q
    split at q
    · rename_i kvs g1
      split at q
      · rename_i kvs' g2
        obtain ⟨H3, p1, p2, p3, p4⟩ := put_cell (rs.mv cr.ok m3) c2 (m0.trans m3) hn g1 g2 (ra.mv k1'.ok m2)
        obtain ⟨t2, μ4, q4, q⟩ := so_bind q
        refine ⟨a, H3, rfl, p1, _, _, rfl, ρ, _, π2, t2, μ4, p2, p3, q4, fun u4 H4 π4 r4 m4 c4 => ?_⟩
        cases r4 with
        | @cel n2 a2' hn2 =>
          simp only at q
          split at q
          · rename_i kvs2 g3
            split at q
            · rename_i kvs2' g4
              have w4 : Wy H0 π0 H π H4 π4 := ((Wy.of m0 cr.ok m3).trans p4).trans (.of p4.mv p3.ok m4)
              obtain ⟨H5, s1, s2, s3, s4⟩ := put_cell (p2.mv p3.ok m4) c4 w4.mv hn2 g3 g4 (((rb.mv k1'.ok m2).st p4.st p4.at_).mv p3.ok m4)
              exact ⟨a2', H5, rfl, s1, rfl, q σ H5 π4 s2 s3 (w4.trans s4)⟩
            · exact q.elim
          · exact q.elim
        | _ => exact q.elim
      · exact q.elim
    · exact q.elim
  | _ => exact q.elim
theorem chkS_step {n : Nat} (o : Bo X nm P Γ cl fa gl df j N sc) (hS : ∀ (ss : Ss) (sts : List Stmt), sizeOf ss < n → chkSs nm P gl N sc ss sts = true → PSs X sts (LS X.K cl H0 π0 (exss P Γ ss))) (s : S) (st : Stmt) (hz : sizeOf s < n + 1) (h : chkS nm P gl N sc s st = true) :
    PS X st (LS X.K cl H0 π0 (exs P Γ s)) := by
  unfold chkS at h
  split at h
  · rename_i i e y py x pos
    simp only [Bool.and_eq_true, Bool.or_eq_true] at h
    rcases h.2 with q | q
    · exact st_set o h.1.1 h.1.2 q
    · exact st_setC o h.1.1 h.1.2 q.1 q.2
  · rename_i i e y py x pos
    simp only [Bool.and_eq_true, Bool.or_eq_true] at h
    rcases h.2 with q | q
    · exact st_bld o h.1.1.1 h.1.1.2 h.1.2 q
    · refine st_bldC o h.1.1.1 h.1.1.2 ?_ q
      have hr := h.1.2
      have hx := h.1.1.2
      cases e with
      | lc => rfl
      | lst es =>
        exfalso
        cases x <;> first | (cases q; done) | skip
        cases hx
      | _ => cases hr
  · rename_i i k a b x px y py kt pt v w k2 p2 pos
    simp only [Bool.and_eq_true, Bool.not_eq_true', decide_eq_true_eq] at h
    obtain ⟨⟨⟨⟨⟨⟨⟨⟨⟨⟨⟨⟨⟨h1, h2⟩, h3⟩, h4⟩, h5⟩, h6⟩, h7⟩, h8⟩, h9⟩, h10⟩, h11⟩, h12⟩, h13⟩, h14⟩ := h
    exact st_par o h1 h2 h3 h4 h5 h6 h7 h8 h9 h10 h11 h12 h13 h14
  · rename_i i k a b x px y py kt pt v w k2 p2 pos
    simp only [Bool.and_eq_true, Bool.not_eq_true', decide_eq_true_eq] at h
    obtain ⟨⟨⟨⟨⟨⟨⟨⟨⟨⟨⟨⟨⟨⟨h1, h2⟩, h3⟩, h4⟩, h5⟩, h6⟩, h7⟩, h8⟩, h9⟩, h10⟩, h11⟩, h12⟩, h13⟩, h14⟩, h15⟩ := h
    exact st_parO o h1 h2 h3 h4 h5 h6 h7 h8 h9 h10 h11 h12 h13 h14 h15
  · rename_i o1 k1 o2 k2 e1 e2 x a1 c1 i1 b1 y a2 c2 i2 b2 kt pt v w kv pv pos
    simp only [Bool.and_eq_true, decide_eq_true_eq] at h
    obtain ⟨⟨⟨⟨⟨⟨⟨rfl, rfl⟩, h3⟩, h4⟩, h5⟩, h6⟩, h7⟩, h8⟩ := h
    exact st_dput2 o h3 h4 h5 h6 h7 h8
  · rename_i is e xs kk tp x pos
    simp only [Bool.and_eq_true] at h
    exact st_un o h.1.1 h.1.2 h.2
  · rename_i i e x p2 nn apos y cpos pos
    simp only [Bool.and_eq_true, decide_eq_true_eq] at h
    obtain ⟨⟨⟨⟨rfl, h2⟩, h3⟩, h4⟩, h5⟩ := h
    exact st_app o h2 h3 h4 h5
  · rename_i i k e x p2 y tp z pos
    simp only [Bool.and_eq_true] at h
    exact st_put o h.1.1.1.1 h.1.1.1.2 h.1.1.2 h.1.2 h.2
  · rename_i ob key e x k k2 p2 tp z pos
    simp only [Bool.and_eq_true, decide_eq_true_eq] at h
    obtain ⟨⟨⟨rfl, h2⟩, h3⟩, h4⟩ := h
    exact st_dput o h2 h3 h4
  · rename_i c t e x y z pos
    simp only [Bool.and_eq_true] at h
    simp only [S.ife.sizeOf_spec] at hz
    exact st_ife o h.1.1 (hS t y (by omega) h.1.2) (hS e z (by omega) h.2)
  · rename_i c b x y pos
    simp only [Bool.and_eq_true] at h
    simp only [S.whl.sizeOf_spec] at hz
    exact st_whl o h.1 (hS b y (by omega) h.2)
  · rename_i t it b tg x y pos
    simp only [Bool.and_eq_true] at h
    simp only [S.for.sizeOf_spec] at hz
    exact st_for o h.1.1 h.1.2 (hS b y (by omega) h.2)
  · exact st_ret o h
  · exact st_retN
  · exact st_brk
  · exact st_cnt
  · exact st_pas
  · exact st_doc
  · rename_i e x pos
    simp only [Bool.and_eq_true] at h
    exact st_exp o h.1 h.2
  · exact st_never
  · cases h
theorem chkSs_step {n : Nat} (h1 : ∀ (s : S) (st : Stmt), sizeOf s < n → chkS nm P gl N sc s st = true → PS X st (LS X.K cl H0 π0 (exs P Γ s))) (hS : ∀ (ss : Ss) (sts : List Stmt), sizeOf ss < n → chkSs nm P gl N sc ss sts = true → PSs X sts (LS X.K cl H0 π0 (exss P Γ ss)))
    (ss : Ss) (sts : List Stmt) (hz : sizeOf ss < n + 1) (h : chkSs nm P gl N sc ss sts = true) : PSs X sts (LS X.K cl H0 π0 (exss P Γ ss)) := by
  unfold chkSs at h
  split at h
  · exact ss_nil
  · rename_i i ss
    simp only [Ss.cons.sizeOf_spec] at hz
    exact ss_frz (hS ss sts (by omega) h)
  · rename_i s ss st sts _
    rw [Bool.and_eq_true] at h
    simp only [Ss.cons.sizeOf_spec] at hz
    exact ss_cons (h1 s st (by omega) h.1) (hS ss sts (by omega) h.2)
  · cases h
theorem chk_all (o : Bo X nm P Γ cl fa gl df j N sc) : ∀ n : Nat, (∀ (s : S) (st : Stmt), sizeOf s < n → chkS nm P gl N sc s st = true → PS X st (LS X.K cl H0 π0 (exs P Γ s))) ∧ ∀ (ss : Ss) (sts : List Stmt), sizeOf ss < n → chkSs nm P gl N sc ss sts = true → PSs X sts (LS X.K cl H0 π0 (exss P Γ ss))
  | 0 => ⟨fun _ _ h => absurd h (Nat.not_lt_zero _), fun _ _ h => absurd h (Nat.not_lt_zero _)⟩
  | n + 1 => by
    obtain ⟨a, b⟩ := chk_all o n
    exact ⟨chkS_step o b, chkSs_step a b⟩
theorem chkSs_ok (o : Bo X nm P Γ cl fa gl df j N sc) {ss : Ss} {sts : List Stmt} (h : chkSs nm P gl N sc ss sts = true) : PSs X sts (LS X.K cl H0 π0 (exss P Γ ss)) := (chk_all o (sizeOf ss + 1)).2 ss sts (Nat.lt_succ_self _) h
end
end Vw
set_option Elab.async false
set_option linter.all false
set_option maxRecDepth 100000
set_option maxHeartbeats 4000000
namespace Vw
open PySem PySem.Spec L2
section
variable {K : PySem.W.Frag} {cl : Cls0} {H : Hp} {π : List Addr}
theorem get_at : ∀ {ρ : Rho} {i : Nat} {s : Sl}, Sl.get ρ i = s → s ≠ .und → ρ[i]? = some s
  | [], _, _, h, n => absurd h.symm n
  | _ :: _, 0, _, h, _ => by simpa [Sl.get] using h
  | _ :: r, i + 1, _, h, n => by simpa using get_at (ρ := r) (i := i) h n
theorem get_begins {ds : List D} {n i : Nat} {s : Sl} (h : Sl.get (ds.map Sl.val ++ List.replicate n .und) i = s) (hs : s ≠ .und) : ∃ d, s = .val d ∧ ds[i]? = some d := by
  have q := get_at h hs
  by_cases hi : i < ds.length
  · rw [List.getElem?_append_left (by simpa using hi), List.getElem?_map] at q
    cases e : ds[i]? with
    | none => rw [e] at q; cases q
    | some d => rw [e] at q; cases q; exact ⟨d, rfl, rfl⟩
  · rw [List.getElem?_append_right (by simpa using hi), List.getElem?_replicate] at q
    split at q
    · cases q; exact absurd rfl hs
    · cases q
theorem start_at {N : List Str} {vs : List V} {i : Nat} {v : V} (h : vs[i]? = some v) : (L2.start N vs)[i]? = some (some v) := by
  unfold L2.start
  have hi := (List.getElem?_eq_some_iff.mp h).1
  rw [List.getElem?_append_left (by simpa using hi), List.getElem?_map, h]; rfl
theorem RelS.start {N : List Str} {ds : List D} {vs : List V} (r : Rps K cl H π ds vs) (hl : vs.length ≤ N.length) : RelS K cl H (ds.map .val ++ List.replicate (N.length - ds.length) .und) (L2.start N vs) H π := by
  have e := r.length
  refine ⟨?_, fun i d h => ?_, fun i l h => ?_, fun i j l l' p hij h1 => ?_⟩
  · unfold L2.start
    simp only [List.length_append, List.length_map, List.length_replicate]
    omega
  · obtain ⟨d', e1, e2⟩ := get_begins h (by simp)
    cases e1
    obtain ⟨v, h1, h2⟩ := r.get e2
    exact ⟨v, start_at h1, h2⟩
  · obtain ⟨d', e1, e2⟩ := get_begins h (by simp)
    cases e1
  · obtain ⟨d', e1, e2⟩ := get_begins h1 (by simp)
    cases e1
structure DF (nm : Nm) (P : Pr) (gl : Nat → Bool) (fds : Nat → Option Fd) (fa : Fa) (K : PySem.W.Frag) (f : Nat) : Prop where
  ex : ∃ (x qual : Str) (st : Stmt) (N : List Str) (fd : Fd), fds f = some fd ∧ Fun K x qual st (fa.addr f) (fa.dat f) ∧ FnScope N (fa.ps f) (defScope st) ∧ chkSs nm P gl N (defScope st) fd.body (defBody st) = true ∧ fd.lead = 0 ∧ fd.pars = (fa.ps f).length ∧ fd.slots = N.length
  binds : Binds K (fa.dat f) (fa.ps f) []
  keep : PySem.W.keepIn K (.ref (fa.addr f)) = true
theorem fn_none {nm : Nm} {P : Pr} {gl : Nat → Bool} {fds : Nat → Option Fd} {fa : Fa} {prog : Program} {w : World} {mg : Str → Option Value} {base : Heap} {f j : Nat} (D : DF nm P gl fds fa K f) : FnOk prog w K mg base CX0 j (fa.addr f) (fa.dat f) (fa.ps f) (spF K cl (run P fds 0 f)) :=
  ⟨fun vs H Q E ⟨ds, μ, π, d, μ', _, _, e, _⟩ => (by cases e), fun A outer s H args us vs Q E _ _ _ _ ⟨ds, μ, π, d, μ', _, _, e, _⟩ => (by cases e)⟩
theorem fn_step {nm : Nm} {P : Pr} {gl df : Nat → Bool} {fds : Nat → Option Fd} {fa : Fa} {prog : Program} {w : World} {mg : Str → Option Value} {base : Heap} {f j k : Nat} (hrp : nm.rp = false) (g : GF nm P cl fa K mg) (F : FF nm P (run P fds k) cl fa prog w K mg base gl df j) (D : DF nm P gl fds fa K f) :
    FnOk prog w K mg base CX0 (j + 1 + 1) (fa.addr f) (fa.dat f) (fa.ps f) (spF K cl (run P fds (k + 1) f)) := by
  obtain ⟨x, qual, st, N, fd, hf, FN, S, hc, hl, hp, hs⟩ := D.ex
  have un : ∀ {ds : List Vw.D} {μ μ' : Mu} {d : Vw.D}, run P fds (k + 1) f ds μ = .ok d μ' → callF P (run P fds k) fd ds μ = .ok d μ' := fun {ds μ μ' d} e => by
    have e' : (match fds f with | some fd => callF P (run P fds k) fd ds μ | none => .bad) = .ok d μ' := e
    rw [hf] at e'
    exact e'
  have hN : (fa.ps f).length ≤ N.length := by
    have := congrArg List.length S.pre
    rw [List.length_take] at this
    omega
  refine FN.ok S (fun vs H Q E ⟨ds, μ, π, d, μ', rp, cr, e, _⟩ => ?_) (fun cdv A outer s H vs Q E hr ⟨ds, μ, π, d, μ', rp, cr, e, kk⟩ => ?_)
  · have e := un e
    unfold callF at e
    split at e
    · rename_i q
      rw [← rp.length, q, hp]
    · cases e
  · have e := un e
    unfold callF at e
    split at e
    · rename_i q
      have o : Bo (cxOf CX0 prog w K mg base N qual (defScope st) (fa.addr f) cdv A outer s H E).nox nm P (run P fds k) cl fa gl df j N (defScope st) := ⟨rfl, rfl, S.nd, ⟨g, F, hr, rfl, fun q => by rw [hrp] at q; cases q⟩, PassesOwn.never, rfl⟩
      refine ⟨LS K cl H π (exss P (run P fds k) fd.body), chkSs_ok (H0 := H) (π0 := π) o hc, begins fd ds, μ, π, ?_, cr, Mv.refl cr.ok, ?_⟩
      · have z := RelS.start (N := N) rp (by rw [← rp.length, q, hp]; exact hN)
        unfold begins
        rw [hl, hs, Nat.zero_add]
        exact z
      · cases e2 : exss P (run P fds k) fd.body (begins fd ds) μ with
        | nx ρ1 μ1 =>
          rw [e2] at e
          cases e
          exact fun σ1 H1 π1 _ c1 w1 => kk .non H1 π1 .non w1.mv c1
        | ret d1 μ1 =>
          rw [e2] at e
          cases e
          exact fun v H1 π1 rv c1 w1 => kk v H1 π1 rv w1.mv c1
        | brk ρ1 μ1 => rw [e2] at e; cases e
        | cnt ρ1 μ1 => rw [e2] at e; cases e
        | err x1 μ1 => rw [e2] at e; cases e
        | bad => rw [e2] at e; cases e
    · cases e
end
end Vw
set_option Elab.async false
set_option linter.all false
set_option maxRecDepth 100000
set_option maxHeartbeats 4000000
namespace Vw
open PySem PySem.Spec L2
section
variable {K : PySem.W.Frag} {cl : Cls0} {H H0 : Hp} {π : List Addr} {a C dx : Addr} {o : HO}
mutual
theorem Rp.mk (h : H a = some (.ins C dx [])) (hne : ∀ c C ns, cl c = some (C, ns) → ns ≠ []) : ∀ {d : D} {v : V}, Rp K cl H π d v → Rp K cl (upd H a o) π d v
  | _, _, .non => .non
  | _, _, .bl b => .bl b
  | _, _, .int b => .int b
  | _, _, .str b => .str b
  | _, _, .tup q r => .tup (by
      rcases q with (q | ⟨u, q⟩) | q
      · exact .inl (.inl (by rw [upd_ne (fun e => by rw [e, h] at q; cases q)]; exact q))
      · exact .inl (.inr ⟨u, by rw [upd_ne (fun e => by rw [e, h] at q; cases q)]; exact q⟩)
      · exact .inr q) (Rps.mk h hne r)
  | _, _, .lst q r => .lst (by
      rcases q with ⟨u, q⟩ | q
      · exact .inl ⟨u, by rw [upd_ne (fun e => by rw [e, h] at q; cases q)]; exact q⟩
      · exact .inr q) (Rps.mk h hne r)
  | _, _, .obj (ns := ns) (xs := xs) hc q n r => .obj hc (by
      rw [upd_ne (fun e => ?_)]
      · exact q
      · rw [e, h] at q
        have z : ns.zip xs = [] := by
          have := Option.some.inj q
          injection this with _ _ z
          exact z.symm
        have z2 := congrArg List.length z
        rw [List.length_zip, n, Nat.min_self] at z2
        exact hne _ _ _ hc (List.length_eq_zero_iff.mp (n.trans z2))) n (Rps.mk h hne r)
  | _, _, .cel q => .cel q
theorem Rps.mk (h : H a = some (.ins C dx [])) (hne : ∀ c C ns, cl c = some (C, ns) → ns ≠ []) : ∀ {ds : List D} {xs : List V}, Rps K cl H π ds xs → Rps K cl (upd H a o) π ds xs
  | _, _, .nil => .nil
  | _, _, .cons p q => .cons (Rp.mk h hne p) (Rps.mk h hne q)
end
theorem CR.made {μ : Mu} (c : CR K cl H π μ) (h : H a = some (.ins C dx [])) (hne : ∀ c C ns, cl c = some (C, ns) → ns ≠ []) : CR K cl (upd H a o) π μ := by
  refine ⟨c.len, c.nd, fun b m => ?_, fun n kvs e => ?_⟩
  · obtain ⟨k, e⟩ := c.ok b m
    exact ⟨k, by rw [upd_ne (fun q => by rw [q, h] at e; cases e)]; exact e⟩
  · obtain ⟨b, kv, h1, h2, h3, h4, h5⟩ := c.at_ n kvs e
    exact ⟨b, kv, h1, by rw [upd_ne (fun q => by rw [q, h] at h2; cases h2)]; exact h2, h3, h4, h5.mk h hne⟩
theorem putF_new : ∀ {fs : List (Str × V)} {f : Str} {v : V}, f ∉ fs.map (·.1) → putF f v fs = fs ++ [(f, v)]
  | [], _, _, _ => rfl
  | p :: r, f, v, h => by
    simp only [List.map_cons, List.mem_cons, not_or] at h
    unfold putF
    rw [if_neg (fun e => h.1 e.symm), putF_new h.2]; rfl
end
def gFld (K : PySem.W.Frag) (to : TE) (f : Str) : TG := fun v σ H Q => to σ H fun x H1 => ∃ a C dx fs, x = .ref a ∧ H1 a = some (.ins C dx fs) ∧ Cls K C ∧ NoAttr K C f ∧ fs.length < 1000 ∧ Q σ (upd H1 a (.ins C dx (putF f v fs)))
section
variable {X : Cx} {nm : Nm} {P : Pr} {Γ : Gam} {cl : Cls0} {fa : Fa} {gl df : Nat → Bool} {j : Nat} {H0 : Hp} {π0 : List Addr} {N : List Str} {sc : Scope}
theorem pg_attr {o : Expr} {f : Str} {to : TE} {pos : Pos} (ho : PE X o to) : PG X (.Attribute o f pos) (gFld X.K to f) := by
  refine ⟨fun pins s σ H v u Q I r h => ?_⟩
  rw [assign_Attribute]
  refine wpAny_bind (wpAny_holding (thn (ho.run pins s σ H _ I h) fun ov s1 ⟨x, H1, I1, r1, a, C, dx, fs, ex, ea, c, n, l, q⟩ => ?_))
  subst ex
  obtain rfl : ov = Value.ref a := r1
  refine wpAny_bind (wpAny_standAt (wpAny_bind (wpAny_holding (setattr_ok I1 ea c n l r fun s3 I3 => ?_))))
  exact wpAny_release ⟨σ, _, I3, q⟩
def chkA (N : List Str) (sc : Scope) : List Str → List Expr → Bool
  | [], [] => true
  | f :: fs, .Attribute (.Name x _) g _ :: xs => decide (f = g) && nmB N sc 0 x && chkA N sc fs xs
  | _, _ => false
theorem pgs_attr (hN : X.N = N) (hs : X.env.scope = sc) : ∀ {ns : List Str} {xs : List Expr}, chkA N sc ns xs = true →
    (PGs X xs (fun vs σ H Q => ∃ a C dx fs, σ[0]? = some (some (.ref a)) ∧ H a = some (.ins C dx fs) ∧ Cls X.K C ∧ (∀ f ∈ ns, NoAttr X.K C f) ∧ vs.length = ns.length ∧ fs.length + ns.length < 1000 ∧ (fs.map (·.1) ++ ns).Nodup ∧ Q σ (upd H a (.ins C dx (fs ++ ns.zip vs))))) ∧
      (assignEach xs X.env).length = ns.length ∧ (assignEach xs X.env).findIdx? (·.1) = none
  | [], [], _ => ⟨⟨fun pins s σ H vs us Q I r ⟨a, C, dx, fs, h1, h2, h3, h4, h5, h6, h7, h8⟩ => pgs_nil.run pins s σ H vs us Q I r ⟨List.length_eq_zero_iff.mp h5, by
      have e : upd H a (.ins C dx (fs ++ ([] : List Str).zip vs)) = H := by
        funext b
        by_cases hb : b = a
        · subst hb; rw [upd_same, h2]; simp
        · rw [upd_ne hb]
      rw [e] at h8
      exact h8⟩⟩, rfl, rfl⟩
  | f :: ns, tt :: xs, h0 => by
    obtain ⟨x, p1, g, p2, rfl, h⟩ : ∃ x p1 g p2, tt = .Attribute (.Name x p1) g p2 ∧ (decide (f = g) && nmB N sc 0 x && chkA N sc ns xs) = true := by
      unfold chkA at h0
      split at h0
      · rename_i q; cases q
      · rename_i q1 q2; cases q1; cases q2; exact ⟨_, _, _, _, rfl, h0⟩
      · cases h0
    have h : (decide (f = g) && nmB N sc 0 x && chkA N sc ns xs) = true := h
    simp only [Bool.and_eq_true, decide_eq_true_eq] at h
    obtain ⟨⟨rfl, hn⟩, hr⟩ := h
    have ih := pgs_attr hN hs hr
    obtain ⟨n1, n2, n3, n4⟩ := nmB_of hn
    refine ⟨⟨fun pins s σ H vs us Q I r ⟨a, C, dx, fs, h1, h2, h3, h4, h5, h6, h7, h8⟩ => ?_⟩, by show _ + 1 = _ + 1; rw [ih.2.1], ?_⟩
    · refine (pgs_cons (pg_attr (f := f) (pos := p2) (pe_var (pos := p1) (i := 0) (by rw [hN]; exact n1) (by rw [hs]; exact n2) n3 n4)) ih.1 rfl).run pins s σ H vs us Q I r ?_
      cases vs with
      | nil => cases h5
      | cons v vs =>
        have hf : f ∉ fs.map (·.1) := fun m => (List.nodup_append.mp h7).2.2 f m f List.mem_cons_self rfl
        simp only [List.length_cons] at h6 h5
        refine ⟨v, vs, rfl, .ref a, h1, a, C, dx, fs, rfl, h2, h3, h4 f List.mem_cons_self, by omega, a, C, dx, fs ++ [(f, v)], h1, ?_, h3, fun g hg => h4 g (List.mem_cons_of_mem _ hg), by omega, ?_, ?_, ?_⟩
        · rw [upd_same, putF_new hf]
        · simp only [List.length_append, List.length_singleton]; omega
        · rw [List.map_append, List.append_assoc]; exact h7
        · rw [upd_upd, List.append_assoc]
          exact h8
    · show List.findIdx? _ ((false, _) :: assignEach xs X.env) = none
      rw [List.findIdx?_cons]
      simp only [Bool.false_eq_true, if_false]
      rw [ih.2.2]; rfl
  | [], _ :: _, h => by cases h
  | _ :: _, [], h => by cases h
def chkI (nm : Nm) (P : Pr) (gl : Nat → Bool) (N : List Str) (sc : Scope) (ns : List Str) (c : Nat) : Ss → List Stmt → Bool
  | .cons .pas ss, .Expr (.Constant (.str _) _ _) _ :: sts => chkI nm P gl N sc ns c ss sts
  | .cons (.exp e) ss, .Expr x _ :: sts => notComp x && chk nm P gl N sc e x && chkI nm P gl N sc ns c ss sts
  | .cons (.init d e) .nil, [.Assign [.Tuple xs _ _] x _] => decide (c = d) && chkA N sc ns xs && notComp x && stOk x && chk nm P gl N sc e x
  | _, _ => false
def LN (K : PySem.W.Frag) (cl : Cls0) (H0 : Hp) (π0 : List Addr) (a C dx : Addr) (ns : List Str) (c : Nat) (r : Rho → Mu → So) : TS := fun D σ H => ∃ ρ μ π fs μ', RelS K cl H0 ρ σ H π ∧ CR K cl H π μ ∧ Mv H0 π0 H π ∧ σ[0]? = some (some (.ref a)) ∧ r ρ μ = .ret (.obj c fs) μ' ∧
  ∀ H' π' xs σ1, H' a = some (.ins C dx (ns.zip xs)) → ns.length = xs.length → Rps K cl H' π' fs xs → (∃ e, π' = π0 ++ e ∧ ∀ b ∈ e, H0 b = none) → (∀ b o, H0 b = some o → b ∉ π0 → b ≠ a → H' b = some o) → CR K cl H' π' μ' → D.nx σ1 H'
theorem so_ret {α : Type} {o : Out α} {f : α → Mu → So} {d : D} {μ' : Mu} (h : o.so f = .ret d μ') : ∃ a μ1, o = .ok a μ1 ∧ f a μ1 = .ret d μ' := by
  cases o with
  | ok a μ1 => exact ⟨a, μ1, rfl, h⟩
  | err => cases h
  | bad => cases h
theorem in_ok {a C dx : Addr} {ns : List Str} {c : Nat} (o : Bo X nm P Γ cl fa gl df j N sc) (hc : cl c = some (C, ns)) (h0 : H0 a = some (.ins C dx [])) (ha : a ∉ π0) (hne : ∀ c C ns, cl c = some (C, ns) → ns ≠ []) (hlen : ns.length < 1000) :
    ∀ (ss : Ss) (sts : List Stmt), chkI nm P gl N sc ns c ss sts = true → PSs X sts (LN X.K cl H0 π0 a C dx ns c (exss P Γ ss)) := by
  have key : ∀ n : Nat, ∀ (ss : Ss) (sts : List Stmt), sizeOf ss < n → chkI nm P gl N sc ns c ss sts = true → PSs X sts (LN X.K cl H0 π0 a C dx ns c (exss P Γ ss)) := fun n => by
    induction n with
    | zero => intro _ _ h; exact absurd h (Nat.not_lt_zero _)
    | succ n ih =>
      intro ss sts hz h
      unfold chkI at h
      split at h
      · rename_i ss x k2 p2 p1 sts
        simp only [Ss.cons.sizeOf_spec] at hz
        refine PSs.of (pss_cons ps_doc (ih ss sts (by omega) h)) fun D σ H ⟨ρ, μ, π, fs, μ', rs, cr, m0, s0, e, k⟩ => ?_
        exact ⟨ρ, μ, π, fs, μ', rs, cr, m0, s0, by simpa only [exss, exs, So.bind_nx] using e, k⟩
      · rename_i e ss x p1 sts
        simp only [Ss.cons.sizeOf_spec] at hz
        simp only [Bool.and_eq_true] at h
        refine PSs.of (pss_cons (ps_expr (o.chk (H0 := H0) h.1.2).pe (sw_no h.1.1)) (ih ss sts (by omega) h.2)) fun D σ H ⟨ρ, μ, π, fs, μ', rs, cr, m0, s0, e0, k⟩ => ?_
        simp only [exss, exs] at e0
        cases e1 : ev P Γ e ρ μ with
        | ok d μ1 =>
          rw [e1] at e0
          simp only [Out.so_ok, So.bind_nx] at e0
          exact ⟨ρ, μ, π, d, μ1, rs, cr, e1, fun v H1 π1 r1 m1 c1 => ⟨ρ, μ1, π1, fs, μ', rs.mv cr.ok m1, c1, m0.trans m1, s0, e0, k⟩⟩
        | err => rw [e1] at e0; cases e0
        | bad => rw [e1] at e0; cases e0
      · rename_i d e xs k1 p1 x p2
        simp only [Bool.and_eq_true, decide_eq_true_eq] at h
        obtain ⟨⟨⟨⟨rfl, h1⟩, h2⟩, h3⟩, h4⟩ := h
        obtain ⟨g1, g2, g3⟩ := pgs_attr o.n o.s h1
        obtain ⟨Cl, _, hln, hnd, hno⟩ := o.b.gf.cls c C ns hc
        have hst : swappedStores [.Tuple xs k1 p1] x X.env = pure none := by
          exact sw_const h3
        refine PSs.of (pss_one (ps_asg (o.chk (H0 := H0) h4).pe (pg_tup o.b.calm g1 g2 g3) (by show swapsWith x (some (.Tuple xs k1 p1)) p2.line X.env = _; exact sw_no h2) hst rfl)) fun D σ H ⟨ρ, μ, π, fs, μ', rs, cr, m0, s0, e0, k⟩ => ?_
        simp only [exss, exs] at e0
        cases e1 : ev P Γ e ρ μ with
        | ok d μ1 =>
          rw [e1] at e0
          simp only [Out.so_ok] at e0
          cases d with
          | tup l =>
            simp only at e0
            split at e0
            · rename_i hl
              cases e0
              refine ⟨ρ, μ, π, .tup fs, _, rs, cr, e1, fun v H1 π1 r1 m1 c1 => ?_⟩
              cases r1 with
              | tup hq hr =>
                have e2 := hr.length
                have mm := m0.trans m1
                have ha1 : H1 a = some (.ins C dx []) := mm.keep a _ h0 ha
                refine ⟨_, _, rfl, hq, by rw [← e2, hl, hln], a, C, dx, [], s0, ha1, Cl, hno, by rw [← e2, hl, hln], by simpa using hlen, by simpa using hnd, ?_⟩
                rw [List.nil_append]
                refine k _ π1 _ σ upd_same (by rw [← e2, hl, hln]) (hr.mk ha1 hne) mm.ext (fun b u hb hp hne' => ?_) (c1.made ha1 hne)
                rw [upd_ne hne']
                exact mm.keep b u hb hp
            · cases e0
          | _ => cases e0
        | err => rw [e1] at e0; cases e0
        | bad => rw [e1] at e0; cases e0
      · cases h
  exact fun ss sts h => key (sizeOf ss + 1) ss sts (Nat.lt_succ_self _) h
end
structure IF (nm : Nm) (P : Pr) (gl : Nat → Bool) (fds : Nat → Option Fd) (cl : Cls0) (fa : Fa) (K : PySem.W.Frag) (c f : Nat) : Prop where
  ex : ∃ (C : Addr) (ns : List Str) (x qual : Str) (st : Stmt) (N : List Str) (fd : Fd), cl c = some (C, ns) ∧ ns.length < 1000 ∧ fds f = some fd ∧ Fun K x qual st (fa.addr f) (fa.dat f) ∧ FnScope N (fa.ps f) (defScope st) ∧ chkI nm P gl N (defScope st) ns c fd.body (defBody st) = true ∧ fd.lead = 1 ∧ fd.pars + 1 = (fa.ps f).length ∧ fd.slots = N.length
  binds : Binds K (fa.dat f) (fa.ps f) []
section
variable {K : PySem.W.Frag} {cl : Cls0}
theorem in_none {nm : Nm} {P : Pr} {gl : Nat → Bool} {fds : Nat → Option Fd} {fa : Fa} {prog : Program} {w : World} {mg : Str → Option Value} {base : Heap} {c f j : Nat} : FnOk prog w K mg base CX0 j (fa.addr f) (fa.dat f) (fa.ps f) (spI K cl c (run P fds 0 f)) :=
  ⟨fun vs H Q E ⟨_, _, _, _, _, _, _, _, _, _, _, _, _, _, _, e, _⟩ => (by cases e), fun A outer s H args us vs Q E _ _ _ _ ⟨_, _, _, _, _, _, _, _, _, _, _, _, _, _, _, e, _⟩ => (by cases e)⟩
theorem in_step {nm : Nm} {P : Pr} {gl df : Nat → Bool} {fds : Nat → Option Fd} {fa : Fa} {prog : Program} {w : World} {mg : Str → Option Value} {base : Heap} {c f j k : Nat} (hrp : nm.rp = false) (g : GF nm P cl fa K mg) (F : FF nm P (run P fds k) cl fa prog w K mg base gl df j) (hne : ∀ c C ns, cl c = some (C, ns) → ns ≠ []) (D : IF nm P gl fds cl fa K c f) :
    FnOk prog w K mg base CX0 (j + 1 + 1) (fa.addr f) (fa.dat f) (fa.ps f) (spI K cl c (run P fds (k + 1) f)) := by
  obtain ⟨C, ns, x, qual, st, N, fd, hcl, hlen, hf, FN, S, hc, hl, hp, hs⟩ := D.ex
  have un : ∀ {ds : List Vw.D} {μ μ' : Mu} {d : Vw.D}, run P fds (k + 1) f ds μ = .ok d μ' → callF P (run P fds k) fd ds μ = .ok d μ' := fun {ds μ μ' d} e => by
    have e' : (match fds f with | some fd => callF P (run P fds k) fd ds μ | none => .bad) = .ok d μ' := e
    rw [hf] at e'
    exact e'
  have hN : (fa.ps f).length ≤ N.length := by
    have := congrArg List.length S.pre
    rw [List.length_take] at this
    omega
  refine FN.ok S (fun vs H Q E ⟨y, C', dx, ns', vs', ds, μ, π, fs, μ', ev, hc', hH, rp, cr, e, _⟩ => ?_) (fun cdv A outer s H vs Q E hr ⟨y, C', dx, ns', vs', ds, μ, π, fs, μ', ev, hc', hH, rp, cr, e, kk⟩ => ?_)
  · have e := un e
    unfold callF at e
    split at e
    · rename_i q
      rw [ev, List.length_cons, ← rp.length, q, hp]
    · cases e
  · have e := un e
    subst ev
    rw [hcl] at hc'
    cases hc'
    unfold callF at e
    split at e
    · rename_i q
      have o : Bo (cxOf CX0 prog w K mg base N qual (defScope st) (fa.addr f) cdv A outer s H E).nox nm P (run P fds k) cl fa gl df j N (defScope st) := ⟨rfl, rfl, S.nd, ⟨g, F, hr, rfl, fun q => by rw [hrp] at q; cases q⟩, PassesOwn.never, rfl⟩
      have hy : y ∉ π := cr.ok.notIns hH
      refine ⟨LN K cl H π y C dx ns c (exss P (run P fds k) fd.body), in_ok (H0 := H) (π0 := π) o hcl hH hy hne hlen _ _ hc, begins fd ds, μ, π, fs, μ', ?_, cr, Mv.refl cr.ok, rfl, ?_, ?_⟩
      · have hdl : ds.length + 1 ≤ N.length := by rw [q, hp]; exact hN
        have rl := rp.length
        unfold begins
        rw [hl, hs]
        refine ⟨?_, fun i d h => ?_, fun i l h => ?_, fun i j l l' p hij h1 => ?_⟩
        · unfold L2.start
          simp only [List.length_append, List.length_map, List.length_replicate, List.length_cons]
          omega
        · cases i with
          | zero => cases h
          | succ i =>
            obtain ⟨d', e1, e2⟩ := get_begins (show Sl.get (ds.map Sl.val ++ List.replicate (N.length - (1 + ds.length)) .und) i = _ from h) (by simp)
            cases e1
            obtain ⟨v, h1, h2⟩ := rp.get e2
            exact ⟨v, start_at (by simpa using h1), h2⟩
        · cases i with
          | zero => cases h
          | succ i =>
            obtain ⟨d', e1, e2⟩ := get_begins (show Sl.get (ds.map Sl.val ++ List.replicate (N.length - (1 + ds.length)) .und) i = _ from h) (by simp)
            cases e1
        · cases i with
          | zero => cases h1
          | succ i =>
            obtain ⟨d', e1, e2⟩ := get_begins (show Sl.get (ds.map Sl.val ++ List.replicate (N.length - (1 + ds.length)) .und) i = _ from h1) (by simp)
            cases e1
      · cases e2 : exss P (run P fds k) fd.body (begins fd ds) μ with
        | ret d1 μ1 => rw [e2] at e; cases e; rfl
        | nx ρ1 μ1 => rw [e2] at e; cases e
        | brk ρ1 μ1 => rw [e2] at e; cases e
        | cnt ρ1 μ1 => rw [e2] at e; cases e
        | err x1 μ1 => rw [e2] at e; cases e
        | bad => rw [e2] at e; cases e
      · exact fun H' π' xs σ1 a1 a2 a3 a4 a5 a6 => kk H' π' xs a1 a2 a3 a4 a5 a6
    · cases e
theorem ff_all {nm : Nm} {P : Pr} {gl df : Nat → Bool} {fds : Nat → Option Fd} {fa : Fa} {prog : Program} {w : World} {mg : Str → Option Value} {base : Heap} (hrp : nm.rp = false) (g : GF nm P cl fa K mg) (hne : ∀ c C ns, cl c = some (C, ns) → ns ≠ [])
    (hD : ∀ f, df f = true → DF nm P gl fds fa K f) (hI : ∀ c f, P.init c = some f → (∃ C ns, cl c = some (C, ns)) ∧ IF nm P gl fds cl fa K c f) (hg : ∀ f, gl f = true → df f = true ∧ mg (nm.fn f) = some (.ref (fa.addr f)))
    (hm : ∀ c m f, P.meth c m = some f → df f = true) (hp : ∀ c m f, P.prop c m = some f → df f = true) (hst : ∀ f cm, P.sta f = some cm → df f = true) : ∀ k : Nat, FF nm P (run P fds k) cl fa prog w K mg base gl df (2 * k)
  | 0 => ⟨fun f hf => ⟨fn_none (hD f hf), (hD f hf).binds, (hD f hf).keep⟩, hg, hm, hp, hst, fun c f h => ⟨(hI c f h).1, in_none (nm := nm) (gl := gl), (hI c f h).2.binds⟩⟩
  | k + 1 => by
    have F := ff_all (prog := prog) (w := w) (base := base) hrp g hne hD hI hg hm hp hst k
    exact ⟨fun f hf => ⟨fn_step hrp g F (hD f hf), (hD f hf).binds, (hD f hf).keep⟩, hg, hm, hp, hst, fun c f h => ⟨(hI c f h).1, in_step hrp g F hne (hI c f h).2, (hI c f h).2.binds⟩⟩
end
end Vw
set_option Elab.async false
set_option linter.all false
set_option maxRecDepth 100000
set_option maxHeartbeats 4000000
namespace Vw
open PySem PySem.Spec PyProof.Rows L2
theorem fn_at {prog : Program} {w : World} {K : PySem.W.Frag} {mg : Str → Option Value} {base : Heap} {k : Nat} {f : Addr} {fd : FuncData} {x qual : Str} {st : Stmt} {N ps : List Str} (FN : Fun K x qual st f fd) (S : FnScope N ps (defScope st)) {s : Shared} {H : Hp} {args : Args} {us : List Value} {vs : List V} {Q : VK} {E : XK}
    (room : Room (k + 1) callerA) (en : Env0 prog w K mg base callerA [] s H) (bi : BindsTo s fd args (ps.zip us)) (rv : Vals vs us) (hl : vs.length = ps.length)
    (body : ∀ cv : Value, Room k (callerA.deeper (envOfC qual (defScope st) s.heap.objs.size f cv)) → ∃ t, PSs (cxOf CX0 prog w K mg base N qual (defScope st) f cv callerA [] s H E).nox (defBody st) t ∧ t { nx := fun _ H' => Q .non H', rt := Q } (L2.start N vs) H) :
    codeAny (model prog w) callerA (.call (.ref f) args) (L2.CR CX0 [] prog w H s Q E) s := by
  obtain ⟨oc, od, kV, doc, pm, an, cv, ct, osl, rfl, look, code⟩ := FN.ex
  have inH : K.In s.heap := en.mod.kin.keeps fun b o q => (en.bs b o q).1
  have noL : s.heap.NoLimit := en.mod.nolimit.keeps fun b o q => (en.bs b o q).1
  have kinds : ∀ p ∈ ps.zip us, (defScope st).names.lookup p.1 = some .local ∨ ((defScope st).names.lookup p.1 = some .cell ∧ ((cellsFrom (s.heap.objs.size + 1) (defScope st).names []).lookup p.1).isSome = true) := by
    rintro ⟨n, v⟩ hp
    rcases S.par n (List.of_mem_zip hp).1 with q | q
    · exact .inl q
    · exact .inr ⟨q, PySem.W.cellsFrom_some _ _ _ (.inl q)⟩
  refine codeAny_call_function room.depth (inH _ _ look) rfl S.co S.gen rfl (PySem.W.codeRec_of inH code) (bi _ _ _ _ ?_)
  refine wpAny_newFunctionEnv_cells S.kind kinds fun env he s1 hx => ?_
  subst he
  refine ⟨noL.keeps hx.toInCall.keep, codeAny_func ?_⟩
  obtain ⟨t, ht, hq⟩ := body cv (room.deeper _)
  have J0 : Inv (cxOf CX0 prog w K mg base N qual (defScope st) f cv callerA [] s H E) [] (L2.start N vs) H s1 := inv_start S room.hd en hl rv hx
  refine wpAny_mono (ht.nox.run [] s1 _ H _ J0 hq) (fun fl s' z => ?_) fun x s' z => z
  cases fl with
  | ret u =>
    obtain ⟨v, σ', H', J, r, q⟩ := z
    exact ⟨v, H', J.os, J.bare, J.base, J.hok, r, q⟩
  | next =>
    obtain ⟨σ', H', J, q⟩ := z
    exact ⟨.non, H', J.os, J.bare, J.base, J.hok, rfl, q⟩
  | brk =>
    obtain ⟨_, _, _, q⟩ := z
    exact q.elim
  | cont =>
    obtain ⟨_, _, _, q⟩ := z
    exact q.elim
def LawAt (prog : Program) (w : World) (K : PySem.W.Frag) (mg : Str → Option Value) (fa : Addr) : Prop := ∀ (base : Heap) (s : Shared) (H : Hp) (a : Addr) (ns : List Int), Env0 prog w K mg base callerA [] s H → Fz K H a (ns.map V.int) → ns.length ≤ 63 → (∀ z ∈ ns, Builtin.Int.intBits z ≤ 1048576) →
  codeAny (model prog w) callerA (.call (.ref fa) ⟨[.ref a], []⟩) (L2.CR CX0 [] prog w H s (fun v _ => v = .bl true) fun _ _ _ => False) s
theorem walkG {l : PySem.W.OpenLaw} {q : Program} {loose : List Str} {XP : (Str → Option Value) → Heap → Prop} {YP : World → Heap → Prop} {d : DefRec} {K : Params → PySem.W.Frag} (hn : l.most = some 63) (hdf : d.params.defaults = [])
    (hY : ∀ (w : World) (h : Heap), YP w h → (K w.params).In h)
    (F : ∀ (w : World) (mg : Str → Option Value) (fa : Addr) (h : Heap), (K w.params).In h → h.Ns mainGlobals mg → mg d.name = some (.ref fa) → LawAt l.prog w (K w.params) mg fa) :
    PySem.W.WalkO q loose XP YP l.row.toRowW d [] (fun f vs => PySem.call f vs) := by
  refine Att.attach_callB hn hdf fun w s0 s1 mg mb fa o pm cd doc a vs ns G Y ho hd hcd hmg hobj hints hlen hbits hg => ?_
  have inH := hY w _ Y
  have rv := vals_ints hints
  have hl : ns.length ≤ sizeLine := Nat.le_trans hlen (by decide)
  have main : ∀ H : Hp, (∀ b, H b = none ∨ ∃ o xs, H b = some (.frz o (.lst xs))) → Fz (K w.params) H a (ns.map V.int) → HOk l.prog w H s1.heap → (∀ b, H b ≠ none → b = a) → (H a ≠ none → (K w.params).lookup a = none) →
      codeAny (model l.prog w) callerA (.call (.ref fa) ⟨[.ref a], []⟩) (fun r t => r = .ok (.ret (.bool true)) ∧ OldK s1.heap t.heap ∧ t.os = s1.os ∧ AllBare t.gens) s1 := by
    intro H only fz hok at_a off
    have stays : ∀ {b : Addr} {u : Obj}, s1.heap.get? b = some u → H b = none → (hidT s1.heap H).get? b = some u := fun e n => hidT_get e n
    have dicts : ∀ {b : Addr} {u : Obj} {es : Array DictEntry} {ep : Nat}, s1.heap.get? b = some u → u.data = .dict es ep → H b = none := fun {b u es ep} e dd => by
      cases z : H b with
      | none => rfl
      | some y =>
        obtain rfl : b = a := at_a b (by rw [z]; simp)
        rw [hobj] at e
        cases e
        exact absurd dd (by simp)
    have spaces : ∀ {b : Addr} {m : Str → Option Value}, s1.heap.Ns b m → (hidT s1.heap H).Ns b m := fun {b m} ⟨u, es, ep, e, dd, z⟩ => ⟨u, es, ep, stays e (dicts e dd), dd, z⟩
    have inB : (K w.params).In (hidT s1.heap H) := fun b u e => stays (inH b u e) (by
      cases z : H b with
      | none => rfl
      | some y =>
        obtain rfl : b = a := at_a b (by rw [z]; simp)
        rw [off (by rw [z]; simp)] at e
        cases e)
    obtain ⟨mc, lim1, lim2⟩ := G.T.nolimit
    have mod : Mod (K w.params) mg (hidT s1.heap H) := ⟨inB, spaces G.T.g, ⟨mb, spaces G.T.b, G.T.builtins⟩, mc, spaces lim1, lim2⟩
    have en : Env0 l.prog w (K w.params) mg (hidT s1.heap H) callerA [] s1 H := ⟨rfl, mod, fun b u e => of_hidT e, Nat.le_of_eq (hidT_size _ _), trivial, fun b z => absurd (show b ∈ ([] : List Addr) from z) (by simp), hok, .of_eq hg⟩
    refine codeAny_mono (F w mg fa _ inH G.T.g hmg _ s1 H a ns en fz hlen hbits) fun r t h => ?_
    cases r with
    | error e => exact h.elim
    | ok fl =>
      cases fl with
      | ret u =>
        obtain ⟨v, H', os, bare, un, hok', rr, rfl⟩ := h
        obtain rfl : u = Value.bool true := rr
        refine ⟨rfl, OldK.of_keep fun b y e => ?_, os, bare⟩
        cases z : H b with
        | none => exact un.keep b y e z (fun m => absurd (show b ∈ ([] : List Addr) from m) (by simp)) (by simp)
        | some y2 =>
          rcases only b with n | ⟨ob, xs, n⟩
          · rw [z] at n; cases n
          · obtain ⟨e1, _⟩ := hok b _ n
            obtain ⟨e2, _⟩ := hok' b _ (un.frzs b ob _ n)
            rw [e] at e1
            cases e1
            exact e2
      | _ => exact h.elim
  cases hk : (K w.params).lookup a with
  | some o2 =>
    have e := inH a o2 hk
    rw [hobj] at e
    cases e
    exact main (fun _ => none) (fun _ => .inl rfl) (.inr ⟨_, vs.toArray, _, hk, rfl, rfl, rfl, by rw [List.size_toArray, hints.length]; exact hl, by simpa using rv⟩) (fun b u z => by cases z) (fun b z => absurd rfl z) fun z => absurd rfl z
  | none =>
    have is : ∀ b, (if b = a then some (HO.frz { cls := .type "list", data := .seq vs.toArray } (.lst (ns.map V.int))) else none) ≠ none → b = a := fun b z => by
      by_cases q : b = a
      · exact q
      · rw [if_neg q] at z; exact absurd rfl z
    refine main (fun b => if b = a then some (.frz { cls := .type "list", data := .seq vs.toArray } (.lst (ns.map V.int))) else none) (fun b => ?_) (.inl ⟨_, if_pos rfl⟩) (fun b u z => ?_) is fun _ => hk
    · by_cases q : b = a
      · exact .inr ⟨_, _, if_pos q⟩
      · exact .inl (if_neg q)
    · obtain rfl := is b (by rw [show (if b = a then _ else _) = some u from z]; simp)
      have z := (if_pos rfl).symm.trans z
      cases z
      exact ⟨hobj, by rw [List.length_map]; exact hl, vs, _, rv, hobj⟩
end Vw
set_option Elab.async false
set_option linter.all false
set_option maxRecDepth 100000
set_option maxHeartbeats 4000000
namespace Vw
open PySem PySem.Spec PyProof.Rows L2
theorem rps_ints' {K : PySem.W.Frag} {cl : Cls0} {H : Hp} {π : List Addr} : ∀ ns : List Int, Rps K cl H π (ns.map D.int) (ns.map V.int)
  | [] => .nil
  | _ :: r => .cons (.int _) (rps_ints' r)
theorem cr_nil {K : PySem.W.Frag} {cl : Cls0} {H : Hp} : CR K cl H [] [] := ⟨rfl, .nil, (fun a m => by cases m), (fun k kvs e => by cases e)⟩
structure PF (nm : Nm) (P : Pr) (gl df : Nat → Bool) (fds : Nat → Option Fd) (cl : Cls0) (fa : Fa) (K : PySem.W.Frag) (mg : Str → Option Value) : Prop where
  g : GF nm P cl fa K mg
  ne : ∀ c C ns, cl c = some (C, ns) → ns ≠ []
  d : ∀ f, df f = true → DF nm P gl fds fa K f
  i : ∀ c f, P.init c = some f → (∃ C ns, cl c = some (C, ns)) ∧ IF nm P gl fds cl fa K c f
  n : ∀ f, gl f = true → df f = true ∧ mg (nm.fn f) = some (.ref (fa.addr f))
  m : ∀ c m f, P.meth c m = some f → df f = true
  p : ∀ c m f, P.prop c m = some f → df f = true
  s : ∀ f cm, P.sta f = some cm → df f = true
theorem GF.up {nm : Nm} {P : Pr} {cl : Cls0} {fa : Fa} {K : PySem.W.Frag} {mg : Str → Option Value} (g : GF nm P cl fa K mg) : GF { nm with rp := true } P cl fa K mg :=
  ⟨g.con, g.blt, g.lcm, g.cls, g.iso, g.isk, g.sub, g.sbo, g.self, g.mth, g.fld, g.opn, g.opr, g.unn, g.cmn, g.rpn, g.neo, g.spn, g.prop, g.app, g.sta, g.made, g.rop⟩
theorem FF.up {nm : Nm} {P : Pr} {Γ : Gam} {cl : Cls0} {fa : Fa} {prog : Program} {w : World} {K : PySem.W.Frag} {mg : Str → Option Value} {base : Heap} {gl df : Nat → Bool} {j : Nat} (F : FF nm P Γ cl fa prog w K mg base gl df j) : FF { nm with rp := true } P Γ cl fa prog w K mg base gl df j :=
  ⟨F.ok, F.name, F.meth, F.prop, F.sta, F.init⟩
theorem fin {nm : Nm} {P : Pr} {gl df : Nat → Bool} {fds : Nat → Option Fd} {K : PySem.W.Frag} {mg : Str → Option Value} {prog : Program} {w : World} {k : Nat} {a : Addr} {x : Str} (hrp : nm.rp = false) (room : Room (2 * k + 2) callerA)
    (hlaw : ∀ ns : List Int, ns.length ≤ 63 → (∀ z ∈ ns, Builtin.Int.intBits z ≤ 1048576) → ∃ μ, run P fds (k + 1) 0 [.lst (ns.map .int)] [] = .ok (.bl true) μ)
    (z : ∃ (cl : Cls0) (fa : Fa), fa.addr 0 = a ∧ fa.ps 0 = ([x] : List Str) ∧ (∀ (s : Shared) (v : Value), BindsTo s (fa.dat 0) ⟨[v], []⟩ [(x, v)]) ∧ PF nm P gl df fds cl fa K mg ∧ DF { nm with rp := true } P gl fds fa K 0) :
    LawAt prog w K mg a := by
  obtain ⟨cl, fa, rfl, hps, hb, T, L⟩ := z
  intro base s H sc ns en fz hlen hbits
  obtain ⟨y, qual, st, N, fd, hf, FN, S, hc, hl, hp, hs⟩ := L.ex
  obtain ⟨μ, e⟩ := hlaw ns hlen hbits
  have e : callF P (run P fds k) fd [.lst (ns.map .int)] [] = .ok (.bl true) μ := by
    have e' : (match fds 0 with | some fd => callF P (run P fds k) fd [.lst (ns.map .int)] [] | none => .bad) = .ok (.bl true) μ := e
    rw [hf] at e'
    exact e'
  have hN : (fa.ps 0).length ≤ N.length := by
    have := congrArg List.length S.pre
    rw [List.length_take] at this
    omega
  have rp : Rps K cl H [] [.lst (ns.map .int)] [.ref sc] := .cons (.lst fz (rps_ints' ns)) .nil
  have one : (fa.ps 0).length = 1 := by rw [hps]; rfl
  refine fn_at (us := [.ref sc]) (vs := [.ref sc]) FN S room en (by rw [hps]; exact hb s (.ref sc)) (.cons rfl .nil) (by rw [one]; rfl) fun cv hr => ?_
  unfold callF at e
  split at e
  · rename_i q
    have o : Bo (cxOf CX0 prog w K mg base N qual (defScope st) (fa.addr 0) cv callerA [] s H fun _ _ _ => False).nox { nm with rp := true } P (run P fds k) cl fa gl df (2 * k) N (defScope st) :=
      ⟨rfl, rfl, S.nd, ⟨T.g.up, (ff_all (prog := prog) (w := w) (base := base) hrp T.g T.ne T.d T.i T.n T.m T.p T.s k).up, hr, rfl, fun _ => rfl⟩, PassesOwn.never, rfl⟩
    refine ⟨LS K cl H [] (exss P (run P fds k) fd.body), chkSs_ok (H0 := H) (π0 := []) o hc, begins fd [.lst (ns.map .int)], [], [], ?_, cr_nil, Mv.refl (cr_nil (cl := cl) (K := K) (H := H)).ok, ?_⟩
    · have z := RelS.start (N := N) rp (by rw [show ([V.ref sc] : List V).length = 1 from rfl, ← one]; exact hN)
      unfold begins
      rw [hl, hs, Nat.zero_add]
      exact z
    · cases e2 : exss P (run P fds k) fd.body (begins fd [.lst (ns.map .int)]) [] with
      | ret d1 μ1 =>
        rw [e2] at e
        cases e
        exact fun v H1 π1 r _ _ => by cases r; rfl
      | nx ρ1 μ1 => rw [e2] at e; cases e
      | brk ρ1 μ1 => rw [e2] at e; cases e
      | cnt ρ1 μ1 => rw [e2] at e; cases e
      | err x1 μ1 => rw [e2] at e; cases e
      | bad => rw [e2] at e; cases e
  · cases e
def mthN (l : List Str) (m : Nat) : Str :=
  if m < 13 then PySem.dunder ((match m with | 0 => Operator.Add | 1 => .Sub | 2 => .Mult | 3 => .BitAnd | 4 => .BitOr | 5 => .FloorDiv | 6 => .Mod | 7 => .Pow | 8 => .LShift | 9 => .RShift | 10 => .BitXor | 11 => .MatMult | _ => .Div : Operator).info.2)
  else if m = 20 then dunderR "add" else if m = 30 then "__eq__" else if m = 32 then "__lt__" else if m = 33 then "__le__" else if m = 34 then "__gt__" else if m = 35 then "__ge__" else if m = 38 then "__contains__"
  else if m = 40 then "__invert__" else if m = 43 then "__neg__" else if m = 50 then "__len__" else if m = 51 then "__getitem__" else if m = 52 then "__call__" else if m = 53 then "__repr__" else if m = 54 then "__str__" else l.getD (m - 60) Str.empty
theorem mthN_op (l : List Str) (op : Operator) : mthN l (opM op) = PySem.dunder op.info.2 := by cases op <;> rfl
structure CF (K : PySem.W.Frag) (mg : Str → Option Value) (x : Str) (C : Addr) (ns : List Str) : Prop where
  pg : PySem.W.plainGet K C Str.empty = true
  hd : PySem.W.hasDictIn K C = true
  po : PySem.W.plainOver K C = true
  sa : PySem.W.findIn K (.ref C) "__setattr__" = some (some (.builtin "object.__setattr__"))
  mg_ : mg x = some (.ref C)
  no : ∀ f ∈ ns, PySem.W.findIn K (.ref C) f = some none
  i1 : PySem.W.findIn K (.ref C) "__class__" = some (some (.builtin "object.__class__"))
  i2 : PySem.W.specialIn K (.builtin "object.__class__") "__get__" = some (some (.builtin "getset_descriptor.__get__"))
  i3 : PySem.W.takesIn K (.builtin "object.__class__") = some true
  i4 : PySem.W.mroIn K C (.type "object") = some true
  k1 : ∃ x, PySem.W.clsIn K C = some x
  k2 : PySem.W.typeIn K (.ref C) = some (.type "type")
  k3 : ∀ T : String, T ∈ ["bool", "int", "str", "tuple"] → PySem.W.subIn K (.ref C) (.type T) = some false
  k4 : ∀ T : String, T ∈ ["NoneType", "bool", "int", "str", "tuple", "list"] → PySem.W.subIn K (.type T) (.ref C) = some false
  n1 : PySem.W.findIn K (.ref C) "__ne__" = some (some (.builtin "object.__ne__"))
  s1 : PySem.W.selfFirst K C = true
  s2 : PySem.W.noSeq K C = true
theorem kit_self {K : PySem.W.Frag} {C : Addr} : PySem.W.kitOne K (.ref C) (.ref C) = some true := by
  unfold PySem.W.kitOne
  rw [if_pos (beq_self_eq_true _)]
theorem CF.kit1 {K : PySem.W.Frag} {mg : Str → Option Value} {x : Str} {C : Addr} {ns : List Str} (F : CF K mg x C ns) (T : String) (h : T ∈ ["NoneType", "bool", "int", "str", "tuple", "list"]) : PySem.W.kitOne K (.type T) (.ref C) = some false := by
  obtain ⟨y, hy⟩ := F.k1
  have n : ¬ (Value.type T == Value.ref C) = true := by simp
  unfold PySem.W.kitOne
  rw [if_neg n]
  unfold PySem.W.kitCls
  simp only [hy, F.k2]
  rw [if_pos (by simp)]
  exact F.k4 T h
theorem CF.kit3 {K : PySem.W.Frag} {mg : Str → Option Value} {x : Str} {C : Addr} {ns : List Str} (F : CF K mg x C ns) (T : String) (h : T ∈ ["bool", "int", "str", "tuple"]) : PySem.W.kitOne K (.ref C) (.type T) = some false := by
  have n : ¬ (Value.ref C == Value.type T) = true := by simp
  have m : PySem.W.kitMeta T = true := by
    simp only [List.mem_cons, List.not_mem_nil, or_false] at h
    rcases h with rfl | rfl | rfl | rfl <;> decide +kernel
  unfold PySem.W.kitOne
  rw [if_neg n]
  unfold PySem.W.kitCls
  simp only [m, if_true]
  exact F.k3 T h
theorem gf_of {fn con cls : Nat → Str} {l : List Str} {P : Pr} {cl : Cls0} {fa : Fa} {K : PySem.W.Frag} {mg : Str → Option Value}
    (hcon : ∀ g i, P.con g = some i → ∃ t, mg (con g) = some (.int i t)) (hblt : ∀ x ∈ bltNames, mg x = none) (hlcm : mg "lcm" = some (.builtin "math.lcm"))
    (hcls : ∀ c C ns, cl c = some (C, ns) → CF K mg (cls c) C ns ∧ ns.length = P.nflds c ∧ ns.Nodup)
    (hmth : ∀ c m f C ns, P.meth c m = some f → cl c = some (C, ns) → Meth K C (mthN l m) (fa.addr f)) (hfld : ∀ c f i C ns, P.fld c f = some i → cl c = some (C, ns) → ns[i]? = some (mthN l f))
    (hprop : ∀ c f g C ns, P.prop c f = some g → cl c = some (C, ns) → ∃ p, PropOf K C (mthN l f) p (fa.addr g)) (happ : ∀ c f C ns, P.meth c 52 = some f → cl c = some (C, ns) → PySem.W.fnIn K (fa.addr f) = true)
    (hsta : ∀ f c m, P.sta f = some (c, m) → ∃ C ns mc p rest, cl c = some (C, ns) ∧ PySem.W.readsIn K C mc = true ∧ PySem.W.specialIn K (.ref C) "__getattribute__" = some (some (.builtin "type.__getattribute__")) ∧ PySem.W.typeIn K (.ref C) = some mc ∧
      PySem.W.findCls K (.ref C) mc (mthN l m) = some (.get (.builtin "staticmethod.__get__") (.ref p) .none (.ref C)) ∧ PySem.W.recIn K p "staticmethod" = some (.ref (fa.addr f) :: rest))
    (hmade : ∀ c f C ns, P.init c = some f → cl c = some (C, ns) → Mk K C (fa.addr f))
    (hrop : ∀ (op : Operator) c C ns g, P.oi op = true → P.meth c (opM op) = some g → cl c = some (C, ns) → ∃ rc fo ro, PySem.W.findIn K (.ref C) (dunderR op.info.2) = some rc ∧ (rc = none ∨ ∃ g : Addr, rc = some (.ref g)) ∧
      PySem.W.findIn K (.type "int") (PySem.dunder op.info.2) = some fo ∧ PySem.W.findIn K (.type "int") (dunderR op.info.2) = some ro ∧ PySem.W.subIn K (.type "int") (.ref C) = some false) :
    GF ⟨fn, con, cls, mthN l, false⟩ P cl fa K mg where
  con := hcon
  blt := hblt
  lcm := hlcm
  cls := fun c C ns h => let ⟨F, a, b⟩ := hcls c C ns h; ⟨⟨F.pg, F.hd, F.po, F.sa⟩, F.mg_, a, b, F.no⟩
  iso := fun c C ns h => let ⟨F, _⟩ := hcls c C ns h; ⟨F.i1, F.i2, F.i3, F.i4⟩
  isk := fun c C ns h => let ⟨F, _⟩ := hcls c C ns h; ⟨F.kit1, kit_self, F.kit3⟩
  sub := fun c C ns h => let ⟨F, _⟩ := hcls c C ns h; F.k4
  sbo := fun c C ns h => let ⟨F, _⟩ := hcls c C ns h; F.k3
  self := fun c C ns h => let ⟨F, _⟩ := hcls c C ns h; ⟨F.s1, F.s2⟩
  mth := hmth
  fld := hfld
  opn := mthN_op l
  opr := rfl
  unn := ⟨rfl, rfl⟩
  cmn := ⟨rfl, rfl, rfl, rfl, rfl, rfl⟩
  rpn := rfl
  neo := fun c C ns h => let ⟨F, _⟩ := hcls c C ns h; F.n1
  spn := ⟨rfl, rfl, rfl⟩
  prop := hprop
  app := happ
  sta := hsta
  made := hmade
  rop := hrop
end Vw
set_option Elab.async false
set_option linter.all false
set_option maxRecDepth 100000
set_option maxHeartbeats 4000000
namespace Vw
open PySem L2
section
variable {P : Pr} {Γ : Gam} {ρ : Rho} {μ : Mu}
theorem e_var {i : Nat} {d : D} (h : Sl.get ρ i = .val d) : ev P Γ (.var i) ρ μ = .ok d μ := by simp only [ev, h]
theorem e_int {i : Int} : ev P Γ (.int i) ρ μ = .ok (.int i) μ := rfl
theorem e_bl {b : Bool} : ev P Γ (.bl b) ρ μ = .ok (.bl b) μ := rfl
theorem e_non : ev P Γ .non ρ μ = .ok .non μ := rfl
theorem e_str {x : Str} : ev P Γ (.str x) ρ μ = .ok (.str x) μ := rfl
theorem e_con {g : Nat} {i : Int} (h : P.con g = some i) : ev P Γ (.con g) ρ μ = .ok (.int i) μ := by simp only [ev, h]
theorem e_bin {op : Operator} {a b : E} {x y : D} {μ1 μ2 : Mu} (ha : ev P Γ a ρ μ = .ok x μ1) (hb : ev P Γ b ρ μ1 = .ok y μ2) : ev P Γ (.bin op a b) ρ μ = bop P Γ op x y μ2 := by simp only [ev, ha, hb, Out.bind_ok]
theorem e_un {op : UnaryOp} {a : E} {x : D} {μ1 : Mu} (ha : ev P Γ a ρ μ = .ok x μ1) : ev P Γ (.un op a) ρ μ = uop P Γ op x μ1 := by simp only [ev, ha, Out.bind_ok]
theorem e_cmp {op : CmpOp} {a b : E} {x y : D} {μ1 μ2 : Mu} (ha : ev P Γ a ρ μ = .ok x μ1) (hb : ev P Γ b ρ μ1 = .ok y μ2) : ev P Γ (.cmp op a b) ρ μ = cop P Γ op x y μ2 := by simp only [ev, ha, hb, Out.bind_ok]
theorem e_andT {a b : E} {μ1 : Mu} (ha : ev P Γ a ρ μ = .ok (.bl true) μ1) : ev P Γ (.and a b) ρ μ = ev P Γ b ρ μ1 := by simp only [ev, ha, Out.bind_ok]
theorem e_andF {a b : E} {μ1 : Mu} (ha : ev P Γ a ρ μ = .ok (.bl false) μ1) : ev P Γ (.and a b) ρ μ = .ok (.bl false) μ1 := by simp only [ev, ha, Out.bind_ok]
theorem e_orT {a b : E} {μ1 : Mu} (ha : ev P Γ a ρ μ = .ok (.bl true) μ1) : ev P Γ (.or a b) ρ μ = .ok (.bl true) μ1 := by simp only [ev, ha, Out.bind_ok]
theorem e_orF {a b : E} {μ1 : Mu} (ha : ev P Γ a ρ μ = .ok (.bl false) μ1) : ev P Γ (.or a b) ρ μ = ev P Γ b ρ μ1 := by simp only [ev, ha, Out.bind_ok]
theorem e_one {a : E} {b : Bool} {μ1 : Mu} (ha : ev P Γ a ρ μ = .ok (.bl b) μ1) : ev P Γ (.one a) ρ μ = .ok (.bl b) μ1 := by simp only [ev, ha, Out.bind_ok]
theorem e_not {a : E} {b : Bool} {μ1 : Mu} (ha : ev P Γ a ρ μ = .ok (.bl b) μ1) : ev P Γ (.not a) ρ μ = .ok (.bl (!b)) μ1 := by simp only [ev, ha, Out.bind_ok]
theorem e_ifeT {c a b : E} {μ1 : Mu} (hc : ev P Γ c ρ μ = .ok (.bl true) μ1) : ev P Γ (.ife c a b) ρ μ = ev P Γ a ρ μ1 := by simp only [ev, hc, Out.bind_ok]
theorem e_ifeF {c a b : E} {μ1 : Mu} (hc : ev P Γ c ρ μ = .ok (.bl false) μ1) : ev P Γ (.ife c a b) ρ μ = ev P Γ b ρ μ1 := by simp only [ev, hc, Out.bind_ok]
theorem e_chainT {op op2 : CmpOp} {a b c : E} {x y z : D} {μ1 μ2 μ3 μ4 : Mu} (ha : ev P Γ a ρ μ = .ok x μ1) (hb : ev P Γ b ρ μ1 = .ok y μ2) (h1 : cop P Γ op x y μ2 = .ok (.bl true) μ3) (hc : ev P Γ c ρ μ3 = .ok z μ4) : ev P Γ (.chain op op2 a b c) ρ μ = cop P Γ op2 y z μ4 := by simp only [ev, ha, hb, h1, hc, Out.bind_ok]
theorem e_chainF {op op2 : CmpOp} {a b c : E} {x y : D} {μ1 μ2 μ3 : Mu} (ha : ev P Γ a ρ μ = .ok x μ1) (hb : ev P Γ b ρ μ1 = .ok y μ2) (h1 : cop P Γ op x y μ2 = .ok (.bl false) μ3) : ev P Γ (.chain op op2 a b c) ρ μ = .ok (.bl false) μ3 := by simp only [ev, ha, hb, h1, Out.bind_ok]
theorem es_nil : evs P Γ .nil ρ μ = .ok [] μ := rfl
theorem es_cons {e : E} {es : Es} {d : D} {ds : List D} {μ1 μ2 : Mu} (h : ev P Γ e ρ μ = .ok d μ1) (hs : evs P Γ es ρ μ1 = .ok ds μ2) : evs P Γ (.cons e es) ρ μ = .ok (d :: ds) μ2 := by simp only [evs, h, hs, Out.bind_ok]
theorem e_tup {es : Es} {ds : List D} {μ1 : Mu} (h : evs P Γ es ρ μ = .ok ds μ1) (hl : ds.length ≤ 16777216) : ev P Γ (.tup es) ρ μ = .ok (.tup ds) μ1 := by simp only [ev, h, Out.bind_ok, lenOk]; rw [if_pos hl]
theorem e_lst {es : Es} {ds : List D} {μ1 : Mu} (h : evs P Γ es ρ μ = .ok ds μ1) (hl : ds.length ≤ 16777216) : ev P Γ (.lst es) ρ μ = .ok (.lst ds) μ1 := by simp only [ev, h, Out.bind_ok, lenOk]; rw [if_pos hl]
theorem e_ix {a b : E} {x y : D} {μ1 μ2 : Mu} (ha : ev P Γ a ρ μ = .ok x μ1) (hb : ev P Γ b ρ μ1 = .ok y μ2) : ev P Γ (.ix a b) ρ μ = ixop P Γ x y μ2 := by simp only [ev, ha, hb, Out.bind_ok]
theorem e_call {f : Nat} {as : Es} {ds : List D} {μ1 : Mu} (h : evs P Γ as ρ μ = .ok ds μ1) : ev P Γ (.call f as) ρ μ = Γ f ds μ1 := by simp only [ev, h, Out.bind_ok]
theorem e_blt {b : Blt} {as : Es} {ds : List D} {μ1 : Mu} (h : evs P Γ as ρ μ = .ok ds μ1) : ev P Γ (.blt b as) ρ μ = bltop P Γ b ds μ1 := by simp only [ev, h, Out.bind_ok]
theorem e_prop {o : E} {f c g : Nat} {fs : List D} {μ1 : Mu} (h : ev P Γ o ρ μ = .ok (.obj c fs) μ1) (hf : P.fld c f = none) (hp : P.prop c f = some g) : ev P Γ (.fld o f) ρ μ = Γ g [.obj c fs] μ1 := by simp only [ev, h, Out.bind_ok, hf, hp]
theorem e_fld {o : E} {f c i : Nat} {fs : List D} {d : D} {μ1 : Mu} (h : ev P Γ o ρ μ = .ok (.obj c fs) μ1) (hf : P.fld c f = some i) (hi : fs[i]? = some d) : ev P Γ (.fld o f) ρ μ = .ok d μ1 := by simp only [ev, h, Out.bind_ok, hf, hi]
theorem e_dget {o : E} {key : Str} {k : Nat} {kvs : Cel} {d : D} {μ1 : Mu} (h : ev P Γ o ρ μ = .ok (.cel k) μ1) (hk : μ1[k]? = some kvs) (hd : kvs.lookup key = some d) : ev P Γ (.dget o key) ρ μ = .ok d μ1 := by simp only [ev, h, Out.bind_ok, hk, hd]
theorem e_oix {i : Nat} {b : E} {l : List D} {n : Int} {d : D} {μ1 : Mu} (hb : ev P Γ b ρ μ = .ok (.int n) μ1) (h : Sl.get ρ i = .own l) (ha : at? l n = some d) : ev P Γ (.oix i b) ρ μ = .ok d μ1 := by simp only [ev, hb, Out.bind_ok, h, ha]
theorem e_olen {i : Nat} {l : List D} (h : Sl.get ρ i = .own l) : ev P Γ (.olen i) ρ μ = .ok (.int l.length) μ := by simp only [ev, h]
theorem b_add {i j : Int} : bop P Γ .Add (.int i) (.int j) μ = .ok (.int (i + j)) μ := rfl
theorem b_sub {i j : Int} : bop P Γ .Sub (.int i) (.int j) μ = .ok (.int (i - j)) μ := rfl
theorem b_mul {i j : Int} (h : i.natAbs.log2 + j.natAbs.log2 < 1000000) : bop P Γ .Mult (.int i) (.int j) μ = .ok (.int (i * j)) μ := by simp only [bop]; rw [if_pos h]
theorem b_fdiv {i j : Int} (h : 0 < j) (h2 : j.natAbs.log2 < 9000) : bop P Γ .FloorDiv (.int i) (.int j) μ = .ok (.int (i / j)) μ := by simp only [bop]; rw [if_pos ⟨h, h2⟩]
theorem b_mod {i j : Int} (h : 0 < j) : bop P Γ .Mod (.int i) (.int j) μ = .ok (.int (i % j)) μ := by simp only [bop]; rw [if_pos h]
theorem b_lst {x y : List D} (h : (x ++ y).length ≤ 16777216) : bop P Γ .Add (.lst x) (.lst y) μ = .ok (.lst (x ++ y)) μ := by simp only [bop, if_true, lenOk]; rw [if_pos h]
theorem c_lt {i j : Int} : cop P Γ .Lt (.int i) (.int j) μ = .ok (.bl (decide (i < j))) μ := rfl
theorem c_le {i j : Int} : cop P Γ .LtE (.int i) (.int j) μ = .ok (.bl (decide (i ≤ j))) μ := rfl
theorem c_gt {i j : Int} : cop P Γ .Gt (.int i) (.int j) μ = .ok (.bl (decide (j < i))) μ := rfl
theorem c_ge {i j : Int} : cop P Γ .GtE (.int i) (.int j) μ = .ok (.bl (decide (j ≤ i))) μ := rfl
theorem x_tup {l : List D} {i : Int} {d : D} (h : at? l i = some d) : ixop P Γ (.tup l) (.int i) μ = .ok d μ := by simp only [ixop, h]
theorem x_lst {l : List D} {i : Int} {d : D} (h : at? l i = some d) : ixop P Γ (.lst l) (.int i) μ = .ok d μ := by simp only [ixop, h]
theorem t_divmod {i j : Int} (h : 0 < j) (h2 : j.natAbs.log2 < 9000) : bltop P Γ .divmod [.int i, .int j] μ = .ok (.tup [.int (i / j), .int (i % j)]) μ := by simp only [bltop]; rw [if_pos ⟨h, h2⟩]
theorem s_set {i : Nat} {e : E} {d : D} {μ1 : Mu} (h : ev P Γ e ρ μ = .ok d μ1) : exs P Γ (.set i e) ρ μ = .nx (Sl.put ρ i (.val d)) μ1 := by simp only [exs, h, Out.so_ok]
theorem s_bld {i : Nat} {e : E} {l : List D} {μ1 : Mu} (h : ev P Γ e ρ μ = .ok (.lst l) μ1) : exs P Γ (.bld i e) ρ μ = .nx (Sl.put ρ i (.own l)) μ1 := by simp only [exs, h, Out.so_ok]
theorem s_un {is : List Nat} {e : E} {d : D} {μ1 : Mu} {ρ1 : Rho} (h : ev P Γ e ρ μ = .ok d μ1) (ht : tgo (.tp is) d ρ = some ρ1) : exs P Γ (.un is e) ρ μ = .nx ρ1 μ1 := by simp only [exs, h, Out.so_ok, ht]
theorem s_par {i j : Nat} {a b : E} {x y : D} {μ1 μ2 : Mu} (ha : ev P Γ a ρ μ = .ok x μ1) (hb : ev P Γ b ρ μ1 = .ok y μ2) : exs P Γ (.par i j a b false false) ρ μ = .nx (Sl.put (Sl.put ρ i (.val x)) j (.val y)) μ2 := by simp only [exs, ha, hb, Out.so_ok] <;> rfl
theorem s_parO {i j : Nat} {a b : E} {x : D} {l : List D} {μ1 μ2 : Mu} (ha : ev P Γ a ρ μ = .ok x μ1) (hb : ev P Γ b ρ μ1 = .ok (.lst l) μ2) : exs P Γ (.par i j a b false true) ρ μ = .nx (Sl.put (Sl.put ρ i (.val x)) j (.own l)) μ2 := by simp only [exs, ha, hb, Out.so_ok] <;> rfl
theorem s_app {i : Nat} {e : E} {d : D} {l : List D} {μ1 : Mu} (h : ev P Γ e ρ μ = .ok d μ1) (hg : Sl.get ρ i = .own l) (hl : l.length < 16777216) : exs P Γ (.app i e) ρ μ = .nx (Sl.put ρ i (.own (l ++ [d]))) μ1 := by simp only [exs, h, Out.so_ok, hg]; rw [if_pos hl]
theorem s_put {i : Nat} {k e : E} {d : D} {n : Int} {j : Nat} {l : List D} {μ1 μ2 : Mu} (h : ev P Γ e ρ μ = .ok d μ1) (hk : ev P Γ k ρ μ1 = .ok (.int n) μ2) (hg : Sl.get ρ i = .own l) (hj : L2.ixN l.length n = some j) : exs P Γ (.put i k e) ρ μ = .nx (Sl.put ρ i (.own (l.set j d))) μ2 := by simp only [exs, h, hk, Out.so_ok, hg, hj]
theorem s_frz {i : Nat} {l : List D} (hg : Sl.get ρ i = .own l) : exs P Γ (.frz i) ρ μ = .nx (Sl.put ρ i (.val (.lst l))) μ := by simp only [exs, hg]
theorem s_ifT {c : E} {t e : Ss} {μ1 : Mu} (h : ev P Γ c ρ μ = .ok (.bl true) μ1) : exs P Γ (.ife c t e) ρ μ = exss P Γ t ρ μ1 := by simp only [exs, h, Out.so_ok]
theorem s_ifF {c : E} {t e : Ss} {μ1 : Mu} (h : ev P Γ c ρ μ = .ok (.bl false) μ1) : exs P Γ (.ife c t e) ρ μ = exss P Γ e ρ μ1 := by simp only [exs, h, Out.so_ok]
theorem s_ret {e : E} {d : D} {μ1 : Mu} (h : ev P Γ e ρ μ = .ok d μ1) : exs P Γ (.ret e) ρ μ = .ret d μ1 := by simp only [exs, h, Out.so_ok]
theorem s_exp {e : E} {d : D} {μ1 : Mu} (h : ev P Γ e ρ μ = .ok d μ1) : exs P Γ (.exp e) ρ μ = .nx ρ μ1 := by simp only [exs, h, Out.so_ok]
theorem s_for {t : Tg} {it : It} {b : Ss} {items : List D} {μ1 : Mu} (h : evi P Γ it ρ μ = .ok items μ1) : exs P Γ (.for t it b) ρ μ = forgo (fun d ρ μ => match tgo t d ρ with | some ρ1 => exss P Γ b ρ1 μ | none => .bad) items ρ μ1 := by simp only [exs, h, Out.so_ok] <;> rfl
theorem s_whl {c : E} {b : Ss} : exs P Γ (.whl c b) ρ μ = whlgo (ev P Γ c) (exss P Γ b) fuel ρ μ := by simp only [exs]
theorem ss_nil' : exss P Γ .nil ρ μ = .nx ρ μ := rfl
theorem ss_nx {s : S} {ss : Ss} {ρ1 : Rho} {μ1 : Mu} (h : exs P Γ s ρ μ = .nx ρ1 μ1) : exss P Γ (.cons s ss) ρ μ = exss P Γ ss ρ1 μ1 := by simp only [exss, h, So.bind_nx]
theorem ss_ret {s : S} {ss : Ss} {d : D} {μ1 : Mu} (h : exs P Γ s ρ μ = .ret d μ1) : exss P Γ (.cons s ss) ρ μ = .ret d μ1 := by simp only [exss, h] <;> rfl
theorem forgo_nx {f : D → Rho → Mu → So} {d : D} {ds : List D} {ρ1 : Rho} {μ1 : Mu} (h : f d ρ μ = .nx ρ1 μ1) : forgo f (d :: ds) ρ μ = forgo f ds ρ1 μ1 := by
  show (match f d ρ μ with | .nx ρ1 μ1 => forgo f ds ρ1 μ1 | .cnt ρ1 μ1 => forgo f ds ρ1 μ1 | .brk ρ1 μ1 => .nx ρ1 μ1 | o => o) = _
  rw [h]
theorem forgo_ret {f : D → Rho → Mu → So} {d e : D} {ds : List D} {μ1 : Mu} (h : f d ρ μ = .ret e μ1) : forgo f (d :: ds) ρ μ = .ret e μ1 := by
  show (match f d ρ μ with | .nx ρ1 μ1 => forgo f ds ρ1 μ1 | .cnt ρ1 μ1 => forgo f ds ρ1 μ1 | .brk ρ1 μ1 => .nx ρ1 μ1 | o => o) = _
  rw [h]
theorem forgo_nil {f : D → Rho → Mu → So} : forgo f [] ρ μ = .nx ρ μ := rfl
theorem whl_T {c : Rho → Mu → Out D} {f : Rho → Mu → So} {n : Nat} {μ1 μ2 : Mu} {ρ1 : Rho} (hc : c ρ μ = .ok (.bl true) μ1) (hf : f ρ μ1 = .nx ρ1 μ2) : whlgo c f (n + 1) ρ μ = whlgo c f n ρ1 μ2 := by
  unfold whlgo
  rw [hc]
  simp only [Out.so_ok, hf]
  first | rfl | (cases n <;> rfl)
theorem whl_F {c : Rho → Mu → Out D} {f : Rho → Mu → So} {n : Nat} {μ1 : Mu} (hc : c ρ μ = .ok (.bl false) μ1) : whlgo c f (n + 1) ρ μ = .nx ρ μ1 := by
  unfold whlgo
  rw [hc]
  rfl
theorem run_ret {fds : Nat → Option Fd} {f k : Nat} {fd : Fd} {ds : List D} {μ μ1 : Mu} {d : D} (hf : fds f = some fd) (hl : ds.length = fd.pars) (e : exss P (run P fds k) fd.body (begins fd ds) μ = .ret d μ1) : run P fds (k + 1) f ds μ = .ok d μ1 := by
  show (match fds f with | some fd => callF P (run P fds k) fd ds μ | none => .bad) = _
  rw [hf]
  show callF P (run P fds k) fd ds μ = _
  unfold callF
  rw [if_pos hl, e]
theorem run_nx {fds : Nat → Option Fd} {f k : Nat} {fd : Fd} {ds : List D} {μ μ1 : Mu} {ρ1 : Rho} (hf : fds f = some fd) (hl : ds.length = fd.pars) (e : exss P (run P fds k) fd.body (begins fd ds) μ = .nx ρ1 μ1) : run P fds (k + 1) f ds μ = .ok .non μ1 := by
  show (match fds f with | some fd => callF P (run P fds k) fd ds μ | none => .bad) = _
  rw [hf]
  show callF P (run P fds k) fd ds μ = _
  unfold callF
  rw [if_pos hl, e]
theorem log_le {n m : Nat} (h : n < 2 ^ m) (hm : 0 < m) : n.log2 < m := by
  by_cases h0 : n = 0
  · subst h0; rw [show Nat.log2 0 = 0 from rfl]; exact hm
  · exact (Nat.log2_lt h0).mpr h
end
end Vw
set_option Elab.async false
set_option linter.all false
set_option maxRecDepth 100000
set_option maxHeartbeats 4000000
namespace Vw
open PySem L2
def Out.wp {α : Type} (o : Out α) (Q : α → Mu → Prop) : Prop := match o with
  | .ok a μ => Q a μ
  | _ => False
def So.wp (o : So) (N : Rho → Mu → Prop) (R : D → Mu → Prop) (B C : Rho → Mu → Prop) : Prop := match o with
  | .nx ρ μ => N ρ μ
  | .ret d μ => R d μ
  | .brk ρ μ => B ρ μ
  | .cnt ρ μ => C ρ μ
  | _ => False
def D.tst (d : D) (k : Bool → Prop) : Prop := match d with
  | .bl b => k b
  | _ => False
def D.asI (d : D) (k : Int → Prop) : Prop := match d with
  | .int b => k b
  | _ => False
def Sl.asV (s : Sl) (k : D → Prop) : Prop := match s with
  | .val d => k d
  | _ => False
def Sl.asO (s : Sl) (k : List D → Prop) : Prop := match s with
  | .own d => k d
  | _ => False
def opt {α : Type} (o : Option α) (k : α → Prop) : Prop := match o with
  | some d => k d
  | _ => False
theorem Out.wp_iff {α : Type} {o : Out α} {Q : α → Mu → Prop} : o.wp Q ↔ ∃ a μ, o = .ok a μ ∧ Q a μ := by
  cases o with
  | ok a μ => exact ⟨fun h => ⟨a, μ, rfl, h⟩, fun ⟨a', μ', e, h⟩ => by cases e; exact h⟩
  | err x μ => exact ⟨fun h => h.elim, fun ⟨a', μ', e, h⟩ => by cases e⟩
  | bad => exact ⟨fun h => h.elim, fun ⟨a', μ', e, h⟩ => by cases e⟩
theorem Out.wp_of {α : Type} {o : Out α} {a : α} {μ : Mu} {Q : α → Mu → Prop} (e : o = .ok a μ) (h : Q a μ) : o.wp Q := by rw [e]; exact h
theorem Out.wp_mono {α : Type} {o : Out α} {Q R : α → Mu → Prop} (h : o.wp Q) (k : ∀ a μ, Q a μ → R a μ) : o.wp R := by
  cases o with
  | ok a μ => exact k a μ h
  | err x μ => exact h
  | bad => exact h
theorem wp_congr {α : Type} {o : Out α} {Q R : α → Mu → Prop} (h : ∀ a μ, Q a μ ↔ R a μ) : o.wp Q ↔ o.wp R := by
  cases o with
  | ok a μ => exact h a μ
  | err x μ => exact Iff.rfl
  | bad => exact Iff.rfl
theorem So.wp_mono {o : So} {N N' : Rho → Mu → Prop} {R R' : D → Mu → Prop} {B B' C C' : Rho → Mu → Prop} (h : o.wp N R B C) (hn : ∀ a μ, N a μ → N' a μ) (hr : ∀ a μ, R a μ → R' a μ) (hb : ∀ a μ, B a μ → B' a μ) (hc : ∀ a μ, C a μ → C' a μ) : o.wp N' R' B' C' := by
  cases o with
  | nx => exact hn _ _ h
  | ret => exact hr _ _ h
  | brk => exact hb _ _ h
  | cnt => exact hc _ _ h
  | err => exact h
  | bad => exact h
section
variable {α β : Type} {P : Pr} {Γ : Gam} {ρ : Rho} {μ : Mu} {N : Rho → Mu → Prop} {R : D → Mu → Prop} {B C : Rho → Mu → Prop}
theorem wp_ok {a : α} {Q : α → Mu → Prop} : (Out.ok a μ).wp Q ↔ Q a μ := Iff.rfl
theorem wp_bad {Q : α → Mu → Prop} : (Out.bad : Out α).wp Q ↔ False := Iff.rfl
theorem wp_bind {o : Out α} {f : α → Mu → Out β} {Q : β → Mu → Prop} : (o.bind f).wp Q ↔ o.wp fun a μ => (f a μ).wp Q := by cases o <;> exact Iff.rfl
theorem wp_so {o : Out α} {f : α → Mu → So} : (o.so f).wp N R B C ↔ o.wp fun a μ => (f a μ).wp N R B C := by cases o <;> exact Iff.rfl
theorem wp_sbind {o : So} {f : Rho → Mu → So} : (o.bind f).wp N R B C ↔ o.wp (fun ρ μ => (f ρ μ).wp N R B C) R B C := by cases o <;> exact Iff.rfl
theorem wp_if {c : Prop} [Decidable c] {o : Out α} {Q : α → Mu → Prop} : (if c then o else .bad).wp Q ↔ c ∧ o.wp Q := by
  by_cases h : c
  · rw [if_pos h]; exact ⟨fun q => ⟨h, q⟩, fun q => q.2⟩
  · rw [if_neg h]; exact ⟨fun q => q.elim, fun q => absurd q.1 h⟩
theorem tst_bl {b : Bool} {k : Bool → Prop} : (D.bl b).tst k ↔ k b := Iff.rfl
theorem asI_int {b : Int} {k : Int → Prop} : (D.int b).asI k ↔ k b := Iff.rfl
theorem asV_val {b : D} {k : D → Prop} : (Sl.val b).asV k ↔ k b := Iff.rfl
theorem asO_own {b : List D} {k : List D → Prop} : (Sl.own b).asO k ↔ k b := Iff.rfl
theorem opt_some {b : α} {k : α → Prop} : opt (some b) k ↔ k b := Iff.rfl
theorem get_0 {s : Sl} {r : Rho} : Sl.get (s :: r) 0 = s := rfl
theorem get_s {s : Sl} {r : Rho} {i : Nat} : Sl.get (s :: r) (i + 1) = Sl.get r i := rfl
variable {Q : D → Mu → Prop}
theorem w_var {i : Nat} : (ev P Γ (.var i) ρ μ).wp Q ↔ (Sl.get ρ i).asV fun d => Q d μ := by
  simp only [ev]
  cases Sl.get ρ i <;> exact Iff.rfl
theorem w_int {i : Int} : (ev P Γ (.int i) ρ μ).wp Q ↔ Q (.int i) μ := Iff.rfl
theorem w_bl {i : Bool} : (ev P Γ (.bl i) ρ μ).wp Q ↔ Q (.bl i) μ := Iff.rfl
theorem w_non : (ev P Γ .non ρ μ).wp Q ↔ Q .non μ := Iff.rfl
theorem w_str {x : Str} : (ev P Γ (.str x) ρ μ).wp Q ↔ Q (.str x) μ := Iff.rfl
theorem w_con {g : Nat} : (ev P Γ (.con g) ρ μ).wp Q ↔ opt (P.con g) fun i => Q (.int i) μ := by
  simp only [ev]
  cases P.con g <;> exact Iff.rfl
theorem w_bin {op : Operator} {a b : E} : (ev P Γ (.bin op a b) ρ μ).wp Q ↔ (ev P Γ a ρ μ).wp fun x μ1 => (ev P Γ b ρ μ1).wp fun y μ2 => (bop P Γ op x y μ2).wp Q := by simp only [ev, wp_bind]
theorem w_un {op : UnaryOp} {a : E} : (ev P Γ (.un op a) ρ μ).wp Q ↔ (ev P Γ a ρ μ).wp fun x μ1 => (uop P Γ op x μ1).wp Q := by simp only [ev, wp_bind]
theorem w_cmp {op : CmpOp} {a b : E} : (ev P Γ (.cmp op a b) ρ μ).wp Q ↔ (ev P Γ a ρ μ).wp fun x μ1 => (ev P Γ b ρ μ1).wp fun y μ2 => (cop P Γ op x y μ2).wp Q := by simp only [ev, wp_bind]
theorem tst_wp {o : Out D} {K : Bool → Mu → Prop} {f : D → Mu → Out D} (h : ∀ b μ, (f (.bl b) μ).wp Q ↔ K b μ) (h2 : ∀ d μ, (∀ b, d ≠ .bl b) → f d μ = .bad) : (o.bind f).wp Q ↔ o.wp fun d μ => d.tst fun b => K b μ := by
  rw [wp_bind]
  cases o with
  | ok d μ =>
    show (f d μ).wp Q ↔ d.tst fun b => K b μ
    cases d with
    | bl b => exact h b μ
    | _ => rw [h2 _ _ (by intro b e; cases e)]; exact Iff.rfl
  | err x μ => exact Iff.rfl
  | bad => exact Iff.rfl
theorem w_and {a b : E} : (ev P Γ (.and a b) ρ μ).wp Q ↔ (ev P Γ a ρ μ).wp fun x μ1 => x.tst fun k => if k then (ev P Γ b ρ μ1).wp Q else Q (.bl false) μ1 := by
  simp only [ev]
  exact tst_wp (K := fun k μ1 => if k then (ev P Γ b ρ μ1).wp Q else Q (.bl false) μ1) (fun k μ => by cases k <;> exact Iff.rfl) (fun d μ h => by cases d <;> first | rfl | exact absurd rfl (h _))
theorem w_or {a b : E} : (ev P Γ (.or a b) ρ μ).wp Q ↔ (ev P Γ a ρ μ).wp fun x μ1 => x.tst fun k => if k then Q (.bl true) μ1 else (ev P Γ b ρ μ1).wp Q := by
  simp only [ev]
  exact tst_wp (K := fun k μ1 => if k then Q (.bl true) μ1 else (ev P Γ b ρ μ1).wp Q) (fun k μ => by cases k <;> exact Iff.rfl) (fun d μ h => by cases d <;> first | rfl | exact absurd rfl (h _))
theorem w_one {a : E} : (ev P Γ (.one a) ρ μ).wp Q ↔ (ev P Γ a ρ μ).wp fun x μ1 => x.tst fun k => Q (.bl k) μ1 := by
  simp only [ev]
  exact tst_wp (K := fun k μ1 => Q (.bl k) μ1) (fun k μ => by cases k <;> exact Iff.rfl) (fun d μ h => by cases d <;> first | rfl | exact absurd rfl (h _))
theorem w_not {a : E} : (ev P Γ (.not a) ρ μ).wp Q ↔ (ev P Γ a ρ μ).wp fun x μ1 => x.tst fun k => Q (.bl (!k)) μ1 := by
  simp only [ev]
  exact tst_wp (K := fun k μ1 => Q (.bl (!k)) μ1) (fun k μ => by cases k <;> exact Iff.rfl) (fun d μ h => by cases d <;> first | rfl | exact absurd rfl (h _))
theorem w_ife {c a b : E} : (ev P Γ (.ife c a b) ρ μ).wp Q ↔ (ev P Γ c ρ μ).wp fun x μ1 => x.tst fun k => if k then (ev P Γ a ρ μ1).wp Q else (ev P Γ b ρ μ1).wp Q := by
  simp only [ev]
  exact tst_wp (K := fun k μ1 => if k then (ev P Γ a ρ μ1).wp Q else (ev P Γ b ρ μ1).wp Q) (fun k μ => by cases k <;> exact Iff.rfl) (fun d μ h => by cases d <;> first | rfl | exact absurd rfl (h _))
theorem w_chain {op op2 : CmpOp} {a b c : E} : (ev P Γ (.chain op op2 a b c) ρ μ).wp Q ↔ (ev P Γ a ρ μ).wp fun x μ1 => (ev P Γ b ρ μ1).wp fun y μ2 => (cop P Γ op x y μ2).wp fun r μ3 => r.tst fun k => if k then (ev P Γ c ρ μ3).wp fun z μ4 => (cop P Γ op2 y z μ4).wp Q else Q (.bl false) μ3 := by
  have Z : ∀ (y : D) (o : Out D), (o.bind fun k μ3 => match k with
    | .bl true => (ev P Γ c ρ μ3).bind fun z μ4 => cop P Γ op2 y z μ4
    | .bl false => .ok (.bl false) μ3
    | _ => .bad).wp Q ↔ o.wp fun r μ3 => r.tst fun k => if k then (ev P Γ c ρ μ3).wp fun z μ4 => (cop P Γ op2 y z μ4).wp Q else Q (.bl false) μ3 := fun y o =>
    tst_wp (K := fun k μ3 => if k then (ev P Γ c ρ μ3).wp fun z μ4 => (cop P Γ op2 y z μ4).wp Q else Q (.bl false) μ3) (fun k μ => by cases k <;> simp [wp_bind, wp_ok]) (fun d μ h => by cases d <;> first | rfl | exact absurd rfl (h _))
  simp only [ev]
  rw [wp_bind]
  refine wp_congr fun x μ1 => ?_
  rw [wp_bind]
  exact wp_congr fun y μ2 => Z y _
theorem w_isN {a : E} : (ev P Γ (.isN a) ρ μ).wp Q ↔ (ev P Γ a ρ μ).wp fun x μ1 => Q (.bl (match x with | .non => true | _ => false)) μ1 := by simp only [ev, wp_bind, wp_ok] <;> exact Iff.rfl
theorem w_notN {a : E} : (ev P Γ (.notN a) ρ μ).wp Q ↔ (ev P Γ a ρ μ).wp fun x μ1 => Q (.bl (match x with | .non => false | _ => true)) μ1 := by simp only [ev, wp_bind, wp_ok] <;> exact Iff.rfl
theorem w_tup {es : Es} : (ev P Γ (.tup es) ρ μ).wp Q ↔ (evs P Γ es ρ μ).wp fun ds μ1 => ds.length ≤ 16777216 ∧ Q (.tup ds) μ1 := by simp only [ev, wp_bind, lenOk, wp_if, wp_ok]
theorem w_lst {es : Es} : (ev P Γ (.lst es) ρ μ).wp Q ↔ (evs P Γ es ρ μ).wp fun ds μ1 => ds.length ≤ 16777216 ∧ Q (.lst ds) μ1 := by simp only [ev, wp_bind, lenOk, wp_if, wp_ok]
theorem w_ix {a b : E} : (ev P Γ (.ix a b) ρ μ).wp Q ↔ (ev P Γ a ρ μ).wp fun x μ1 => (ev P Γ b ρ μ1).wp fun y μ2 => (ixop P Γ x y μ2).wp Q := by simp only [ev, wp_bind]
theorem w_sl {a : E} {lo hi : Oe} : (ev P Γ (.sl a lo hi) ρ μ).wp Q ↔ (ev P Γ a ρ μ).wp fun x μ1 => (evo P Γ lo ρ μ1).wp fun l μ2 => (evo P Γ hi ρ μ2).wp fun h μ3 => (slop x l h μ3).wp Q := by simp only [ev, wp_bind]
theorem w_call {f : Nat} {as : Es} : (ev P Γ (.call f as) ρ μ).wp Q ↔ (evs P Γ as ρ μ).wp fun ds μ1 => (Γ f ds μ1).wp Q := by simp only [ev, wp_bind]
theorem w_blt {b : Blt} {as : Es} : (ev P Γ (.blt b as) ρ μ).wp Q ↔ (evs P Γ as ρ μ).wp fun ds μ1 => (bltop P Γ b ds μ1).wp Q := by simp only [ev, wp_bind]
def fldW (P : Pr) (Γ : Gam) (f : Nat) (x : D) (μ : Mu) (Q : D → Mu → Prop) : Prop := match x with
  | .obj c fs => match P.fld c f with
    | some i => opt fs[i]? fun d => Q d μ
    | none => opt (P.prop c f) fun g => (Γ g [.obj c fs] μ).wp Q
  | _ => False
theorem w_fld {o : E} {f : Nat} : (ev P Γ (.fld o f) ρ μ).wp Q ↔ (ev P Γ o ρ μ).wp fun x μ1 => fldW P Γ f x μ1 Q := by
  simp only [ev, wp_bind]
  have : ∀ (x : D) (μ1 : Mu), Out.wp (match x with
    | .obj c fs => match P.fld c f with
      | some i => match fs[i]? with
        | some d => .ok d μ1
        | none => .bad
      | none => match P.prop c f with
        | some g => Γ g [.obj c fs] μ1
        | none => .bad
    | _ => .bad) Q ↔ fldW P Γ f x μ1 Q := fun x μ1 => by
    cases x with
    | obj c fs =>
      unfold fldW
      dsimp only
      cases P.fld c f with
      | some i => dsimp only; cases fs[i]? <;> exact Iff.rfl
      | none => dsimp only; cases P.prop c f <;> exact Iff.rfl
    | _ => exact Iff.rfl
  exact wp_congr fun d1 μ1 => this d1 μ1
def newW (c : Nat) (r : D) (μ : Mu) (Q : D → Mu → Prop) : Prop := match r with
  | .obj c' fs => c = c' ∧ Q (.obj c fs) μ
  | _ => False
theorem w_new {c : Nat} {as : Es} : (ev P Γ (.new c as) ρ μ).wp Q ↔ (evs P Γ as ρ μ).wp fun ds μ1 => opt (P.init c) fun f => (Γ f ds μ1).wp fun r μ2 => newW c r μ2 Q := by
  simp only [ev, wp_bind]
  have : ∀ (ds : List D) (μ1 : Mu), Out.wp (match P.init c with
    | some f => (Γ f ds μ1).bind fun r μ2 => match r with
      | .obj c' fs => if c = c' then .ok (.obj c fs) μ2 else .bad
      | _ => .bad
    | none => .bad) Q ↔ opt (P.init c) fun f => (Γ f ds μ1).wp fun r μ2 => newW c r μ2 Q := fun ds μ1 => by
    cases P.init c with
    | none => exact Iff.rfl
    | some f =>
      dsimp only [opt]
      rw [wp_bind]
      have : ∀ (r : D) (μ2 : Mu), Out.wp (match r with
        | .obj c' fs => if c = c' then .ok (.obj c fs) μ2 else .bad
        | _ => .bad) Q ↔ newW c r μ2 Q := fun r μ2 => by
        cases r with
        | obj c' fs => dsimp only [newW]; exact wp_if
        | _ => exact Iff.rfl
      exact wp_congr fun d1 μ1 => this d1 μ1
  exact wp_congr fun d1 μ1 => this d1 μ1
def appW (P : Pr) (Γ : Gam) (s : Sl) (r : Out (List D)) (Q : D → Mu → Prop) : Prop := match s with
  | .val (.obj c fs) => r.wp fun ds μ1 => opt (P.meth c 52) fun f => (Γ f (.obj c fs :: ds) μ1).wp Q
  | _ => False
theorem w_app {i : Nat} {as : Es} : (ev P Γ (.app i as) ρ μ).wp Q ↔ appW P Γ (Sl.get ρ i) (evs P Γ as ρ μ) Q := by
  simp only [ev]
  cases Sl.get ρ i with
  | val d =>
    cases d with
    | obj c fs =>
      simp only [appW, wp_bind, callM]
      cases P.meth c 52 <;> exact Iff.rfl
    | _ => exact Iff.rfl
  | _ => exact Iff.rfl
def dgetW (key : Str) (x : D) (μ : Mu) (Q : D → Mu → Prop) : Prop := match x with
  | .cel k => opt μ[k]? fun kvs => opt (kvs.lookup key) fun d => Q d μ
  | _ => False
theorem w_dget {o : E} {key : Str} : (ev P Γ (.dget o key) ρ μ).wp Q ↔ (ev P Γ o ρ μ).wp fun x μ1 => dgetW key x μ1 Q := by
  simp only [ev, wp_bind]
  have : ∀ (x : D) (μ1 : Mu), Out.wp (match x with
    | .cel k => match μ1[k]? with
      | some kvs => match kvs.lookup key with
        | some d => .ok d μ1
        | none => .bad
      | none => .bad
    | _ => .bad) Q ↔ dgetW key x μ1 Q := fun x μ1 => by
    cases x with
    | cel k =>
      dsimp only [dgetW, opt]
      cases μ1[k]? with
      | none => exact Iff.rfl
      | some kvs => dsimp only; cases kvs.lookup key <;> exact Iff.rfl
    | _ => exact Iff.rfl
  exact wp_congr fun d1 μ1 => this d1 μ1
theorem w_dict {keys : List Str} {es : Es} : (ev P Γ (.dict keys es) ρ μ).wp Q ↔ (evs P Γ es ρ μ).wp fun ds μ1 => (keys.length = ds.length ∧ keys.length ≤ 15 ∧ keys.Nodup) ∧ Q (.cel μ1.length) (μ1 ++ [keys.zip ds]) := by simp only [ev, wp_bind, wp_if, wp_ok]
theorem w_oix {i : Nat} {b : E} : (ev P Γ (.oix i b) ρ μ).wp Q ↔ (ev P Γ b ρ μ).wp fun y μ1 => (Sl.get ρ i).asO fun l => y.asI fun k => opt (at? l k) fun d => Q d μ1 := by
  simp only [ev, wp_bind]
  have : ∀ (y : D) (μ1 : Mu), Out.wp (match Sl.get ρ i, y with
    | .own l, .int k => match at? l k with
      | some d => .ok d μ1
      | none => .bad
    | _, _ => .bad) Q ↔ (Sl.get ρ i).asO fun l => y.asI fun k => opt (at? l k) fun d => Q d μ1 := fun y μ1 => by
    cases Sl.get ρ i with
    | own l =>
      cases y with
      | int k => dsimp only [Sl.asO, D.asI, opt]; cases at? l k <;> exact Iff.rfl
      | _ => exact Iff.rfl
    | _ => exact Iff.rfl
  exact wp_congr fun d1 μ1 => this d1 μ1
theorem w_olen {i : Nat} : (ev P Γ (.olen i) ρ μ).wp Q ↔ (Sl.get ρ i).asO fun l => Q (.int l.length) μ := by
  simp only [ev]
  cases Sl.get ρ i <;> exact Iff.rfl
def lcStep (P : Pr) (Γ : Gam) (own : List Nat) (t : Tg) (c : Oe) (e : E) (ρ : Rho) : D → Mu → Out (Option D) := fun d μ => match tgo t d (Sl.wipe ρ own) with
  | none => .bad
  | some ρ1 => (evo P Γ c ρ1 μ).bind fun k μ1 => match k with
    | none => (ev P Γ e ρ1 μ1).bind fun x μ2 => .ok (some x) μ2
    | some (.bl true) => (ev P Γ e ρ1 μ1).bind fun x μ2 => .ok (some x) μ2
    | some (.bl false) => .ok none μ1
    | _ => .bad
theorem w_lc {own : List Nat} {t : Tg} {it : It} {c : Oe} {e : E} : (ev P Γ (.lc own t it c e) ρ μ).wp Q ↔ (evi P Γ it ρ μ).wp fun items μ1 => (lcgo (lcStep P Γ own t c e ρ) items μ1).wp fun l μ2 => l.length ≤ 16777216 ∧ Q (.lst l) μ2 := by
  simp only [ev, wp_bind, lenOk, wp_if, wp_ok]
  exact Iff.rfl
theorem w_lcC {own : List Nat} {t : Tg} {c e : E} {d : D} {q : Option D → Mu → Prop} : (lcStep P Γ own t (.some c) e ρ d μ).wp q ↔ opt (tgo t d (Sl.wipe ρ own)) fun ρ1 => (ev P Γ c ρ1 μ).wp fun k μ1 => k.tst fun b => if b then (ev P Γ e ρ1 μ1).wp fun x μ2 => q (some x) μ2 else q none μ1 := by
  unfold lcStep
  cases tgo t d (Sl.wipe ρ own) with
  | none => exact Iff.rfl
  | some ρ1 =>
    dsimp only [opt]
    rw [wp_bind]
    simp only [evo, wp_bind, wp_ok]
    have : ∀ (k : D) (μ1 : Mu), Out.wp (match (some k : Option D) with
      | none => (ev P Γ e ρ1 μ1).bind fun x μ2 => .ok (some x) μ2
      | some (.bl true) => (ev P Γ e ρ1 μ1).bind fun x μ2 => .ok (some x) μ2
      | some (.bl false) => .ok none μ1
      | _ => .bad) q ↔ k.tst fun b => if b then (ev P Γ e ρ1 μ1).wp fun x μ2 => q (some x) μ2 else q none μ1 := fun k μ1 => by
      cases k with
      | bl b =>
        cases b with
        | true => simp only [wp_bind, wp_ok]; exact Iff.rfl
        | false => exact Iff.rfl
      | _ => exact Iff.rfl
    exact wp_congr fun d1 μ1 => this d1 μ1
theorem w_lcN {own : List Nat} {t : Tg} {e : E} {d : D} {q : Option D → Mu → Prop} : (lcStep P Γ own t .none e ρ d μ).wp q ↔ opt (tgo t d (Sl.wipe ρ own)) fun ρ1 => (ev P Γ e ρ1 μ).wp fun x μ2 => q (some x) μ2 := by
  unfold lcStep
  cases tgo t d (Sl.wipe ρ own) with
  | none => exact Iff.rfl
  | some ρ1 =>
    dsimp only [opt]
    simp only [evo, wp_bind, wp_ok]
theorem lcgo_inv {F : D → Mu → Out (Option D)} {q : List D → Mu → Prop} (I : List D → List D → Mu → Prop) (hs : ∀ acc d ds μ, I acc (d :: ds) μ → (F d μ).wp fun o μ' => I (acc ++ o.toList) ds μ') (he : ∀ acc μ, I acc [] μ → q acc μ) {items : List D} {μ : Mu} (h0 : I [] items μ) : (lcgo F items μ).wp q := by
  have Z : ∀ (items : List D) (acc : List D) (μ : Mu), I acc items μ → (lcgo F items μ).wp fun l μ' => q (acc ++ l) μ' := fun items => by
    induction items with
    | nil =>
      intro acc μ h
      show q (acc ++ []) μ
      rw [List.append_nil]; exact he acc μ h
    | cons d ds ih =>
      intro acc μ h
      unfold lcgo
      rw [wp_bind]
      refine Out.wp_mono (hs acc d ds μ h) fun o μ1 h1 => ?_
      rw [wp_bind]
      refine Out.wp_mono (ih _ μ1 h1) fun l μ2 h2 => ?_
      cases o with
      | none => show q (acc ++ l) μ2; simpa using h2
      | some x => show q (acc ++ x :: l) μ2; simpa using h2
  exact Out.wp_mono (Z items [] μ h0) fun l μ' h => h
theorem lcgo_map {F : D → Mu → Out (Option D)} {g : D → D} : ∀ {items : List D} {μ : Mu}, (∀ d ∈ items, F d μ = .ok (some (g d)) μ) → lcgo F items μ = .ok (items.map g) μ
  | [], μ, _ => rfl
  | d :: ds, μ, h => by
    unfold lcgo
    rw [h d List.mem_cons_self, Out.bind_ok, lcgo_map fun x hx => h x (List.mem_cons_of_mem _ hx)]
    rfl
theorem lcgo_filter {F : D → Mu → Out (Option D)} {g : D → Option D} : ∀ {items : List D} {μ : Mu}, (∀ d ∈ items, F d μ = .ok (g d) μ) → lcgo F items μ = .ok (items.filterMap g) μ
  | [], μ, _ => rfl
  | d :: ds, μ, h => by
    unfold lcgo
    rw [h d List.mem_cons_self, Out.bind_ok, lcgo_filter fun x hx => h x (List.mem_cons_of_mem _ hx)]
    simp only [Out.bind_ok]
    cases e : g d <;> simp [List.filterMap_cons, e]
theorem w_esN {q : List D → Mu → Prop} : (evs P Γ .nil ρ μ).wp q ↔ q [] μ := Iff.rfl
theorem w_esC {e : E} {es : Es} {q : List D → Mu → Prop} : (evs P Γ (.cons e es) ρ μ).wp q ↔ (ev P Γ e ρ μ).wp fun d μ1 => (evs P Γ es ρ μ1).wp fun ds μ2 => q (d :: ds) μ2 := by simp only [evs, wp_bind, wp_ok]
theorem w_oN {q : Option D → Mu → Prop} : (evo P Γ .none ρ μ).wp q ↔ q none μ := Iff.rfl
theorem w_oS {e : E} {q : Option D → Mu → Prop} : (evo P Γ (.some e) ρ μ).wp q ↔ (ev P Γ e ρ μ).wp fun d μ1 => q (some d) μ1 := by simp only [evo, wp_bind, wp_ok]
def seqW (x : D) (k : List D → Prop) : Prop := match x with
  | .lst l => k l
  | .tup l => k l
  | _ => False
theorem seq_tup {l : List D} {k : List D → Prop} : seqW (.tup l) k ↔ k l := Iff.rfl
theorem seq_lst {l : List D} {k : List D → Prop} : seqW (.lst l) k ↔ k l := Iff.rfl
theorem w_iseq {e : E} {q : List D → Mu → Prop} : (evi P Γ (.seq e) ρ μ).wp q ↔ (ev P Γ e ρ μ).wp fun x μ1 => seqW x fun l => q l μ1 := by
  simp only [evi, wp_bind]
  have : ∀ (x : D) (μ1 : Mu), Out.wp (match seqOf x with
    | some l => .ok l μ1
    | none => .bad) q ↔ seqW x fun l => q l μ1 := fun x μ1 => by cases x <;> exact Iff.rfl
  exact wp_congr fun d1 μ1 => this d1 μ1
theorem w_r1 {a : E} {q : List D → Mu → Prop} : (evi P Γ (.r1 a) ρ μ).wp q ↔ (ev P Γ a ρ μ).wp fun x μ1 => x.asI fun i => q (rngs 0 i.toNat 1) μ1 := by
  simp only [evi, wp_bind]
  have : ∀ (x : D) (μ1 : Mu), Out.wp (match x with
    | .int i => .ok (rngs 0 i.toNat 1) μ1
    | _ => .bad) q ↔ x.asI fun i => q (rngs 0 i.toNat 1) μ1 := fun x μ1 => by cases x <;> exact Iff.rfl
  exact wp_congr fun d1 μ1 => this d1 μ1
theorem w_r2 {a b : E} {q : List D → Mu → Prop} : (evi P Γ (.r2 a b) ρ μ).wp q ↔ (ev P Γ a ρ μ).wp fun x μ1 => (ev P Γ b ρ μ1).wp fun y μ2 => x.asI fun i => y.asI fun j => q (rngs i (j - i).toNat 1) μ2 := by
  simp only [evi, wp_bind]
  have : ∀ (x y : D) (μ1 : Mu), Out.wp (match x, y with
    | .int i, .int j => .ok (rngs i (j - i).toNat 1) μ1
    | _, _ => .bad) q ↔ x.asI fun i => y.asI fun j => q (rngs i (j - i).toNat 1) μ1 := fun x y μ1 => by cases x <;> cases y <;> exact Iff.rfl
  exact wp_congr fun d1 μ1 => wp_congr fun d2 μ2 => this d1 d2 μ2
theorem w_enum {e : E} {q : List D → Mu → Prop} : (evi P Γ (.enum e) ρ μ).wp q ↔ (ev P Γ e ρ μ).wp fun x μ1 => seqW x fun l => q (enumF 0 l) μ1 := by
  simp only [evi, wp_bind]
  have : ∀ (x : D) (μ1 : Mu), Out.wp (match seqOf x with
    | some l => .ok (enumF 0 l) μ1
    | none => .bad) q ↔ seqW x fun l => q (enumF 0 l) μ1 := fun x μ1 => by cases x <;> exact Iff.rfl
  exact wp_congr fun d1 μ1 => this d1 μ1
def lstW (x : D) (k : List D → Prop) : Prop := match x with
  | .lst l => k l
  | _ => False
theorem lst_lst {l : List D} {k : List D → Prop} : lstW (.lst l) k ↔ k l := Iff.rfl
theorem w_zip {a b : E} {q : List D → Mu → Prop} : (evi P Γ (.zip a b) ρ μ).wp q ↔ (ev P Γ a ρ μ).wp fun x μ1 => (ev P Γ b ρ μ1).wp fun y μ2 => lstW x fun l => lstW y fun l2 => q ((l.zip l2).map fun p => .tup [p.1, p.2]) μ2 := by
  simp only [evi, wp_bind]
  have : ∀ (x y : D) (μ1 : Mu), Out.wp (match x, y with
    | .lst l, .lst l2 => .ok ((l.zip l2).map fun p => .tup [p.1, p.2]) μ1
    | _, _ => .bad) q ↔ lstW x fun l => lstW y fun l2 => q ((l.zip l2).map fun p => .tup [p.1, p.2]) μ1 := fun x y μ1 => by cases x <;> cases y <;> exact Iff.rfl
  exact wp_congr fun d1 μ1 => wp_congr fun d2 μ2 => this d1 d2 μ2
theorem w_zip3 {a b c : E} {q : List D → Mu → Prop} : (evi P Γ (.zip3 a b c) ρ μ).wp q ↔ (ev P Γ a ρ μ).wp fun x μ1 => (ev P Γ b ρ μ1).wp fun y μ2 => (ev P Γ c ρ μ2).wp fun z μ3 => lstW x fun l => lstW y fun l2 => lstW z fun l3 => q (zip3 l l2 l3) μ3 := by
  simp only [evi, wp_bind]
  have : ∀ (x y z : D) (μ1 : Mu), Out.wp (match x, y, z with
    | .lst l, .lst l2, .lst l3 => .ok (zip3 l l2 l3) μ1
    | _, _, _ => .bad) q ↔ lstW x fun l => lstW y fun l2 => lstW z fun l3 => q (zip3 l l2 l3) μ1 := fun x y z μ1 => by cases x <;> cases y <;> first | exact Iff.rfl | (cases z <;> exact Iff.rfl)
  exact wp_congr fun d1 μ1 => wp_congr fun d2 μ2 => wp_congr fun d3 μ3 => this d1 d2 d3 μ3
theorem tgo_nm {i : Nat} {d : D} : tgo (.nm i) d ρ = some (Sl.put ρ i (.val d)) := rfl
theorem tgo_tp2 {i j : Nat} {a b : D} : tgo (.tp [i, j]) (.tup [a, b]) ρ = some (Sl.put (Sl.put ρ i (.val a)) j (.val b)) := rfl
theorem tgo_tp3 {i j k : Nat} {a b c : D} : tgo (.tp [i, j, k]) (.tup [a, b, c]) ρ = some (Sl.put (Sl.put (Sl.put ρ i (.val a)) j (.val b)) k (.val c)) := rfl
theorem w_add {i j : Int} : (bop P Γ .Add (.int i) (.int j) μ).wp Q ↔ Q (.int (i + j)) μ := Iff.rfl
theorem w_sub {i j : Int} : (bop P Γ .Sub (.int i) (.int j) μ).wp Q ↔ Q (.int (i - j)) μ := Iff.rfl
theorem w_mul {i j : Int} : (bop P Γ .Mult (.int i) (.int j) μ).wp Q ↔ i.natAbs.log2 + j.natAbs.log2 < 1000000 ∧ Q (.int (i * j)) μ := by simp only [bop, wp_if, wp_ok]
theorem w_fdiv {i j : Int} : (bop P Γ .FloorDiv (.int i) (.int j) μ).wp Q ↔ (0 < j ∧ j.natAbs.log2 < 9000) ∧ Q (.int (i / j)) μ := by simp only [bop, wp_if, wp_ok]
theorem w_mod {i j : Int} : (bop P Γ .Mod (.int i) (.int j) μ).wp Q ↔ 0 < j ∧ Q (.int (i % j)) μ := by simp only [bop, wp_if, wp_ok]
theorem w_pow {i j : Int} : (bop P Γ .Pow (.int i) (.int j) μ).wp Q ↔ (0 ≤ j ∧ j ≤ 1000000 ∧ i.natAbs < 2 ^ 64) ∧ Q (.int (i ^ j.toNat)) μ := by simp only [bop, wp_if, wp_ok]
theorem w_shr {i j : Int} : (bop P Γ .RShift (.int i) (.int j) μ).wp Q ↔ 0 ≤ j ∧ Q (.int (i / 2 ^ j.toNat)) μ := by simp only [bop, wp_if, wp_ok]
theorem w_lcat {x y : List D} : (bop P Γ .Add (.lst x) (.lst y) μ).wp Q ↔ (x ++ y).length ≤ 16777216 ∧ Q (.lst (x ++ y)) μ := by simp only [bop, if_true, lenOk, wp_if, wp_ok]
theorem w_tcat {x y : List D} : (bop P Γ .Add (.tup x) (.tup y) μ).wp Q ↔ (x ++ y).length ≤ 16777216 ∧ Q (.tup (x ++ y)) μ := by simp only [bop, if_true, lenOk, wp_if, wp_ok]
theorem w_neg {i : Int} : (uop P Γ .USub (.int i) μ).wp Q ↔ Q (.int (-i)) μ := Iff.rfl
theorem w_lt {i j : Int} : (cop P Γ .Lt (.int i) (.int j) μ).wp Q ↔ Q (.bl (decide (i < j))) μ := Iff.rfl
theorem w_le {i j : Int} : (cop P Γ .LtE (.int i) (.int j) μ).wp Q ↔ Q (.bl (decide (i ≤ j))) μ := Iff.rfl
theorem w_gt {i j : Int} : (cop P Γ .Gt (.int i) (.int j) μ).wp Q ↔ Q (.bl (decide (j < i))) μ := Iff.rfl
theorem w_ge {i j : Int} : (cop P Γ .GtE (.int i) (.int j) μ).wp Q ↔ Q (.bl (decide (j ≤ i))) μ := Iff.rfl
theorem deq_int {i j : Int} : deq (.int i) (.int j) = some (decide (i = j)) := by
  unfold deq
  simp only [D.py]
  rw [if_pos ⟨rfl, rfl⟩]
  congr 1
theorem w_eq {i j : Int} : (cop P Γ .Eq (.int i) (.int j) μ).wp Q ↔ Q (.bl (decide (i = j))) μ := by
  show Out.wp (match deq (.int i) (.int j) with | some k => .ok (.bl k) μ | none => .bad) Q ↔ _
  rw [deq_int]; exact Iff.rfl
theorem w_ne {i j : Int} : (cop P Γ .NotEq (.int i) (.int j) μ).wp Q ↔ Q (.bl (!decide (i = j))) μ := by
  show Out.wp (match deq (.int i) (.int j) with | some k => .ok (.bl (!k)) μ | none => .bad) Q ↔ _
  rw [deq_int]; exact Iff.rfl
theorem w_ixt {l : List D} {i : Int} : (ixop P Γ (.tup l) (.int i) μ).wp Q ↔ opt (at? l i) fun d => Q d μ := by
  simp only [ixop]
  cases at? l i <;> exact Iff.rfl
theorem w_ixl {l : List D} {i : Int} : (ixop P Γ (.lst l) (.int i) μ).wp Q ↔ opt (at? l i) fun d => Q d μ := by
  simp only [ixop]
  cases at? l i <;> exact Iff.rfl
theorem w_len {l : List D} : (bltop P Γ .len [.lst l] μ).wp Q ↔ Q (.int l.length) μ := Iff.rfl
theorem w_lenT {l : List D} : (bltop P Γ .len [.tup l] μ).wp Q ↔ Q (.int l.length) μ := Iff.rfl
theorem w_abs {i : Int} : (bltop P Γ .abs [.int i] μ).wp Q ↔ Q (.int (if i < 0 then -i else i)) μ := Iff.rfl
theorem w_toint {i : Int} : (bltop P Γ .int [.int i] μ).wp Q ↔ Q (.int i) μ := Iff.rfl
theorem w_totup {l : List D} : (bltop P Γ .tuple [.lst l] μ).wp Q ↔ Q (.tup l) μ := Iff.rfl
theorem w_totupT {l : List D} : (bltop P Γ .tuple [.tup l] μ).wp Q ↔ Q (.tup l) μ := Iff.rfl
theorem w_tolst {l : List D} : (bltop P Γ .list [.lst l] μ).wp Q ↔ Q (.lst l) μ := Iff.rfl
theorem w_tolstT {l : List D} : (bltop P Γ .list [.tup l] μ).wp Q ↔ Q (.lst l) μ := Iff.rfl
theorem w_divmod {i j : Int} : (bltop P Γ .divmod [.int i, .int j] μ).wp Q ↔ (0 < j ∧ j.natAbs.log2 < 9000) ∧ Q (.tup [.int (i / j), .int (i % j)]) μ := by simp only [bltop, wp_if, wp_ok]
theorem w_min {i j : Int} : (bltop P Γ .min2 [.int i, .int j] μ).wp Q ↔ Q (.int (if j < i then j else i)) μ := Iff.rfl
theorem w_max {i j : Int} : (bltop P Γ .max2 [.int i, .int j] μ).wp Q ↔ Q (.int (if j > i then j else i)) μ := Iff.rfl
theorem w_isInt {i : Int} : (bltop P Γ .isInt [.int i] μ).wp Q ↔ Q (.bl true) μ := Iff.rfl
theorem w_isBool {i : Int} : (bltop P Γ .isBool [.int i] μ).wp Q ↔ Q (.bl false) μ := Iff.rfl
theorem w_isTup {l : List D} : (bltop P Γ .isTup [.tup l] μ).wp Q ↔ Q (.bl true) μ := Iff.rfl
theorem w_lcm {i j : Int} : (bltop P Γ .lcm [.int i, .int j] μ).wp Q ↔ (i.natAbs.log2 < 6000 ∧ j.natAbs.log2 < 6000) ∧ Q (.int (Nat.lcm i.natAbs j.natAbs : Nat)) μ := by simp only [bltop, wp_if, wp_ok]
theorem w_set {i : Nat} {e : E} : (exs P Γ (.set i e) ρ μ).wp N R B C ↔ (ev P Γ e ρ μ).wp fun d μ1 => N (Sl.put ρ i (.val d)) μ1 := by simp only [exs, wp_so] <;> exact Iff.rfl
theorem w_bld {i : Nat} {e : E} : (exs P Γ (.bld i e) ρ μ).wp N R B C ↔ (ev P Γ e ρ μ).wp fun d μ1 => lstW d fun l => N (Sl.put ρ i (.own l)) μ1 := by
  simp only [exs, wp_so]
  have : ∀ (d : D) (μ1 : Mu), So.wp (match d with
    | .lst l => .nx (Sl.put ρ i (.own l)) μ1
    | _ => .bad) N R B C ↔ lstW d fun l => N (Sl.put ρ i (.own l)) μ1 := fun d μ1 => by cases d <;> exact Iff.rfl
  exact wp_congr fun d1 μ1 => this d1 μ1
theorem w_par {i j : Nat} {a b : E} {oi oj : Bool} : (exs P Γ (.par i j a b oi oj) ρ μ).wp N R B C ↔ (ev P Γ a ρ μ).wp fun x μ1 => (ev P Γ b ρ μ1).wp fun y μ2 => opt (slot oi x) fun s => opt (slot oj y) fun t => N (Sl.put (Sl.put ρ i s) j t) μ2 := by
  simp only [exs, wp_so]
  have : ∀ (x y : D) (μ2 : Mu), So.wp (match slot oi x, slot oj y with
    | some s, some t => .nx (Sl.put (Sl.put ρ i s) j t) μ2
    | _, _ => .bad) N R B C ↔ opt (slot oi x) fun s => opt (slot oj y) fun t => N (Sl.put (Sl.put ρ i s) j t) μ2 := fun x y μ2 => by
    cases slot oi x <;> cases slot oj y <;> exact Iff.rfl
  exact wp_congr fun d1 μ1 => wp_congr fun d2 μ2 => this d1 d2 μ2
theorem slot_f {d : D} : slot false d = some (.val d) := rfl
theorem slot_t {l : List D} : slot true (.lst l) = some (.own l) := rfl
theorem w_unp {is : List Nat} {e : E} : (exs P Γ (.un is e) ρ μ).wp N R B C ↔ (ev P Γ e ρ μ).wp fun d μ1 => opt (tgo (.tp is) d ρ) fun ρ1 => N ρ1 μ1 := by
  simp only [exs, wp_so]
  have : ∀ (d : D) (μ1 : Mu), So.wp (match tgo (.tp is) d ρ with
    | some ρ1 => .nx ρ1 μ1
    | none => .bad) N R B C ↔ opt (tgo (.tp is) d ρ) fun ρ1 => N ρ1 μ1 := fun d μ1 => by cases tgo (.tp is) d ρ <;> exact Iff.rfl
  exact wp_congr fun d1 μ1 => this d1 μ1
theorem w_appd {i : Nat} {e : E} : (exs P Γ (.app i e) ρ μ).wp N R B C ↔ (ev P Γ e ρ μ).wp fun d μ1 => (Sl.get ρ i).asO fun l => l.length < 16777216 ∧ N (Sl.put ρ i (.own (l ++ [d]))) μ1 := by
  simp only [exs, wp_so]
  have : ∀ (d : D) (μ1 : Mu), So.wp (match Sl.get ρ i with
    | .own l => if l.length < cap then .nx (Sl.put ρ i (.own (l ++ [d]))) μ1 else .bad
    | _ => .bad) N R B C ↔ (Sl.get ρ i).asO fun l => l.length < 16777216 ∧ N (Sl.put ρ i (.own (l ++ [d]))) μ1 := fun d μ1 => by
    cases Sl.get ρ i with
    | own l =>
      dsimp only [Sl.asO]
      split
      · rename_i h; exact ⟨fun q => ⟨h, q⟩, fun q => q.2⟩
      · rename_i h; exact ⟨fun q => q.elim, fun q => absurd q.1 h⟩
    | _ => exact Iff.rfl
  exact wp_congr fun d1 μ1 => this d1 μ1
theorem w_put {i : Nat} {k e : E} : (exs P Γ (.put i k e) ρ μ).wp N R B C ↔ (ev P Γ e ρ μ).wp fun d μ1 => (ev P Γ k ρ μ1).wp fun y μ2 => (Sl.get ρ i).asO fun l => y.asI fun n => opt (L2.ixN l.length n) fun j => N (Sl.put ρ i (.own (l.set j d))) μ2 := by
  simp only [exs, wp_so]
  have : ∀ (d y : D) (μ2 : Mu), So.wp (match Sl.get ρ i, y with
    | .own l, .int n => match L2.ixN l.length n with
      | some j => .nx (Sl.put ρ i (.own (l.set j d))) μ2
      | none => .bad
    | _, _ => .bad) N R B C ↔ (Sl.get ρ i).asO fun l => y.asI fun n => opt (L2.ixN l.length n) fun j => N (Sl.put ρ i (.own (l.set j d))) μ2 := fun d y μ2 => by
    cases Sl.get ρ i with
    | own l =>
      cases y with
      | int n => dsimp only [Sl.asO, D.asI, opt]; cases L2.ixN l.length n <;> exact Iff.rfl
      | _ => exact Iff.rfl
    | _ => exact Iff.rfl
  exact wp_congr fun d1 μ1 => wp_congr fun d2 μ2 => this d1 d2 μ2
def dputW (key : Str) (d x : D) (μ : Mu) (q : Mu → Prop) : Prop := match x with
  | .cel k => opt μ[k]? fun kvs => opt (dset kvs key d) fun kvs' => q (μ.set k kvs')
  | _ => False
theorem w_dput {o e : E} {key : Str} : (exs P Γ (.dput o key e) ρ μ).wp N R B C ↔ (ev P Γ e ρ μ).wp fun d μ1 => (ev P Γ o ρ μ1).wp fun x μ2 => dputW key d x μ2 fun μ3 => N ρ μ3 := by
  simp only [exs, wp_so]
  have : ∀ (d x : D) (μ2 : Mu), So.wp (match x with
    | .cel k => match μ2[k]? with
      | some kvs => match dset kvs key d with
        | some kvs' => .nx ρ (μ2.set k kvs')
        | none => .bad
      | none => .bad
    | _ => .bad) N R B C ↔ dputW key d x μ2 fun μ3 => N ρ μ3 := fun d x μ2 => by
    cases x with
    | cel k =>
      dsimp only [dputW, opt]
      cases μ2[k]? with
      | none => exact Iff.rfl
      | some kvs => dsimp only; cases dset kvs key d <;> exact Iff.rfl
    | _ => exact Iff.rfl
  exact wp_congr fun d1 μ1 => wp_congr fun d2 μ2 => this d1 d2 μ2
theorem w_dput2 {o1 o2 e1 e2 : E} {k1 k2 : Str} : (exs P Γ (.dput2 o1 k1 o2 k2 e1 e2) ρ μ).wp N R B C ↔ (ev P Γ e1 ρ μ).wp fun d1 μ1 => (ev P Γ e2 ρ μ1).wp fun d2 μ2 => (ev P Γ o1 ρ μ2).wp fun x1 μ3 => dputW k1 d1 x1 μ3 fun μ4 => (ev P Γ o2 ρ μ4).wp fun x2 μ5 => dputW k2 d2 x2 μ5 fun μ6 => N ρ μ6 := by
  simp only [exs, wp_so]
  have Z : ∀ (d2 x2 : D) (μ5 : Mu), So.wp (match x2 with
          | .cel m => match μ5[m]? with
            | some kvs2 => match dset kvs2 k2 d2 with
              | some kvs2' => .nx ρ (μ5.set m kvs2')
              | none => .bad
            | none => .bad
          | _ => .bad) N R B C ↔ dputW k2 d2 x2 μ5 fun μ3 => N ρ μ3 := fun d x μ2 => by
    cases x with
    | cel k =>
      dsimp only [dputW, opt]
      cases μ2[k]? with
      | none => exact Iff.rfl
      | some kvs => dsimp only; cases dset kvs k2 d <;> exact Iff.rfl
    | _ => exact Iff.rfl
  have : ∀ (d1 d2 x1 : D) (μ3 : Mu), So.wp (match x1 with
    | .cel k => match μ3[k]? with
      | some kvs => match dset kvs k1 d1 with
        | some kvs' => (ev P Γ o2 ρ (μ3.set k kvs')).so fun x2 μ4 => match x2 with
          | .cel m => match μ4[m]? with
            | some kvs2 => match dset kvs2 k2 d2 with
              | some kvs2' => .nx ρ (μ4.set m kvs2')
              | none => .bad
            | none => .bad
          | _ => .bad
        | none => .bad
      | none => .bad
    | _ => .bad) N R B C ↔ dputW k1 d1 x1 μ3 fun μ4 => (ev P Γ o2 ρ μ4).wp fun x2 μ5 => dputW k2 d2 x2 μ5 fun μ6 => N ρ μ6 := fun d1 d2 x μ3 => by
    cases x with
    | cel k =>
      dsimp only [dputW, opt]
      cases μ3[k]? with
      | none => exact Iff.rfl
      | some kvs =>
        dsimp only
        cases dset kvs k1 d1 with
        | none => exact Iff.rfl
        | some kvs' =>
          dsimp only
          rw [wp_so]
          simp only [Z]
          exact Iff.rfl
    | _ => exact Iff.rfl
  exact wp_congr fun d1 μ1 => wp_congr fun d2 μ2 => wp_congr fun x1 μ3 => this d1 d2 x1 μ3
theorem w_frz {i : Nat} : (exs P Γ (.frz i) ρ μ).wp N R B C ↔ (Sl.get ρ i).asO fun l => N (Sl.put ρ i (.val (.lst l))) μ := by
  simp only [exs]
  cases Sl.get ρ i <;> exact Iff.rfl
theorem w_if {c : E} {t e : Ss} : (exs P Γ (.ife c t e) ρ μ).wp N R B C ↔ (ev P Γ c ρ μ).wp fun x μ1 => x.tst fun k => if k then (exss P Γ t ρ μ1).wp N R B C else (exss P Γ e ρ μ1).wp N R B C := by
  simp only [exs, wp_so]
  have : ∀ (k : D) (μ1 : Mu), So.wp (match k with
    | .bl true => exss P Γ t ρ μ1
    | .bl false => exss P Γ e ρ μ1
    | _ => .bad) N R B C ↔ k.tst fun k => if k then (exss P Γ t ρ μ1).wp N R B C else (exss P Γ e ρ μ1).wp N R B C := fun k μ1 => by
    cases k with
    | bl b => cases b <;> exact Iff.rfl
    | _ => exact Iff.rfl
  exact wp_congr fun d1 μ1 => this d1 μ1
theorem w_ret {e : E} : (exs P Γ (.ret e) ρ μ).wp N R B C ↔ (ev P Γ e ρ μ).wp R := by simp only [exs, wp_so] <;> exact Iff.rfl
theorem w_retN : (exs P Γ .retN ρ μ).wp N R B C ↔ R .non μ := Iff.rfl
theorem w_brk : (exs P Γ .brk ρ μ).wp N R B C ↔ B ρ μ := Iff.rfl
theorem w_cnt : (exs P Γ .cnt ρ μ).wp N R B C ↔ C ρ μ := Iff.rfl
theorem w_pas : (exs P Γ .pas ρ μ).wp N R B C ↔ N ρ μ := Iff.rfl
theorem w_never : (exs P Γ .never ρ μ).wp N R B C ↔ False := Iff.rfl
theorem w_exp {e : E} : (exs P Γ (.exp e) ρ μ).wp N R B C ↔ (ev P Γ e ρ μ).wp fun _ μ1 => N ρ μ1 := by simp only [exs, wp_so] <;> exact Iff.rfl
theorem w_init {c : Nat} {e : E} : (exs P Γ (.init c e) ρ μ).wp N R B C ↔ (ev P Γ e ρ μ).wp fun d μ1 => match d with | .tup l => l.length = P.nflds c ∧ R (.obj c l) μ1 | _ => False := by
  simp only [exs, wp_so]
  have : ∀ (d : D) (μ1 : Mu), So.wp (match d with
    | .tup l => if l.length = P.nflds c then .ret (.obj c l) μ1 else .bad
    | _ => .bad) N R B C ↔ match d with | .tup l => l.length = P.nflds c ∧ R (.obj c l) μ1 | _ => False := fun d μ1 => by
    cases d with
    | tup l =>
      dsimp only
      split
      · rename_i h; exact ⟨fun q => ⟨h, q⟩, fun q => q.2⟩
      · rename_i h; exact ⟨fun q => q.elim, fun q => absurd q.1 h⟩
    | _ => exact Iff.rfl
  exact wp_congr fun d1 μ1 => this d1 μ1
theorem w_nil : (exss P Γ .nil ρ μ).wp N R B C ↔ N ρ μ := Iff.rfl
theorem w_cons {s : S} {ss : Ss} : (exss P Γ (.cons s ss) ρ μ).wp N R B C ↔ (exs P Γ s ρ μ).wp (fun ρ μ => (exss P Γ ss ρ μ).wp N R B C) R B C := by simp only [exss, wp_sbind]
def forF (P : Pr) (Γ : Gam) (t : Tg) (b : Ss) : D → Rho → Mu → So := fun d ρ μ => match tgo t d ρ with
  | some ρ1 => exss P Γ b ρ1 μ
  | none => .bad
theorem w_for {t : Tg} {it : It} {b : Ss} : (exs P Γ (.for t it b) ρ μ).wp N R B C ↔ (evi P Γ it ρ μ).wp fun items μ1 => (forgo (forF P Γ t b) items ρ μ1).wp N R B C := by simp only [exs, wp_so] <;> exact Iff.rfl
theorem w_forF {t : Tg} {b : Ss} {d : D} : (forF P Γ t b d ρ μ).wp N R B C ↔ opt (tgo t d ρ) fun ρ1 => (exss P Γ b ρ1 μ).wp N R B C := by
  unfold forF
  cases tgo t d ρ <;> exact Iff.rfl
theorem for_inv {f : D → Rho → Mu → So} (I : List D → Rho → Mu → Prop) (hs : ∀ d ds ρ μ, I (d :: ds) ρ μ → (f d ρ μ).wp (fun ρ' μ' => I ds ρ' μ') R (fun ρ' μ' => N ρ' μ') (fun ρ' μ' => I ds ρ' μ')) (he : ∀ ρ μ, I [] ρ μ → N ρ μ) : ∀ {items : List D} {ρ : Rho} {μ : Mu}, I items ρ μ → (forgo f items ρ μ).wp N R B C
  | [], ρ, μ, h => he ρ μ h
  | d :: ds, ρ, μ, h => by
    have z := hs d ds ρ μ h
    unfold forgo
    cases e : f d ρ μ with
    | nx ρ1 μ1 => rw [e] at z; exact for_inv I hs he z
    | cnt ρ1 μ1 => rw [e] at z; exact for_inv I hs he z
    | brk ρ1 μ1 => rw [e] at z; exact z
    | ret d μ1 => rw [e] at z; exact z
    | err x μ1 => rw [e] at z; exact z
    | bad => rw [e] at z; exact z
def Ss.drop : Nat → Ss → Ss
  | 0, s => s
  | n + 1, .cons _ s => Ss.drop n s
  | _, .nil => .nil
theorem forgo_nil0 {P : Pr} {f : D → Rho → Mu → So} {ρ : Rho} {μ : Mu} {N : Rho → Mu → Prop} {R : D → Mu → Prop} {B C : Rho → Mu → Prop} : (forgo f [] ρ μ).wp N R B C ↔ N ρ μ := Iff.rfl
theorem forgo_cons {f : D → Rho → Mu → So} {d : D} {ds : List D} {ρ : Rho} {μ : Mu} {N : Rho → Mu → Prop} {R : D → Mu → Prop} {B C : Rho → Mu → Prop} (h : (f d ρ μ).wp (fun ρ1 μ1 => (forgo f ds ρ1 μ1).wp N R B C) R N (fun ρ1 μ1 => (forgo f ds ρ1 μ1).wp N R B C)) : (forgo f (d :: ds) ρ μ).wp N R B C := by
  unfold forgo
  cases e : f d ρ μ with
  | nx ρ1 μ1 => rw [e] at h; exact h
  | cnt ρ1 μ1 => rw [e] at h; exact h
  | brk ρ1 μ1 => rw [e] at h; exact h
  | ret d μ1 => rw [e] at h; exact h
  | err x μ1 => rw [e] at h; exact h
  | bad => rw [e] at h; exact h
theorem w_whl {c : E} {b : Ss} : (exs P Γ (.whl c b) ρ μ).wp N R B C ↔ (whlgo (ev P Γ c) (exss P Γ b) fuel ρ μ).wp N R B C := by simp only [exs]
theorem whl_inv {c : Rho → Mu → Out D} {f : Rho → Mu → So} (I : Nat → Rho → Mu → Prop) (hs : ∀ m ρ μ, I m ρ μ → (c ρ μ).wp fun k μ1 => k.tst fun b => if b then (f ρ μ1).wp (fun ρ' μ' => ∃ m', m' < m ∧ I m' ρ' μ') R (fun ρ' μ' => N ρ' μ') (fun ρ' μ' => ∃ m', m' < m ∧ I m' ρ' μ') else N ρ μ1) : ∀ (n m : Nat) {ρ : Rho} {μ : Mu}, m < n → I m ρ μ → (whlgo c f n ρ μ).wp N R B C := fun n => by
  induction n with
  | zero => intro m ρ μ h; omega
  | succ n ih =>
    intro m ρ μ hm h
    have z := hs m ρ μ h
    unfold whlgo
    rw [wp_so]
    refine Out.wp_mono z fun k μ1 q => ?_
    cases k with
    | bl b =>
      cases b with
      | false => exact q
      | true =>
        have q : (f ρ μ1).wp (fun ρ' μ' => ∃ m', m' < m ∧ I m' ρ' μ') R (fun ρ' μ' => N ρ' μ') (fun ρ' μ' => ∃ m', m' < m ∧ I m' ρ' μ') := q
        show So.wp (match f ρ μ1 with
          | .nx ρ1 μ2 => whlgo c f n ρ1 μ2
          | .cnt ρ1 μ2 => whlgo c f n ρ1 μ2
          | .brk ρ1 μ2 => .nx ρ1 μ2
          | o => o) N R B C
        cases e : f ρ μ1 with
        | nx ρ1 μ1 =>
          rw [e] at q
          obtain ⟨m', h1, h2⟩ := q
          exact ih m' (by omega) h2
        | cnt ρ1 μ1 =>
          rw [e] at q
          obtain ⟨m', h1, h2⟩ := q
          exact ih m' (by omega) h2
        | brk ρ1 μ1 => rw [e] at q; exact q
        | ret d μ1 => rw [e] at q; exact q
        | err x μ1 => rw [e] at q; exact q
        | bad => rw [e] at q; exact q
    | _ => exact q.elim
theorem wp_run {fds : Nat → Option Fd} {f k : Nat} {fd : Fd} {ds : List D} (hf : fds f = some fd) (hl : ds.length = fd.pars) (h : (exss P (run P fds k) fd.body (begins fd ds) μ).wp (fun _ μ1 => Q .non μ1) Q (fun _ _ => False) (fun _ _ => False)) : (run P fds (k + 1) f ds μ).wp Q := by
  show Out.wp (match fds f with | some fd => callF P (run P fds k) fd ds μ | none => .bad) Q
  rw [hf]
  show (callF P (run P fds k) fd ds μ).wp Q
  unfold callF
  rw [if_pos hl]
  cases e : exss P (run P fds k) fd.body (begins fd ds) μ with
  | nx ρ1 μ1 => rw [e] at h; exact h
  | ret d μ1 => rw [e] at h; exact h
  | brk ρ1 μ1 => rw [e] at h; exact h
  | cnt ρ1 μ1 => rw [e] at h; exact h
  | err x μ1 => rw [e] at h; exact h
  | bad => rw [e] at h; exact h
end
section
variable {P : Pr} {Γ : Gam} {ρ : Rho} {μ : Mu} {Q : D → Mu → Prop}
theorem w_esS {e : E} {es : Es} {q : List D → Mu → Prop} : (evs P Γ (.star e es) ρ μ).wp q ↔ (ev P Γ e ρ μ).wp fun x μ1 => seqW x fun l => (evs P Γ es ρ μ1).wp fun ds μ2 => q (l ++ ds) μ2 := by
  simp only [evs, wp_bind]
  refine wp_congr fun x μ1 => ?_
  cases x <;> first | exact Iff.rfl | (simp only [seqOf, seqW, wp_bind, wp_ok])
def lc2Step (P : Pr) (Γ : Gam) (own : List Nat) (t : Tg) (own2 : List Nat) (t2 : Tg) (it2 : It) (e : E) (ρ : Rho) : D → Mu → Out (Option D) := fun d μ => match tgo t d (Sl.wipe ρ own) with
  | none => .bad
  | some ρ1 => (evi P Γ it2 ρ1 μ).bind fun items2 μ1 => (lcgo (fun d2 μ => match tgo t2 d2 (Sl.wipe ρ1 own2) with
    | none => .bad
    | some ρ2 => (ev P Γ e ρ2 μ).bind fun x μ2 => .ok (some x) μ2) items2 μ1).bind fun l μ2 => .ok (some (.lst l)) μ2
def unl (d : D) : List D := match d with
  | .lst l => l
  | _ => []
theorem w_lc2 {own own2 : List Nat} {t t2 : Tg} {it it2 : It} {e : E} : (ev P Γ (.lc2 own t it own2 t2 it2 e) ρ μ).wp Q ↔ (evi P Γ it ρ μ).wp fun items μ1 => (lcgo (lc2Step P Γ own t own2 t2 it2 e ρ) items μ1).wp fun ls μ2 => (ls.flatMap unl).length ≤ 16777216 ∧ Q (.lst (ls.flatMap unl)) μ2 := by
  simp only [ev, wp_bind, lenOk, wp_if, wp_ok]
  exact Iff.rfl
theorem w_lc2S {own own2 : List Nat} {t t2 : Tg} {it2 : It} {e : E} {d : D} {q : Option D → Mu → Prop} : (lc2Step P Γ own t own2 t2 it2 e ρ d μ).wp q ↔ opt (tgo t d (Sl.wipe ρ own)) fun ρ1 => (evi P Γ it2 ρ1 μ).wp fun items2 μ1 => (lcgo (lcStep P Γ own2 t2 .none e ρ1) items2 μ1).wp fun l μ2 => q (some (.lst l)) μ2 := by
  unfold lc2Step
  cases tgo t d (Sl.wipe ρ own) with
  | none => exact Iff.rfl
  | some ρ1 =>
    dsimp only [opt]
    rw [wp_bind]
    refine wp_congr fun items2 μ1 => ?_
    rw [wp_bind]
    exact Iff.rfl
theorem w_r3 {a b : E} {c : Int} {q : List D → Mu → Prop} : (evi P Γ (.r3 a b c) ρ μ).wp q ↔ (ev P Γ a ρ μ).wp fun x μ1 => (ev P Γ b ρ μ1).wp fun y μ2 => x.asI fun i => y.asI fun j => (inR i = true ∧ inR j = true ∧ c = -1) ∧ q (rngs i (i - j).toNat (-1)) μ2 := by
  simp only [evi, wp_bind]
  refine wp_congr fun x μ1 => wp_congr fun y μ2 => ?_
  cases x <;> cases y <;> first | exact Iff.rfl | (simp only [D.asI, wp_if, wp_ok])
def methW (P : Pr) (Γ : Gam) (m : Nat) (x : D) (ds : List D) (μ : Mu) (Q : D → Mu → Prop) : Prop := match x with
  | .obj c fs => opt (P.meth c m) fun f => (Γ f (.obj c fs :: ds) μ).wp Q
  | _ => False
theorem methW_obj {m c : Nat} {fs ds : List D} : methW P Γ m (.obj c fs) ds μ Q ↔ opt (P.meth c m) fun f => (Γ f (.obj c fs :: ds) μ).wp Q := Iff.rfl
theorem callM_wp {c m : Nat} {ds : List D} : (callM P Γ c m ds μ).wp Q ↔ opt (P.meth c m) fun f => (Γ f ds μ).wp Q := by
  unfold callM
  cases P.meth c m <;> exact Iff.rfl
theorem w_meth {o : E} {m : Nat} {as : Es} : (ev P Γ (.meth o m as) ρ μ).wp Q ↔ (ev P Γ o ρ μ).wp fun x μ1 => (evs P Γ as ρ μ1).wp fun ds μ2 => methW P Γ m x ds μ2 Q := by
  simp only [ev, wp_bind]
  refine wp_congr fun x μ1 => wp_congr fun ds μ2 => ?_
  cases x <;> first | exact Iff.rfl | exact callM_wp
theorem w_stat {f : Nat} {as : Es} : (ev P Γ (.stat f as) ρ μ).wp Q ↔ (evs P Γ as ρ μ).wp fun ds μ1 => (Γ f ds μ1).wp Q := by simp only [ev, wp_bind]
theorem w_appE {o : E} {as : Es} : (ev P Γ (.appE o as) ρ μ).wp Q ↔ (ev P Γ o ρ μ).wp fun x μ1 => appW P Γ (.val x) (evs P Γ as ρ μ1) Q := by
  simp only [ev, wp_bind]
  refine wp_congr fun x μ1 => ?_
  cases x with
  | obj c fs =>
    simp only [appW, wp_bind]
    exact wp_congr fun ds μ2 => callM_wp
  | _ => exact Iff.rfl
theorem appW_o {c : Nat} {fs : List D} {r : Out (List D)} : appW P Γ (.val (.obj c fs)) r Q ↔ r.wp fun ds μ1 => opt (P.meth c 52) fun f => (Γ f (.obj c fs :: ds) μ1).wp Q := Iff.rfl
theorem fldW_f {f c i : Nat} {fs : List D} (h : P.fld c f = some i) : fldW P Γ f (.obj c fs) μ Q ↔ opt fs[i]? fun d => Q d μ := by unfold fldW; dsimp only; rw [h]
theorem fldW_p {f c g : Nat} {fs : List D} (h : P.fld c f = none) (hp : P.prop c f = some g) : fldW P Γ f (.obj c fs) μ Q ↔ (Γ g [.obj c fs] μ).wp Q := by unfold fldW; dsimp only; rw [h]; dsimp only; rw [hp]; exact Iff.rfl
theorem w_isObj {c c' : Nat} {fs : List D} : (bltop P Γ (.isObj c) [.obj c' fs] μ).wp Q ↔ c = c' ∧ Q (.bl true) μ := by simp only [bltop, wp_if, wp_ok]
theorem w_all {l : List D} : (bltop P Γ .all [.lst l] μ).wp Q ↔ opt (bools l) fun bs => Q (.bl (bs.all id)) μ := by
  simp only [bltop]
  cases bools l <;> exact Iff.rfl
theorem w_oo {op : Operator} {c c' : Nat} {fs fs' : List D} : (bop P Γ op (.obj c fs) (.obj c' fs') μ).wp Q ↔ c = c' ∧ opt (P.meth c (opM op)) fun f => (Γ f [.obj c fs, .obj c' fs'] μ).wp Q := by
  simp only [bop, wp_if]
  exact and_congr Iff.rfl callM_wp
theorem w_oi {op : Operator} {c : Nat} {fs : List D} {j : Int} : (bop P Γ op (.obj c fs) (.int j) μ).wp Q ↔ P.oi op = true ∧ opt (P.meth c (opM op)) fun f => (Γ f [.obj c fs, .int j] μ).wp Q := by
  simp only [bop, wp_if]
  exact and_congr Iff.rfl callM_wp
theorem w_oinv {c : Nat} {fs : List D} : (uop P Γ .Invert (.obj c fs) μ).wp Q ↔ opt (P.meth c 40) fun f => (Γ f [.obj c fs] μ).wp Q := by
  simp only [uop]
  exact callM_wp
theorem w_oneg {c : Nat} {fs : List D} : (uop P Γ .USub (.obj c fs) μ).wp Q ↔ opt (P.meth c 43) fun f => (Γ f [.obj c fs] μ).wp Q := by
  simp only [uop]
  exact callM_wp
theorem w_olt {c c' : Nat} {fs fs' : List D} : (cop P Γ .Lt (.obj c fs) (.obj c' fs') μ).wp Q ↔ c = c' ∧ opt (P.meth c 32) fun f => (Γ f [.obj c fs, .obj c' fs'] μ).wp Q := by
  simp only [cop, wp_if]
  exact and_congr Iff.rfl callM_wp
theorem w_ole {c c' : Nat} {fs fs' : List D} : (cop P Γ .LtE (.obj c fs) (.obj c' fs') μ).wp Q ↔ c = c' ∧ opt (P.meth c 33) fun f => (Γ f [.obj c fs, .obj c' fs'] μ).wp Q := by
  simp only [cop, wp_if]
  exact and_congr Iff.rfl callM_wp
theorem w_ogt {c c' : Nat} {fs fs' : List D} : (cop P Γ .Gt (.obj c fs) (.obj c' fs') μ).wp Q ↔ c = c' ∧ opt (P.meth c 34) fun f => (Γ f [.obj c fs, .obj c' fs'] μ).wp Q := by
  simp only [cop, wp_if]
  exact and_congr Iff.rfl callM_wp
theorem w_oge {c c' : Nat} {fs fs' : List D} : (cop P Γ .GtE (.obj c fs) (.obj c' fs') μ).wp Q ↔ c = c' ∧ opt (P.meth c 35) fun f => (Γ f [.obj c fs, .obj c' fs'] μ).wp Q := by
  simp only [cop, wp_if]
  exact and_congr Iff.rfl callM_wp
theorem w_oeq {c : Nat} {fs : List D} {b : D} : (cop P Γ .Eq (.obj c fs) b μ).wp Q ↔ objEqOk c b = true ∧ opt (P.meth c 30) fun f => (Γ f [.obj c fs, b] μ).wp Q := by
  simp only [cop, wp_if]
  exact and_congr Iff.rfl callM_wp
theorem w_one' {c : Nat} {fs : List D} {b : D} : (cop P Γ .NotEq (.obj c fs) b μ).wp Q ↔ objEqOk c b = true ∧ opt (P.meth c 30) fun f => (Γ f [.obj c fs, b] μ).wp fun r μ1 => match r with | .bl k => Q (.bl (!k)) μ1 | _ => False := by
  simp only [cop, wp_if, wp_bind]
  refine and_congr Iff.rfl (Iff.trans callM_wp ?_)
  cases P.meth c 30 with
  | none => exact Iff.rfl
  | some f =>
    refine wp_congr fun r μ1 => ?_
    cases r <;> exact Iff.rfl
theorem w_ino {c : Nat} {fs : List D} {a : D} : (cop P Γ .In a (.obj c fs) μ).wp Q ↔ opt (P.meth c 38) fun f => (Γ f [.obj c fs, a] μ).wp fun r μ1 => match r with | .bl k => Q (.bl k) μ1 | _ => False := by
  simp only [cop, wp_bind]
  refine Iff.trans callM_wp ?_
  cases P.meth c 38 with
  | none => exact Iff.rfl
  | some f =>
    refine wp_congr fun r μ1 => ?_
    cases r <;> exact Iff.rfl
theorem w_nino {c : Nat} {fs : List D} {a : D} : (cop P Γ .NotIn a (.obj c fs) μ).wp Q ↔ opt (P.meth c 38) fun f => (Γ f [.obj c fs, a] μ).wp fun r μ1 => match r with | .bl k => Q (.bl (!k)) μ1 | _ => False := by
  simp only [cop, wp_bind]
  refine Iff.trans callM_wp ?_
  cases P.meth c 38 with
  | none => exact Iff.rfl
  | some f =>
    refine wp_congr fun r μ1 => ?_
    cases r <;> exact Iff.rfl
theorem w_io {i : Int} {c : Nat} {fs : List D} : (bop P Γ .Add (.int i) (.obj c fs) μ).wp Q ↔ (P.meth c (opM .Add)).isSome = true ∧ opt (P.meth c 20) fun f => (Γ f [.obj c fs, .int i] μ).wp Q := by
  simp only [bop, true_and, wp_if]
  exact and_congr Iff.rfl callM_wp
theorem w_scat {x y : Str} : (bop P Γ .Add (.str x) (.str y) μ).wp Q ↔ x.length + y.length ≤ 16777216 ∧ Q (.str (x ++ y)) μ := by simp only [bop, true_and, wp_if, wp_ok]
theorem w_strDI {i : Int} : (bltop P Γ .strD [.int i] μ).wp Q ↔ i.natAbs.log2 < 1920 ∧ Q (.str (itx i)) μ := by simp only [bltop, wp_if, wp_ok]
theorem w_strDT {l : List D} : (bltop P Γ .strD [.tup l] μ).wp Q ↔ opt (rptx (.tup l)) fun x => Q (.str x) μ := by
  simp only [bltop]
  cases rptx (.tup l) <;> exact Iff.rfl
theorem w_rev {a : E} : (ev P Γ (.rev a) ρ μ).wp Q ↔ (ev P Γ a ρ μ).wp fun x μ1 => lstW x fun l => Q (.lst l.reverse) μ1 := by
  simp only [ev, wp_bind]
  refine wp_congr fun x μ1 => ?_
  cases x <;> exact Iff.rfl
end
end Vw
set_option Elab.async false
set_option linter.all false
set_option maxRecDepth 100000
set_option maxHeartbeats 4000000
namespace Vw
open PySem L2
theorem from_len : ∀ (ts : List Str) (k : Nat) (acc : Str), (textFrom k acc ts).length ≤ acc.length + piled ts
  | [], k, acc => by show acc.length ≤ _; omega
  | t :: r, k, acc => by
    have ih := from_len r (k + 1) (acc ++ (if k > 0 then ", " else "" : String) ++ t)
    have e : (acc ++ (if k > 0 then ", " else "" : String) ++ t).length ≤ acc.length + 2 + t.length := by
      rw [strLen_append, strLen_append]
      split
      · exact Nat.le_refl _
      · show acc.length + 0 + t.length ≤ _
        omega
    rw [piled_cons]
    show (textFrom (k + 1) _ r).length ≤ _
    omega
theorem list_len (ts : List Str) : (listText ts).length ≤ piled ts + 2 := by
  unfold listText
  rw [strLen_append]
  have := from_len ts 0 "["
  have e1 : (("[" : String) : Str).length = 1 := rfl
  have e2 : (("]" : String) : Str).length = 1 := rfl
  omega
theorem tup_len (ts : List Str) : (tupleText ts).length ≤ piled ts + 3 := by
  unfold tupleText
  rw [strLen_append, strLen_append]
  have e1 : (("(" : String) : Str).length = 1 := rfl
  have e2 : (((if ts.length == 1 then ",)" else ")" : String)) : Str).length ≤ 2 := by
    split
    · exact Nat.le_refl _
    · show 1 ≤ 2; omega
  have e3 : (Str.join ", " ts).length ≤ piled ts := by
    cases ts with
    | nil => exact Nat.le_refl _
    | cons t r => have := join_length_add (t :: r) (by simp); omega
  omega
mutual
def D.wt : D → Nat
  | .int _ => 401
  | .tup l => D.wts l + 3
  | .lst l => D.wts l + 2
  | .non => 5 | .bl _ => 5 | .str _ => 5 | .obj _ _ => 5 | .cel _ => 5
def D.wts : List D → Nat
  | [] => 0
  | d :: r => D.wt d + 2 + D.wts r
end
mutual
def D.fine : D → Bool
  | .non => true | .bl _ => true
  | .int i => decide (i.natAbs.log2 < 400)
  | .tup l => D.fines l
  | .lst l => D.fines l
  | .str _ => false | .obj _ _ => false | .cel _ => false
def D.fines : List D → Bool
  | [] => true
  | d :: r => D.fine d && D.fines r
end
mutual
def D.dp : D → Nat
  | .tup l => D.dps l + 1
  | .lst l => D.dps l + 1
  | .non => 0 | .bl _ => 0 | .int _ => 0 | .str _ => 0 | .obj _ _ => 0 | .cel _ => 0
def D.dps : List D → Nat
  | [] => 0
  | d :: r => max (D.dp d) (D.dps r)
end
theorem sg_app {a b : Str} (ha : PyData.strOk a = true) (hb : PyData.strOk b = true) : PyData.strOk (a ++ b) = true := by
  unfold PyData.strOk at *
  rw [PySem.Str.cps_append, Array.all_append, ha, hb]; rfl
theorem sg_of (s : String) : PyData.strOk (Str.ofString s) = true := by
  unfold PyData.strOk
  rw [Str.ofString_eq_toList, Array.all_eq_true]
  intro i h
  simp only [List.size_toArray, List.length_map] at h
  simp only [List.getElem_toArray, List.getElem_map, decide_eq_true_eq]
  have v := (s.toList[i]'h).valid
  have e : (s.toList[i]'h).toNat = (s.toList[i]'h).val.toNat := rfl
  rw [e]
  unfold UInt32.isValidChar Nat.isValidChar at v
  omega
theorem sg_from : ∀ (ts : List Str) (k : Nat) (acc : Str), PyData.strOk acc = true → (∀ t ∈ ts, PyData.strOk t = true) → PyData.strOk (textFrom k acc ts) = true
  | [], k, acc, h, _ => h
  | t :: r, k, acc, h, g => sg_from r (k + 1) _ (sg_app (sg_app h (sg_of _)) (g t List.mem_cons_self)) fun u hu => g u (List.mem_cons_of_mem _ hu)
theorem sg_join (sep : Str) (hs : PyData.strOk sep = true) : ∀ ts : List Str, (∀ t ∈ ts, PyData.strOk t = true) → PyData.strOk (Str.join sep ts) = true
  | [], _ => sg_of ""
  | [x], g => g x List.mem_cons_self
  | x :: y :: r, g => sg_app (sg_app (g x List.mem_cons_self) hs) (sg_join sep hs (y :: r) fun u hu => g u (List.mem_cons_of_mem _ hu))
mutual
theorem fine_ok : ∀ {d : D}, d.fine = true → ∃ x, d.py = some x ∧ PyData.showable x = true ∧ x.shown.length ≤ d.wt ∧ x.depth ≤ d.dp ∧ PyData.strOk x.shown = true
  | .non, _ => ⟨.none, by rw [D.py], rfl, by decide, by decide, sg_of _⟩
  | .bl b, _ => ⟨.bool b, by rw [D.py], rfl, by cases b <;> decide, by rw [PyData.depth]; exact Nat.zero_le _, by rw [PyData.shown]; split <;> exact sg_of _⟩
  | .int i, h => by
    rw [D.fine, decide_eq_true_eq] at h
    refine ⟨.int i, by rw [D.py], by simp only [PyData.showable, decide_eq_true_eq]; omega, ?_, by rw [PyData.depth]; exact Nat.zero_le _, by rw [PyData.shown]; exact sg_of _⟩
    have e := int_text_length_le (k := 400) (by decide) h
    simp only [PyData.shown, D.wt]
    show (Str.ofString (toString i)).length ≤ 401
    rw [ofString_length]
    exact e
  | .tup l, h => by
    rw [D.fine] at h
    obtain ⟨xs, e1, e2, e3, e4, e5⟩ := fines_ok h
    refine ⟨.tuple xs, by rw [D.py, e1]; rfl, by simpa only [PyData.showable] using e2, ?_, by rw [PyData.depth, D.dp]; omega, by
      rw [PyData.shown]
      unfold tupleText
      exact sg_app (sg_app (sg_of _) (sg_join _ (sg_of _) _ e5)) (sg_of _)⟩
    have := tup_len (PyData.shownAll xs)
    simp only [PyData.shown, D.wt]
    omega
  | .lst l, h => by
    rw [D.fine] at h
    obtain ⟨xs, e1, e2, e3, e4, e5⟩ := fines_ok h
    refine ⟨.list xs, by rw [D.py, e1]; rfl, by simpa only [PyData.showable] using e2, ?_, by rw [PyData.depth, D.dp]; omega, by
      rw [PyData.shown]
      unfold listText
      exact sg_app (sg_from _ _ _ (sg_of _) e5) (sg_of _)⟩
    have := list_len (PyData.shownAll xs)
    simp only [PyData.shown, D.wt]
    omega
  | .str _, h => by rw [D.fine] at h; cases h
  | .obj _ _, h => by rw [D.fine] at h; cases h
  | .cel _, h => by rw [D.fine] at h; cases h
theorem fines_ok : ∀ {l : List D}, D.fines l = true → ∃ xs, D.pys l = some xs ∧ PyData.showableAll xs = true ∧ piled (PyData.shownAll xs) ≤ D.wts l ∧ PyData.depthAll xs ≤ D.dps l ∧ ∀ t ∈ PyData.shownAll xs, PyData.strOk t = true
  | [], _ => ⟨[], by rw [D.pys], rfl, by decide, by decide, fun t h => by cases h⟩
  | d :: r, h => by
    rw [D.fines, Bool.and_eq_true] at h
    obtain ⟨x, e1, e2, e3, e4, e5⟩ := fine_ok h.1
    obtain ⟨xs, f1, f2, f3, f4, f5⟩ := fines_ok h.2
    refine ⟨x :: xs, by rw [D.pys, e1, f1], by simp only [PyData.showableAll, e2, f2, Bool.and_self], ?_, by rw [PyData.depthAll, D.dps]; omega, fun t ht => by
      rw [PyData.shownAll] at ht
      rcases List.mem_cons.mp ht with q | q
      · subst q; exact e5
      · exact f5 t q⟩
    rw [PyData.shownAll, piled_cons, D.wts]
    omega
end
theorem rp_ok {d : D} (h : d.fine = true) (hw : d.wt ≤ 16777216) (hd : d.dp ≤ 64) : ∃ x, rptx d = some x ∧ PyData.strOk x = true := by
  obtain ⟨x, e1, e2, e3, e4, e5⟩ := fine_ok h
  refine ⟨x.shown, ?_, e5⟩
  unfold rptx
  rw [e1]
  dsimp only
  rw [if_pos ⟨e2, Nat.le_trans e3 hw, by omega⟩]
section
variable {P : Pr} {Γ : Gam} {ρ : Rho} {μ : Mu} {Q : D → Mu → Prop}
theorem w_rp {d : D} {x : Str} (h : rptx d = some x) (q : Q (.str x) μ) : (bltop P Γ .repr [d] μ).wp Q := by
  have go : (match rptx d with | some x => Out.ok (D.str x) μ | none => .bad).wp Q := by rw [h]; exact q
  cases d with
  | obj c fs => unfold rptx at h; rw [D.py] at h; cases h
  | _ => exact go
theorem shp_str {x : Str} (h : PyData.strOk x = true) : SeqAt.shaped (.str x) = true := by
  unfold SeqAt.shaped
  simp only [PyData.canLay0, h, PyData.depth, Bool.true_and]
  rfl
theorem deq_str {x y : Str} (hx : PyData.strOk x = true) (hy : PyData.strOk y = true) : deq (.str x) (.str y) = some (decide (x = y)) := by
  unfold deq
  simp only [D.py]
  rw [if_pos ⟨shp_str hx, shp_str hy⟩]
  congr 1
theorem w_eqStr {x y : Str} (hx : PyData.strOk x = true) (hy : PyData.strOk y = true) : (cop P Γ .Eq (.str x) (.str y) μ).wp Q ↔ Q (.bl (decide (x = y))) μ := by
  show Out.wp (match deq (.str x) (.str y) with | some k => .ok (.bl k) μ | none => .bad) Q ↔ _
  rw [deq_str hx hy]; exact Iff.rfl
theorem w_neStr {x y : Str} (hx : PyData.strOk x = true) (hy : PyData.strOk y = true) : (cop P Γ .NotEq (.str x) (.str y) μ).wp Q ↔ Q (.bl (!decide (x = y))) μ := by
  show Out.wp (match deq (.str x) (.str y) with | some k => .ok (.bl (!k)) μ | none => .bad) Q ↔ _
  rw [deq_str hx hy]; exact Iff.rfl
end
end Vw
set_option Elab.async false
set_option linter.all false
set_option maxRecDepth 100000
set_option maxHeartbeats 4000000
namespace Lw
open PySem L2 Vw
def P : Pr where
  con := fun g => match g with | 0 => some 4096 | 1 => some 1 | 2 => some 0 | _ => none
  meth := fun c m => match c, m with | 0, 52 => some 15 | 0, 30 => some 21 | 0, 0 => some 22 | 0, 20 => some 23 | 0, 1 => some 24 | 0, 2 => some 25 | _, _ => none
  init := fun c => match c with | 0 => some 4 | _ => none
  nflds := fun c => match c with | 0 => 2 | _ => 0
  fld := fun c f => match c, f with | 0, 60 => some 0 | 0, 61 => some 1 | _, _ => none
  prop := fun c f => match c, f with | 0, 63 => some 13 | 0, 62 => some 14 | _, _ => none
  oi := fun op => match op with | .Add => true | .Sub => true | _ => false
  sta := fun f => match f with | 30 => some (0, 64) | _ => none
def b_law : Ss := (.cons (.set 1 (.call 1 (.cons (.var 0) .nil))) (.cons (.for (.nm 2) (.r1 (.bin .Add (.int 3) (.blt .min2 (.cons (.int 5) (.cons (.blt .len (.cons (.var 0) .nil)) .nil))))) (.cons (.set 3 (.call 2 (.cons (.var 1) (.cons (.int 9) .nil)))) (.cons (.un [4, 5] (.tup (.cons (.new 0 (.cons (.ix (.var 3) (.int 0)) (.cons (.ix (.var 3) (.int 1)) .nil))) (.cons (.bin .Sub (.call 3 (.cons (.var 1) (.cons (.int 41) .nil))) (.int 20)) .nil)))) (.cons (.set 5 (.ix (.lst (.cons (.var 5) (.cons (.var 5) (.cons (.call 31 (.cons (.var 1) .nil)) (.cons (.bin .Sub (.int 0) (.call 31 (.cons (.var 1) .nil))) .nil))))) (.call 3 (.cons (.var 1) (.cons (.int 4) .nil))))) (.cons (.set 6 (.lc [10] (.nm 10) (.r1 (.ix (.var 3) (.int 0))) .none (.call 32 (.cons (.var 3) (.cons (.var 10) .nil))))) (.cons (.set 7 (.blt .repr (.cons (.call 33 (.cons (.lc [11] (.nm 11) (.seq (.var 6)) .none (.bin .Add (.var 11) (.var 5))) .nil)) .nil))) (.cons (.ife (.cmp .NotEq (.lst (.cons (.blt .repr (.cons (.call 34 (.cons (.bin .Add (.var 4) (.var 5)) .nil)) .nil)) (.cons (.blt .repr (.cons (.call 34 (.cons (.bin .Add (.var 5) (.var 4)) .nil)) .nil)) .nil))) (.lst (.cons (.var 7) (.cons (.var 7) .nil)))) (.cons (.ret (.bl false)) .nil) .nil) (.cons (.ife (.cmp .NotEq (.blt .repr (.cons (.call 34 (.cons (.bin .Sub (.var 4) (.var 5)) .nil)) .nil)) (.blt .repr (.cons (.call 33 (.cons (.lc [11] (.nm 11) (.seq (.var 6)) .none (.bin .Sub (.var 11) (.var 5))) .nil)) .nil))) (.cons (.ret (.bl false)) .nil) .nil) (.cons (.set 8 (.stat 30 (.cons (.var 5) .nil))) (.cons (.ife (.or (.cmp .NotEq (.blt .repr (.cons (.call 34 (.cons (.var 8) .nil)) .nil)) (.blt .repr (.cons (.tup (.cons (.int 1) (.cons (.tup (.cons (.tup (.cons (.int 0) (.cons (.var 5) .nil))) .nil)) .nil))) .nil))) (.one (.cmp .NotEq (.app 8 (.cons (.un .USub (.int 7)) .nil)) (.bin .Sub (.var 5) (.int 7))))) (.cons (.ret (.bl false)) .nil) .nil) (.cons (.ife (.or (.cmp .NotEq (.blt .repr (.cons (.call 34 (.cons (.bin .Mult (.var 8) (.var 4)) .nil)) .nil)) (.var 7)) (.one (.not (.cmp .Eq (.bin .Sub (.bin .Add (.var 8) (.int 1)) (.int 1)) (.var 8))))) (.cons (.ret (.bl false)) .nil) .nil) (.cons (.set 9 (.lc [10] (.nm 10) (.r1 (.ix (.var 3) (.int 0))) .none (.call 32 (.cons (.var 3) (.cons (.bin .Add (.var 10) (.var 5)) .nil))))) (.cons (.ife (.cmp .NotEq (.blt .repr (.cons (.call 34 (.cons (.bin .Mult (.var 4) (.var 8)) .nil)) .nil)) (.blt .repr (.cons (.call 33 (.cons (.var 9) .nil)) .nil))) (.cons (.ret (.bl false)) .nil) .nil) .nil))))))))))))) (.cons (.ret (.bl true)) .nil)))
def b__law_begin : Ss := (.cons (.set 1 (.lc [2] (.nm 2) (.seq (.var 0)) .none (.blt .int (.cons (.var 2) .nil)))) (.cons (.ret (.dict ["cells", "left", "at"] (.cons (.var 1) (.cons (.lc [2] (.nm 2) (.seq (.var 1)) (.some (.cmp .GtE (.var 2) (.bin .Pow (.int 10) (.int 18)))) (.var 2)) (.cons (.int 0) .nil))))) .nil))
def b__law_stair : Ss := (.cons (.set 2 (.bin .Add (.int 1) (.call 3 (.cons (.var 0) (.cons (.var 1) .nil))))) (.cons (.set 3 (.lc [8] (.nm 8) (.r1 (.var 2)) (.some (.cmp .Eq (.call 3 (.cons (.var 0) (.cons (.int 3) .nil))) (.int 0))) (.var 8))) (.cons (.set 3 (.ife (.cmp .NotEq (.var 3) (.lst .nil)) (.var 3) (.lst (.cons (.call 3 (.cons (.var 0) (.cons (.var 2) .nil))) .nil)))) (.cons (.bld 4 (.lc [8] (.nm 8) (.seq (.var 3)) .none (.int 0))) (.cons (.for (.nm 5) (.r1 (.var 2)) (.cons (.set 13 (.call 3 (.cons (.var 0) (.cons (.blt .len (.cons (.var 3) .nil)) .nil)))) (.cons (.put 4 (.var 13) (.bin .Add (.oix 4 (.var 13)) (.int 1))) .nil))) (.cons (.par 6 7 (.bin .Sub (.call 3 (.cons (.var 0) (.cons (.int 25) .nil))) (.int 12)) (.lst .nil) false true) (.cons (.frz 4) (.cons (.for (.tp [8, 9]) (.zip (.var 3) (.var 4)) (.cons (.set 6 (.bin .Add (.var 6) (.var 9))) (.cons (.app 7 (.tup (.cons (.var 8) (.cons (.var 6) .nil)))) .nil))) (.cons (.set 10 (.lst .nil)) (.cons (.set 11 (.ix (.lst (.cons (.int 1) (.cons (.int 1) (.cons (.int 2) (.cons (.int 3) .nil))))) (.call 3 (.cons (.var 0) (.cons (.int 4) .nil))))) (.cons (.frz 7) (.cons (.for (.nm 12) (.r1 (.var 11)) (.cons (.set 10 (.bin .Add (.var 10) (.lc [8, 6] (.tp [8, 6]) (.seq (.var 7)) .none (.tup (.cons (.bin .Add (.var 8) (.bin .Mult (.var 12) (.var 2))) (.cons (.bin .Add (.var 6) (.bin .Mult (.var 12) (.var 2))) .nil)))))) .nil)) (.cons (.ret (.tup (.cons (.bin .Mult (.var 2) (.var 11)) (.cons (.blt .tuple (.cons (.var 10) .nil)) .nil)))) .nil)))))))))))))
def b__law_draw : Ss := (.cons (.set 2 (.lc [5] (.nm 5) (.seq (.dget (.var 0) "left")) (.some (.cmp .Gt (.var 5) (.int 0))) (.var 5))) (.cons (.ife (.cmp .NotEq (.var 2) (.lst .nil)) (.cons (.dput (.var 0) "left" (.bin .Add (.lst (.cons (.bin .FloorDiv (.ix (.var 2) (.int 0)) (.var 1)) .nil)) (.sl (.var 2) (.some (.int 1)) .none))) (.cons (.ret (.bin .Mod (.blt .int (.cons (.ix (.var 2) (.int 0)) .nil)) (.var 1))) .nil)) .nil) (.cons (.set 3 (.bin .Add (.dget (.var 0) "at") (.int 1))) (.cons (.dput2 (.var 0) "at" (.var 0) "left" (.var 3) (.lst .nil)) (.cons (.set 4 (.dget (.var 0) "cells")) (.cons (.set 5 (.ife (.cmp .NotEq (.var 4) (.lst .nil)) (.ix (.var 4) (.bin .Mod (.blt .int (.cons (.var 3) .nil)) (.blt .len (.cons (.var 4) .nil)))) (.int 5))) (.cons (.set 6 (.bin .Mod (.bin .Mult (.blt .int (.cons (.bin .Add (.bin .Add (.bin .Mod (.blt .int (.cons (.var 5) .nil)) (.int 2147483629)) (.bin .Mult (.int 7907) (.var 3))) (.bin .Mult (.bin .Mult (.int 17) (.var 3)) (.var 3))) .nil)) (.int 48271)) (.int 2147483647))) (.cons (.set 6 (.bin .Mod (.bin .Mult (.bin .Mod (.blt .int (.cons (.bin .Add (.bin .Add (.bin .Mult (.var 6) (.var 6)) (.bin .Mult (.int 104711) (.var 3))) (.int 12345)) .nil)) (.int 2147483587)) (.int 69621)) (.int 2147483629))) (.cons (.ret (.bin .Mod (.blt .int (.cons (.bin .FloorDiv (.var 6) (.int 13)) .nil)) (.var 1))) .nil)))))))))
def b_Stair___init__ : Ss := (.cons (.exp (.call 5 (.cons (.var 1) (.cons (.var 2) .nil)))) (.cons (.init 0 (.call 10 (.cons (.var 1) (.cons (.var 2) .nil)))) .nil))
def b__need_steps : Ss := (.cons (.ife (.or (.not (.call 6 (.cons (.var 0) .nil))) (.one (.cmp .Lt (.var 0) (.int 1)))) (.cons .never .nil) .nil) (.cons (.ife (.not (.call 7 (.cons (.var 1) (.cons (.int 1) (.cons (.con 0) .nil))))) (.cons .never .nil) .nil) (.cons (.set 2 (.call 8 (.cons (.var 0) (.cons (.var 1) .nil)))) (.cons (.ife (.notN (.var 2)) (.cons .never .nil) .nil) (.cons (.ife (.cmp .Gt (.ix (.ix (.var 1) (.un .USub (.int 1))) (.con 1)) (.bin .Add (.ix (.ix (.var 1) (.int 0)) (.con 1)) (.var 0))) (.cons .never .nil) .nil) .nil)))))
def b_is_integer : Ss := (.cons (.ret (.and (.blt .isInt (.cons (.var 0) .nil)) (.one (.not (.blt .isBool (.cons (.var 0) .nil)))))) .nil)
def b_is_tuple : Ss := (.cons (.ret (.and (.blt .isTup (.cons (.var 0) .nil)) (.one (.chain .LtE .LtE (.var 1) (.blt .len (.cons (.var 0) .nil)) (.var 2))))) .nil)
def b__wrong_step : Ss := (.cons (.for (.tp [2, 3]) (.enum (.var 1)) (.cons (.ife (.not (.call 9 (.cons (.var 3) (.cons (.int 2) .nil)))) (.cons (.ret (.var 2)) .nil) .nil) (.cons (.un [4, 5] (.var 3)) (.cons (.ife (.or (.cmp .Lt (.var 4) (.int 0)) (.one (.cmp .GtE (.var 4) (.var 0)))) (.cons (.ret (.var 2)) .nil) .nil) (.cons (.ife (.and (.cmp .Gt (.var 2) (.int 0)) (.one (.or (.cmp .LtE (.var 4) (.ix (.ix (.var 1) (.bin .Sub (.var 2) (.int 1))) (.con 2))) (.one (.cmp .Lt (.var 5) (.ix (.ix (.var 1) (.bin .Sub (.var 2) (.int 1))) (.con 1))))))) (.cons (.ret (.var 2)) .nil) .nil) .nil))))) (.cons (.ret .non) .nil))
def b_are_integers : Ss := (.cons (.ret (.and (.call 7 (.cons (.var 0) (.cons (.var 1) (.cons (.var 1) .nil)))) (.one (.blt .all (.cons (.lc [2] (.nm 2) (.seq (.var 0)) .none (.call 6 (.cons (.var 2) .nil))) .nil))))) .nil)
def b__plain : Ss := (.cons (.set 2 (.call 11 (.cons (.var 0) (.cons (.var 1) .nil)))) (.cons (.set 3 (.call 12 (.cons (.var 0) (.cons (.var 2) .nil)))) (.cons (.set 4 (.int 1)) (.cons (.whl (.or (.cmp .NotEq (.bin .Mod (.blt .len (.cons (.var 2) .nil)) (.var 4)) (.int 0)) (.one (.cmp .NotEq (.sl (.var 3) (.some (.var 4)) .none) (.sl (.var 3) .none (.some (.bin .Sub (.blt .len (.cons (.var 2) .nil)) (.var 4))))))) (.cons (.set 4 (.bin .Add (.var 4) (.int 1))) .nil)) (.cons (.ret (.tup (.cons (.bin .FloorDiv (.var 0) (.bin .FloorDiv (.blt .len (.cons (.var 2) .nil)) (.var 4))) (.cons (.blt .tuple (.cons (.sl (.var 2) .none (.some (.var 4))) .nil)) .nil)))) .nil)))))
def b__rising : Ss := (.cons (.set 2 (.bin .Sub (.ix (.ix (.var 1) (.un .USub (.int 1))) (.con 1)) (.var 0))) (.cons (.bld 3 (.lst .nil)) (.cons (.for (.tp [4, 5]) (.seq (.var 1)) (.cons (.ife (.cmp .NotEq (.var 5) (.var 2)) (.cons (.app 3 (.tup (.cons (.var 4) (.cons (.var 5) .nil)))) .nil) .nil) (.cons (.set 2 (.var 5)) .nil))) (.cons (.frz 3) (.cons (.ret (.var 3)) .nil)))))
def b__gaps : Ss := (.cons (.par 2 3 (.bin .Sub (.ix (.ix (.var 1) (.un .USub (.int 1))) (.con 2)) (.var 0)) (.bin .Sub (.ix (.ix (.var 1) (.un .USub (.int 1))) (.con 1)) (.var 0)) false false) (.cons (.bld 4 (.lst .nil)) (.cons (.for (.tp [5, 6]) (.seq (.var 1)) (.cons (.app 4 (.tup (.cons (.bin .Sub (.var 5) (.var 2)) (.cons (.bin .Sub (.var 6) (.var 3)) .nil)))) (.cons (.par 2 3 (.var 5) (.var 6) false false) .nil))) (.cons (.frz 4) (.cons (.ret (.var 4)) .nil)))))
def b_Stair_period : Ss := (.cons (.ret (.fld (.var 0) 60)) .nil)
def b_Stair_steps : Ss := (.cons (.ret (.fld (.var 0) 61)) .nil)
def b_Stair___call__ : Ss := (.cons (.exp (.call 16 (.cons (.var 1) .nil))) (.cons (.ret (.call 17 (.cons (.var 0) (.cons (.var 1) .nil)))) .nil))
def b_need_integer : Ss := (.cons (.ife (.not (.call 6 (.cons (.var 0) .nil))) (.cons .never .nil) .nil) .nil)
def b__value_at : Ss := (.cons (.ret (.ix (.call 18 (.cons (.var 0) (.cons (.call 19 (.cons (.var 0) (.cons (.var 1) .nil))) .nil))) (.con 1))) .nil)
def b__step : Ss := (.cons (.un [2, 3] (.blt .divmod (.cons (.var 1) (.cons (.blt .len (.cons (.fld (.var 0) 62) .nil)) .nil)))) (.cons (.un [4, 5] (.ix (.fld (.var 0) 62) (.var 3))) (.cons (.ret (.tup (.cons (.bin .Add (.var 4) (.bin .Mult (.var 2) (.fld (.var 0) 63))) (.cons (.bin .Add (.var 5) (.bin .Mult (.var 2) (.fld (.var 0) 63))) .nil)))) .nil)))
def b__index_at : Ss := (.cons (.un [2, 3] (.blt .divmod (.cons (.var 1) (.cons (.fld (.var 0) 63) .nil)))) (.cons (.ret (.bin .Sub (.bin .Add (.bin .Mult (.var 2) (.blt .len (.cons (.fld (.var 0) 62) .nil))) (.call 20 (.cons (.fld (.var 0) 62) (.cons (.con 2) (.cons (.bin .Add (.var 3) (.int 1)) .nil))))) (.int 1))) .nil))
def b__many_below : Ss := (.cons (.par 3 4 (.int 0) (.blt .len (.cons (.var 0) .nil)) false false) (.cons (.whl (.cmp .Lt (.var 3) (.var 4)) (.cons (.set 5 (.bin .FloorDiv (.bin .Add (.var 3) (.var 4)) (.int 2))) (.cons (.ife (.cmp .Lt (.ix (.ix (.var 0) (.var 5)) (.var 1)) (.var 2)) (.cons (.set 3 (.bin .Add (.var 5) (.int 1))) .nil) (.cons (.set 4 (.var 5)) .nil)) .nil))) (.cons (.ret (.var 3)) .nil)))
def b_Stair___eq__ : Ss := (.cons (.ret (.and (.blt (.isObj 0) (.cons (.var 1) .nil)) (.and (.cmp .Eq (.fld (.var 0) 60) (.fld (.var 1) 60)) (.one (.cmp .Eq (.fld (.var 0) 61) (.fld (.var 1) 61)))))) .nil)
def b_Stair___add__ : Ss := (.cons (.exp (.call 16 (.cons (.var 1) .nil))) (.cons (.ret (.new 0 (.cons (.fld (.var 0) 63) (.cons (.blt .tuple (.cons (.lc [2, 3] (.tp [2, 3]) (.seq (.fld (.var 0) 62)) .none (.tup (.cons (.var 2) (.cons (.bin .Add (.var 3) (.var 1)) .nil)))) .nil)) .nil)))) .nil))
def b_Stair___radd__ : Ss := (.cons (.exp (.call 16 (.cons (.var 1) .nil))) (.cons (.ret (.new 0 (.cons (.fld (.var 0) 63) (.cons (.blt .tuple (.cons (.lc [2, 3] (.tp [2, 3]) (.seq (.fld (.var 0) 62)) .none (.tup (.cons (.var 2) (.cons (.bin .Add (.var 1) (.var 3)) .nil)))) .nil)) .nil)))) .nil))
def b_Stair___sub__ : Ss := (.cons (.exp (.call 16 (.cons (.var 1) .nil))) (.cons (.ret (.new 0 (.cons (.fld (.var 0) 63) (.cons (.blt .tuple (.cons (.lc [2, 3] (.tp [2, 3]) (.seq (.fld (.var 0) 62)) .none (.tup (.cons (.var 2) (.cons (.bin .Sub (.var 3) (.var 1)) .nil)))) .nil)) .nil)))) .nil))
def b_Stair___mul__ : Ss := (.cons (.exp (.call 26 (.cons (.var 1) .nil))) (.cons (.set 2 (.blt .lcm (.cons (.fld (.var 0) 63) (.cons (.fld (.var 1) 63) .nil)))) (.cons (.exp (.call 27 (.cons (.call 28 (.cons (.var 1) (.cons (.var 2) .nil))) .nil))) (.cons (.ret (.new 0 (.cons (.var 2) (.cons (.blt .tuple (.cons (.lc [3, 4] (.tp [3, 4]) (.seq (.call 29 (.cons (.var 1) (.cons (.var 2) .nil)))) .none (.tup (.cons (.var 3) (.cons (.call 17 (.cons (.var 0) (.cons (.var 4) .nil))) .nil)))) .nil)) .nil)))) .nil))))
def b_need_stair : Ss := (.cons (.ife (.not (.blt (.isObj 0) (.cons (.var 0) .nil))) (.cons .never .nil) .nil) .nil)
def b_need_few : Ss := (.cons (.ife (.cmp .Gt (.var 0) (.con 0)) (.cons .never .nil) .nil) .nil)
def b_many_within : Ss := (.cons (.ret (.bin .Mult (.blt .len (.cons (.fld (.var 0) 62) .nil)) (.bin .FloorDiv (.var 1) (.fld (.var 0) 63)))) .nil)
def b_unrolled : Ss := (.cons (.un [2, 3] (.tup (.cons (.fld (.var 0) 63) (.cons (.fld (.var 0) 62) .nil)))) (.cons (.ret (.lc2 [4, 5, 6] (.nm 4) (.r1 (.bin .FloorDiv (.var 1) (.var 2))) [5, 6] (.tp [5, 6]) (.seq (.var 3)) (.tup (.cons (.bin .Add (.var 5) (.bin .Mult (.var 4) (.var 2))) (.cons (.bin .Add (.var 6) (.bin .Mult (.var 4) (.var 2))) .nil))))) .nil))
def b_Stair_shift : Ss := (.cons (.exp (.call 16 (.cons (.var 0) .nil))) (.cons (.ret (.new 0 (.cons (.int 1) (.cons (.tup (.cons (.tup (.cons (.int 0) (.cons (.var 0) .nil))) .nil)) .nil)))) .nil))
def b__law_great : Ss := (.cons (.set 1 (.int 1)) (.cons (.for (.nm 2) (.r1 (.bin .Add (.int 1) (.call 3 (.cons (.var 0) (.cons (.int 9) .nil))))) (.cons (.set 1 (.bin .Mult (.var 1) (.bin .Add (.int 7) (.call 3 (.cons (.var 0) (.cons (.int 991) .nil)))))) .nil)) (.cons (.ret (.var 1)) .nil)))
def b__law_value : Ss := (.cons (.un [2, 3] (.var 0)) (.cons (.par 4 5 (.bin .FloorDiv (.blt .int (.cons (.var 1) .nil)) (.var 2)) (.bin .Mod (.blt .int (.cons (.var 1) .nil)) (.var 2)) false false) (.cons (.set 6 (.bin .Sub (.ix (.ix (.var 3) (.un .USub (.int 1))) (.int 1)) (.var 2))) (.cons (.for (.tp [7, 8]) (.seq (.var 3)) (.cons (.ife (.cmp .LtE (.var 7) (.var 5)) (.cons (.set 6 (.var 8)) .nil) .nil) .nil)) (.cons (.ret (.bin .Add (.var 6) (.bin .Mult (.var 4) (.var 2)))) .nil)))))
def b__law_plain : Ss := (.cons (.set 1 (.blt .len (.cons (.var 0) .nil))) (.cons (.set 2 (.lc [4] (.nm 4) (.r1 (.var 1)) .none (.bin .Sub (.ix (.var 0) (.var 4)) (.ife (.cmp .Gt (.var 4) (.int 0)) (.ix (.var 0) (.bin .Sub (.var 4) (.int 1))) (.bin .Sub (.ix (.var 0) (.un .USub (.int 1))) (.var 1)))))) (.cons (.for (.nm 3) (.r2 (.int 1) (.bin .Add (.var 1) (.int 1))) (.cons (.ife (.and (.cmp .Eq (.bin .Mod (.blt .int (.cons (.var 1) .nil)) (.var 3)) (.int 0)) (.one (.cmp .Eq (.var 2) (.bin .Mult (.sl (.var 2) .none (.some (.var 3))) (.bin .FloorDiv (.var 1) (.var 3)))))) (.cons (.ret (.tup (.cons (.var 3) (.cons (.blt .tuple (.cons (.lc [4] (.nm 4) (.r1 (.var 3)) (.some (.cmp .NotEq (.ix (.var 2) (.var 4)) (.int 0))) (.tup (.cons (.var 4) (.cons (.ix (.var 0) (.var 4)) .nil)))) .nil)) .nil)))) .nil) .nil) .nil)) (.cons (.ret .non) .nil))))
def b__law_told : Ss := (.cons (.ret (.tup (.cons (.fld (.var 0) 63) (.cons (.fld (.var 0) 62) .nil)))) .nil)
abbrev n_law : Nat := 0
abbrev n__law_begin : Nat := 1
abbrev n__law_stair : Nat := 2
abbrev n__law_draw : Nat := 3
abbrev n_Stair___init__ : Nat := 4
abbrev n__need_steps : Nat := 5
abbrev n_is_integer : Nat := 6
abbrev n_is_tuple : Nat := 7
abbrev n__wrong_step : Nat := 8
abbrev n_are_integers : Nat := 9
abbrev n__plain : Nat := 10
abbrev n__rising : Nat := 11
abbrev n__gaps : Nat := 12
abbrev n_Stair_period : Nat := 13
abbrev n_Stair_steps : Nat := 14
abbrev n_Stair___call__ : Nat := 15
abbrev n_need_integer : Nat := 16
abbrev n__value_at : Nat := 17
abbrev n__step : Nat := 18
abbrev n__index_at : Nat := 19
abbrev n__many_below : Nat := 20
abbrev n_Stair___eq__ : Nat := 21
abbrev n_Stair___add__ : Nat := 22
abbrev n_Stair___radd__ : Nat := 23
abbrev n_Stair___sub__ : Nat := 24
abbrev n_Stair___mul__ : Nat := 25
abbrev n_need_stair : Nat := 26
abbrev n_need_few : Nat := 27
abbrev n_many_within : Nat := 28
abbrev n_unrolled : Nat := 29
abbrev n_Stair_shift : Nat := 30
abbrev n__law_great : Nat := 31
abbrev n__law_value : Nat := 32
abbrev n__law_plain : Nat := 33
abbrev n__law_told : Nat := 34
abbrev b0 : Ss := b_law
abbrev b1 : Ss := b__law_begin
abbrev b2 : Ss := b__law_stair
abbrev b3 : Ss := b__law_draw
abbrev b4 : Ss := b_Stair___init__
abbrev b5 : Ss := b__need_steps
abbrev b6 : Ss := b_is_integer
abbrev b7 : Ss := b_is_tuple
abbrev b8 : Ss := b__wrong_step
abbrev b9 : Ss := b_are_integers
abbrev b10 : Ss := b__plain
abbrev b11 : Ss := b__rising
abbrev b12 : Ss := b__gaps
abbrev b13 : Ss := b_Stair_period
abbrev b14 : Ss := b_Stair_steps
abbrev b15 : Ss := b_Stair___call__
abbrev b16 : Ss := b_need_integer
abbrev b17 : Ss := b__value_at
abbrev b18 : Ss := b__step
abbrev b19 : Ss := b__index_at
abbrev b20 : Ss := b__many_below
abbrev b21 : Ss := b_Stair___eq__
abbrev b22 : Ss := b_Stair___add__
abbrev b23 : Ss := b_Stair___radd__
abbrev b24 : Ss := b_Stair___sub__
abbrev b25 : Ss := b_Stair___mul__
abbrev b26 : Ss := b_need_stair
abbrev b27 : Ss := b_need_few
abbrev b28 : Ss := b_many_within
abbrev b29 : Ss := b_unrolled
abbrev b30 : Ss := b_Stair_shift
abbrev b31 : Ss := b__law_great
abbrev b32 : Ss := b__law_value
abbrev b33 : Ss := b__law_plain
abbrev b34 : Ss := b__law_told
abbrev c_MOST_STEPS : Nat := 0
abbrev c__VALUE : Nat := 1
abbrev c__AT : Nat := 2
abbrev f__period : Nat := 60
abbrev f__steps : Nat := 61
abbrev f_steps : Nat := 62
abbrev f_period : Nat := 63
abbrev f_shift : Nat := 64
def fds (i : Nat) : Option Fd := match i with
  | 0 => some ⟨0, 12, 1, b0⟩
  | 1 => some ⟨0, 3, 1, b1⟩
  | 2 => some ⟨0, 14, 2, b2⟩
  | 3 => some ⟨0, 7, 2, b3⟩
  | 4 => some ⟨1, 3, 2, b4⟩
  | 5 => some ⟨0, 3, 2, b5⟩
  | 6 => some ⟨0, 1, 1, b6⟩
  | 7 => some ⟨0, 3, 3, b7⟩
  | 8 => some ⟨0, 6, 2, b8⟩
  | 9 => some ⟨0, 3, 2, b9⟩
  | 10 => some ⟨0, 5, 2, b10⟩
  | 11 => some ⟨0, 6, 2, b11⟩
  | 12 => some ⟨0, 7, 2, b12⟩
  | 13 => some ⟨0, 1, 1, b13⟩
  | 14 => some ⟨0, 1, 1, b14⟩
  | 15 => some ⟨0, 2, 2, b15⟩
  | 16 => some ⟨0, 1, 1, b16⟩
  | 17 => some ⟨0, 2, 2, b17⟩
  | 18 => some ⟨0, 6, 2, b18⟩
  | 19 => some ⟨0, 4, 2, b19⟩
  | 20 => some ⟨0, 6, 3, b20⟩
  | 21 => some ⟨0, 2, 2, b21⟩
  | 22 => some ⟨0, 4, 2, b22⟩
  | 23 => some ⟨0, 4, 2, b23⟩
  | 24 => some ⟨0, 4, 2, b24⟩
  | 25 => some ⟨0, 5, 2, b25⟩
  | 26 => some ⟨0, 1, 1, b26⟩
  | 27 => some ⟨0, 1, 1, b27⟩
  | 28 => some ⟨0, 2, 2, b28⟩
  | 29 => some ⟨0, 7, 2, b29⟩
  | 30 => some ⟨0, 1, 1, b30⟩
  | 31 => some ⟨0, 3, 1, b31⟩
  | 32 => some ⟨0, 9, 2, b32⟩
  | 33 => some ⟨0, 5, 1, b33⟩
  | 34 => some ⟨0, 1, 1, b34⟩
  | _ => none
end Lw
set_option Elab.async false
set_option linter.all false
set_option maxRecDepth 100000
set_option maxHeartbeats 4000000
namespace Lw
open PySem L2 Vw
def top (i : Nat) : Stmt := PySem.Challenge.pw_viewstairs_k08_whole_moved.main.body.getD i (.Pass ⟨0, 0, 0, 0⟩)
def fnN (i : Nat) : Str := match i with | 0 => "law" | 1 => "_law_begin" | 2 => "_law_stair" | 3 => "_law_draw" | 4 => "" | 5 => "_need_steps" | 6 => "is_integer" | 7 => "is_tuple" | 8 => "_wrong_step" | 9 => "are_integers" | 10 => "_plain" | 11 => "_rising" | 12 => "_gaps" | 13 => "" | 14 => "" | 15 => "" | 16 => "need_integer" | 17 => "_value_at" | 18 => "_step" | 19 => "_index_at" | 20 => "_many_below" | 21 => "" | 22 => "" | 23 => "" | 24 => "" | 25 => "" | 26 => "need_stair" | 27 => "need_few" | 28 => "many_within" | 29 => "unrolled" | 30 => "" | 31 => "_law_great" | 32 => "_law_value" | 33 => "_law_plain" | 34 => "_law_told" | _ => Str.empty
def conN (i : Nat) : Str := (["MOST_STEPS", "_VALUE", "_AT"] : List Str).getD i Str.empty
def clsN (i : Nat) : Str := (["Stair"] : List Str).getD i Str.empty
def mthL : List Str := [("_period" : Str), ("_steps" : Str), ("steps" : Str), ("period" : Str), ("shift" : Str)]
def nm : Nm := ⟨fnN, conN, clsN, mthN mthL, false⟩
def gl (i : Nat) : Bool := ([false, true, true, true, false, true, true, true, true, true, true, true, true, false, false, false, true, true, true, true, true, false, false, false, false, false, true, true, true, true, false, true, true, true, true] : List Bool).getD i false
def df (i : Nat) : Bool := ([false, true, true, true, false, true, true, true, true, true, true, true, true, true, true, true, true, true, true, true, true, true, true, true, true, true, true, true, true, true, true, true, true, true, true] : List Bool).getD i false
abbrev st0 : Stmt := top 48
abbrev N0 : List Str := ["script", "state", "turn", "pair", "stair", "number", "values", "due", "moved", "later", "t", "value"]
abbrev st1 : Stmt := top 41
abbrev N1 : List Str := ["script", "cells", "cell"]
abbrev st2 : Stmt := top 43
abbrev N2 : List Str := ["state", "size", "period", "some", "rises", "k", "value", "steps", "at", "rise", "rows", "times", "turn", "spot"]
abbrev st3 : Stmt := top 42
abbrev N3 : List Str := ["state", "many", "left", "k", "cells", "cell", "mixed"]
abbrev st4 : Stmt := inClass (top 39) 0
abbrev N4 : List Str := ["self", "period", "steps"]
abbrev st5 : Stmt := top 21
abbrev N5 : List Str := ["period", "steps", "index"]
abbrev st6 : Stmt := top 11
abbrev N6 : List Str := ["thing"]
abbrev st7 : Stmt := top 7
abbrev N7 : List Str := ["thing", "least", "most"]
abbrev st8 : Stmt := top 20
abbrev N8 : List Str := ["period", "steps", "index", "step", "at", "value"]
abbrev st9 : Stmt := top 12
abbrev N9 : List Str := ["thing", "many", "part"]
abbrev st10 : Stmt := top 24
abbrev N10 : List Str := ["period", "steps", "kept", "gaps", "many"]
abbrev st11 : Stmt := top 22
abbrev N11 : List Str := ["period", "steps", "value_ahead", "kept", "at", "value"]
abbrev st12 : Stmt := top 23
abbrev N12 : List Str := ["period", "steps", "at_ahead", "value_ahead", "gaps", "at", "value"]
abbrev st13 : Stmt := inClass (top 39) 3
abbrev N13 : List Str := ["self"]
abbrev st14 : Stmt := inClass (top 39) 4
abbrev N14 : List Str := ["self"]
abbrev st15 : Stmt := inClass (top 39) 5
abbrev N15 : List Str := ["self", "moment"]
abbrev st16 : Stmt := top 13
abbrev N16 : List Str := ["thing"]
abbrev st17 : Stmt := top 30
abbrev N17 : List Str := ["stair", "moment"]
abbrev st18 : Stmt := top 27
abbrev N18 : List Str := ["stair", "index", "turns", "rest", "at", "value"]
abbrev st19 : Stmt := top 28
abbrev N19 : List Str := ["stair", "moment", "turns", "rest"]
abbrev st20 : Stmt := top 26
abbrev N20 : List Str := ["steps", "part", "bound", "low", "high", "middle"]
abbrev st21 : Stmt := inClass (top 39) 20
abbrev N21 : List Str := ["self", "other"]
abbrev st22 : Stmt := inClass (top 39) 11
abbrev N22 : List Str := ["self", "other", "at", "value"]
abbrev st23 : Stmt := inClass (top 39) 12
abbrev N23 : List Str := ["self", "other", "at", "value"]
abbrev st24 : Stmt := inClass (top 39) 13
abbrev N24 : List Str := ["self", "other", "at", "value"]
abbrev st25 : Stmt := inClass (top 39) 8
abbrev N25 : List Str := ["self", "other", "span", "at", "value"]
abbrev st26 : Stmt := top 19
abbrev N26 : List Str := ["thing"]
abbrev st27 : Stmt := top 33
abbrev N27 : List Str := ["many"]
abbrev st28 : Stmt := top 32
abbrev N28 : List Str := ["stair", "span"]
abbrev st29 : Stmt := top 34
abbrev N29 : List Str := ["stair", "span", "period", "steps", "turn", "at", "value"]
abbrev st30 : Stmt := inClass (top 39) 2
abbrev N30 : List Str := ["number"]
abbrev st31 : Stmt := top 47
abbrev N31 : List Str := ["state", "found", "k"]
abbrev st32 : Stmt := top 44
abbrev N32 : List Str := ["pair", "moment", "period", "steps", "turn", "rest", "found", "at", "value"]
abbrev st33 : Stmt := top 45
abbrev N33 : List Str := ["values", "size", "rises", "period", "t"]
abbrev st34 : Stmt := top 46
abbrev N34 : List Str := ["stair"]
theorem ck0 : chkSs { nm with rp := true } P gl N0 (defScope st0) b0 (defBody st0) = true := by decide +kernel
theorem sc0 : FnScope N0 ["script"] (defScope st0) := ⟨rfl, rfl, rfl, by decide +kernel, rfl, by decide +kernel, by decide +kernel⟩
theorem ck1 : chkSs nm P gl N1 (defScope st1) b1 (defBody st1) = true := by decide +kernel
theorem sc1 : FnScope N1 ["script"] (defScope st1) := ⟨rfl, rfl, rfl, by decide +kernel, rfl, by decide +kernel, by decide +kernel⟩
theorem ck2 : chkSs nm P gl N2 (defScope st2) b2 (defBody st2) = true := by decide +kernel
theorem sc2 : FnScope N2 ["state", "size"] (defScope st2) := ⟨rfl, rfl, rfl, by decide +kernel, rfl, by decide +kernel, by decide +kernel⟩
theorem ck3 : chkSs nm P gl N3 (defScope st3) b3 (defBody st3) = true := by decide +kernel
theorem sc3 : FnScope N3 ["state", "many"] (defScope st3) := ⟨rfl, rfl, rfl, by decide +kernel, rfl, by decide +kernel, by decide +kernel⟩
theorem ck4 : chkI nm P gl N4 (defScope st4) ["_period", "_steps"] 0 b4 (defBody st4) = true := by decide +kernel
theorem sc4 : FnScope N4 ["self", "period", "steps"] (defScope st4) := ⟨rfl, rfl, rfl, by decide +kernel, rfl, by decide +kernel, by decide +kernel⟩
theorem ck5 : chkSs nm P gl N5 (defScope st5) b5 (defBody st5) = true := by decide +kernel
theorem sc5 : FnScope N5 ["period", "steps"] (defScope st5) := ⟨rfl, rfl, rfl, by decide +kernel, rfl, by decide +kernel, by decide +kernel⟩
theorem ck6 : chkSs nm P gl N6 (defScope st6) b6 (defBody st6) = true := by decide +kernel
theorem sc6 : FnScope N6 ["thing"] (defScope st6) := ⟨rfl, rfl, rfl, by decide +kernel, rfl, by decide +kernel, by decide +kernel⟩
theorem ck7 : chkSs nm P gl N7 (defScope st7) b7 (defBody st7) = true := by decide +kernel
theorem sc7 : FnScope N7 ["thing", "least", "most"] (defScope st7) := ⟨rfl, rfl, rfl, by decide +kernel, rfl, by decide +kernel, by decide +kernel⟩
theorem ck8 : chkSs nm P gl N8 (defScope st8) b8 (defBody st8) = true := by decide +kernel
theorem sc8 : FnScope N8 ["period", "steps"] (defScope st8) := ⟨rfl, rfl, rfl, by decide +kernel, rfl, by decide +kernel, by decide +kernel⟩
theorem ck9 : chkSs nm P gl N9 (defScope st9) b9 (defBody st9) = true := by decide +kernel
theorem sc9 : FnScope N9 ["thing", "many"] (defScope st9) := ⟨rfl, rfl, rfl, by decide +kernel, rfl, by decide +kernel, by decide +kernel⟩
theorem ck10 : chkSs nm P gl N10 (defScope st10) b10 (defBody st10) = true := by decide +kernel
theorem sc10 : FnScope N10 ["period", "steps"] (defScope st10) := ⟨rfl, rfl, rfl, by decide +kernel, rfl, by decide +kernel, by decide +kernel⟩
theorem ck11 : chkSs nm P gl N11 (defScope st11) b11 (defBody st11) = true := by decide +kernel
theorem sc11 : FnScope N11 ["period", "steps"] (defScope st11) := ⟨rfl, rfl, rfl, by decide +kernel, rfl, by decide +kernel, by decide +kernel⟩
theorem ck12 : chkSs nm P gl N12 (defScope st12) b12 (defBody st12) = true := by decide +kernel
theorem sc12 : FnScope N12 ["period", "steps"] (defScope st12) := ⟨rfl, rfl, rfl, by decide +kernel, rfl, by decide +kernel, by decide +kernel⟩
theorem ck13 : chkSs nm P gl N13 (defScope st13) b13 (defBody st13) = true := by decide +kernel
theorem sc13 : FnScope N13 ["self"] (defScope st13) := ⟨rfl, rfl, rfl, by decide +kernel, rfl, by decide +kernel, by decide +kernel⟩
theorem ck14 : chkSs nm P gl N14 (defScope st14) b14 (defBody st14) = true := by decide +kernel
theorem sc14 : FnScope N14 ["self"] (defScope st14) := ⟨rfl, rfl, rfl, by decide +kernel, rfl, by decide +kernel, by decide +kernel⟩
theorem ck15 : chkSs nm P gl N15 (defScope st15) b15 (defBody st15) = true := by decide +kernel
theorem sc15 : FnScope N15 ["self", "moment"] (defScope st15) := ⟨rfl, rfl, rfl, by decide +kernel, rfl, by decide +kernel, by decide +kernel⟩
theorem ck16 : chkSs nm P gl N16 (defScope st16) b16 (defBody st16) = true := by decide +kernel
theorem sc16 : FnScope N16 ["thing"] (defScope st16) := ⟨rfl, rfl, rfl, by decide +kernel, rfl, by decide +kernel, by decide +kernel⟩
theorem ck17 : chkSs nm P gl N17 (defScope st17) b17 (defBody st17) = true := by decide +kernel
theorem sc17 : FnScope N17 ["stair", "moment"] (defScope st17) := ⟨rfl, rfl, rfl, by decide +kernel, rfl, by decide +kernel, by decide +kernel⟩
theorem ck18 : chkSs nm P gl N18 (defScope st18) b18 (defBody st18) = true := by decide +kernel
theorem sc18 : FnScope N18 ["stair", "index"] (defScope st18) := ⟨rfl, rfl, rfl, by decide +kernel, rfl, by decide +kernel, by decide +kernel⟩
theorem ck19 : chkSs nm P gl N19 (defScope st19) b19 (defBody st19) = true := by decide +kernel
theorem sc19 : FnScope N19 ["stair", "moment"] (defScope st19) := ⟨rfl, rfl, rfl, by decide +kernel, rfl, by decide +kernel, by decide +kernel⟩
theorem ck20 : chkSs nm P gl N20 (defScope st20) b20 (defBody st20) = true := by decide +kernel
theorem sc20 : FnScope N20 ["steps", "part", "bound"] (defScope st20) := ⟨rfl, rfl, rfl, by decide +kernel, rfl, by decide +kernel, by decide +kernel⟩
theorem ck21 : chkSs nm P gl N21 (defScope st21) b21 (defBody st21) = true := by decide +kernel
theorem sc21 : FnScope N21 ["self", "other"] (defScope st21) := ⟨rfl, rfl, rfl, by decide +kernel, rfl, by decide +kernel, by decide +kernel⟩
theorem ck22 : chkSs nm P gl N22 (defScope st22) b22 (defBody st22) = true := by decide +kernel
theorem sc22 : FnScope N22 ["self", "other"] (defScope st22) := ⟨rfl, rfl, rfl, by decide +kernel, rfl, by decide +kernel, by decide +kernel⟩
theorem ck23 : chkSs nm P gl N23 (defScope st23) b23 (defBody st23) = true := by decide +kernel
theorem sc23 : FnScope N23 ["self", "other"] (defScope st23) := ⟨rfl, rfl, rfl, by decide +kernel, rfl, by decide +kernel, by decide +kernel⟩
theorem ck24 : chkSs nm P gl N24 (defScope st24) b24 (defBody st24) = true := by decide +kernel
theorem sc24 : FnScope N24 ["self", "other"] (defScope st24) := ⟨rfl, rfl, rfl, by decide +kernel, rfl, by decide +kernel, by decide +kernel⟩
theorem ck25 : chkSs nm P gl N25 (defScope st25) b25 (defBody st25) = true := by decide +kernel
theorem sc25 : FnScope N25 ["self", "other"] (defScope st25) := ⟨rfl, rfl, rfl, by decide +kernel, rfl, by decide +kernel, by decide +kernel⟩
theorem ck26 : chkSs nm P gl N26 (defScope st26) b26 (defBody st26) = true := by decide +kernel
theorem sc26 : FnScope N26 ["thing"] (defScope st26) := ⟨rfl, rfl, rfl, by decide +kernel, rfl, by decide +kernel, by decide +kernel⟩
theorem ck27 : chkSs nm P gl N27 (defScope st27) b27 (defBody st27) = true := by decide +kernel
theorem sc27 : FnScope N27 ["many"] (defScope st27) := ⟨rfl, rfl, rfl, by decide +kernel, rfl, by decide +kernel, by decide +kernel⟩
theorem ck28 : chkSs nm P gl N28 (defScope st28) b28 (defBody st28) = true := by decide +kernel
theorem sc28 : FnScope N28 ["stair", "span"] (defScope st28) := ⟨rfl, rfl, rfl, by decide +kernel, rfl, by decide +kernel, by decide +kernel⟩
theorem ck29 : chkSs nm P gl N29 (defScope st29) b29 (defBody st29) = true := by decide +kernel
theorem sc29 : FnScope N29 ["stair", "span"] (defScope st29) := ⟨rfl, rfl, rfl, by decide +kernel, rfl, by decide +kernel, by decide +kernel⟩
theorem ck30 : chkSs nm P gl N30 (defScope st30) b30 (defBody st30) = true := by decide +kernel
theorem sc30 : FnScope N30 ["number"] (defScope st30) := ⟨rfl, rfl, rfl, by decide +kernel, rfl, by decide +kernel, by decide +kernel⟩
theorem ck31 : chkSs nm P gl N31 (defScope st31) b31 (defBody st31) = true := by decide +kernel
theorem sc31 : FnScope N31 ["state"] (defScope st31) := ⟨rfl, rfl, rfl, by decide +kernel, rfl, by decide +kernel, by decide +kernel⟩
theorem ck32 : chkSs nm P gl N32 (defScope st32) b32 (defBody st32) = true := by decide +kernel
theorem sc32 : FnScope N32 ["pair", "moment"] (defScope st32) := ⟨rfl, rfl, rfl, by decide +kernel, rfl, by decide +kernel, by decide +kernel⟩
theorem ck33 : chkSs nm P gl N33 (defScope st33) b33 (defBody st33) = true := by decide +kernel
theorem sc33 : FnScope N33 ["values"] (defScope st33) := ⟨rfl, rfl, rfl, by decide +kernel, rfl, by decide +kernel, by decide +kernel⟩
theorem ck34 : chkSs nm P gl N34 (defScope st34) b34 (defBody st34) = true := by decide +kernel
theorem sc34 : FnScope N34 ["stair"] (defScope st34) := ⟨rfl, rfl, rfl, by decide +kernel, rfl, by decide +kernel, by decide +kernel⟩
theorem all_mk {K : PySem.W.Frag} {h : Heap} {mg : Str → Option Value} {fa0 f0 f1 f2 f3 f4 f5 f6 f7 f8 f9 f10 f11 f12 f13 f14 f15 f16 f17 f18 f19 f20 f21 f22 f23 f24 f25 f26 f27 f28 f29 f30 f31 f32 f33 f34 C0 p13 p14 p30 : Addr} (X : K.In h) (G : h.Ns mainGlobals mg) (hfa : mg "law" = some (.ref fa0))
    {od0 an0 od1 an1 od2 an2 od3 an3 od4 an4 od5 an5 od6 an6 od7 an7 od8 an8 od9 an9 od10 an10 od11 an11 od12 an12 od13 an13 od14 an14 od15 an15 od16 an16 od17 an17 od18 an18 od19 an19 od20 an20 od21 an21 od22 an22 od23 an23 od24 an24 od25 an25 od26 an26 od27 an27 od28 an28 od29 an29 od30 an30 od31 an31 od32 an32 od33 an33 od34 an34 : Option Addr} {sl0 sl1 sl2 sl3 sl4 sl5 sl6 sl7 sl8 sl9 sl10 sl11 sl12 sl13 sl14 sl15 sl16 sl17 sl18 sl19 sl20 sl21 sl22 sl23 sl24 sl25 sl26 sl27 sl28 sl29 sl30 sl31 sl32 sl33 sl34 : Array (Option Value)} {oc0 kV0 dc0 pm0 cd0 ct0 oc1 kV1 dc1 pm1 cd1 ct1 oc2 kV2 dc2 pm2 cd2 ct2 oc3 kV3 dc3 pm3 cd3 ct3 oc4 kV4 dc4 pm4 cd4 ct4 oc5 kV5 dc5 pm5 cd5 ct5 oc6 kV6 dc6 pm6 cd6 ct6 oc7 kV7 dc7 pm7 cd7 ct7 oc8 kV8 dc8 pm8 cd8 ct8 oc9 kV9 dc9 pm9 cd9 ct9 oc10 kV10 dc10 pm10 cd10 ct10 oc11 kV11 dc11 pm11 cd11 ct11 oc12 kV12 dc12 pm12 cd12 ct12 oc13 kV13 dc13 pm13 cd13 ct13 oc14 kV14 dc14 pm14 cd14 ct14 oc15 kV15 dc15 pm15 cd15 ct15 oc16 kV16 dc16 pm16 cd16 ct16 oc17 kV17 dc17 pm17 cd17 ct17 oc18 kV18 dc18 pm18 cd18 ct18 oc19 kV19 dc19 pm19 cd19 ct19 oc20 kV20 dc20 pm20 cd20 ct20 oc21 kV21 dc21 pm21 cd21 ct21 oc22 kV22 dc22 pm22 cd22 ct22 oc23 kV23 dc23 pm23 cd23 ct23 oc24 kV24 dc24 pm24 cd24 ct24 oc25 kV25 dc25 pm25 cd25 ct25 oc26 kV26 dc26 pm26 cd26 ct26 oc27 kV27 dc27 pm27 cd27 ct27 oc28 kV28 dc28 pm28 cd28 ct28 oc29 kV29 dc29 pm29 cd29 ct29 oc30 kV30 dc30 pm30 cd30 ct30 oc31 kV31 dc31 pm31 cd31 ct31 oc32 kV32 dc32 pm32 cd32 ct32 oc33 kV33 dc33 pm33 cd33 ct33 oc34 kV34 dc34 pm34 cd34 ct34 : Value} {rs13 rs14 rs30 : List Value} {t0x t1x t2x : Tok}
    {ea0 : Value} {da0 : Option Addr} {ca0 : ClassData} {xa0 : Array (Option Value)}
    (m0 : PySem.W.nsIn K mainGlobals "Stair" = some (some (.ref C0)))
    (a0 : PySem.W.nsIn K mainGlobals "law" = some (some (.ref f0)))
    (l0 : K.lookup f0 = some ⟨oc0, od0, .func (PySem.W.fnOf "law" "law" (defArgs st0) (defBody st0) (defScope st0) .none kV0 dc0 pm0 an0 cd0 ct0), sl0⟩)
    (c0 : PySem.W.codeIn K cd0 "law" = true)
    (k0 : PySem.W.keepIn K (.ref f0) = true)
    (a1 : PySem.W.nsIn K mainGlobals "_law_begin" = some (some (.ref f1)))
    (l1 : K.lookup f1 = some ⟨oc1, od1, .func (PySem.W.fnOf "_law_begin" "_law_begin" (defArgs st1) (defBody st1) (defScope st1) .none kV1 dc1 pm1 an1 cd1 ct1), sl1⟩)
    (c1 : PySem.W.codeIn K cd1 "_law_begin" = true)
    (k1 : PySem.W.keepIn K (.ref f1) = true)
    (a2 : PySem.W.nsIn K mainGlobals "_law_stair" = some (some (.ref f2)))
    (l2 : K.lookup f2 = some ⟨oc2, od2, .func (PySem.W.fnOf "_law_stair" "_law_stair" (defArgs st2) (defBody st2) (defScope st2) .none kV2 dc2 pm2 an2 cd2 ct2), sl2⟩)
    (c2 : PySem.W.codeIn K cd2 "_law_stair" = true)
    (k2 : PySem.W.keepIn K (.ref f2) = true)
    (a3 : PySem.W.nsIn K mainGlobals "_law_draw" = some (some (.ref f3)))
    (l3 : K.lookup f3 = some ⟨oc3, od3, .func (PySem.W.fnOf "_law_draw" "_law_draw" (defArgs st3) (defBody st3) (defScope st3) .none kV3 dc3 pm3 an3 cd3 ct3), sl3⟩)
    (c3 : PySem.W.codeIn K cd3 "_law_draw" = true)
    (k3 : PySem.W.keepIn K (.ref f3) = true)
    (a4 : PySem.W.findIn K (.ref C0) "__init__" = some (some (.ref f4)))
    (i4 : PySem.W.isFn K (.ref f4) = true)
    (l4 : K.lookup f4 = some ⟨oc4, od4, .func (PySem.W.fnOf "__init__" "Stair.__init__" (defArgs st4) (defBody st4) (defScope st4) .none kV4 dc4 pm4 an4 cd4 ct4), sl4⟩)
    (c4 : PySem.W.codeIn K cd4 "Stair.__init__" = true)
    (k4 : PySem.W.keepIn K (.ref f4) = true)
    (a5 : PySem.W.nsIn K mainGlobals "_need_steps" = some (some (.ref f5)))
    (l5 : K.lookup f5 = some ⟨oc5, od5, .func (PySem.W.fnOf "_need_steps" "_need_steps" (defArgs st5) (defBody st5) (defScope st5) .none kV5 dc5 pm5 an5 cd5 ct5), sl5⟩)
    (c5 : PySem.W.codeIn K cd5 "_need_steps" = true)
    (k5 : PySem.W.keepIn K (.ref f5) = true)
    (a6 : PySem.W.nsIn K mainGlobals "is_integer" = some (some (.ref f6)))
    (l6 : K.lookup f6 = some ⟨oc6, od6, .func (PySem.W.fnOf "is_integer" "is_integer" (defArgs st6) (defBody st6) (defScope st6) .none kV6 dc6 pm6 an6 cd6 ct6), sl6⟩)
    (c6 : PySem.W.codeIn K cd6 "is_integer" = true)
    (k6 : PySem.W.keepIn K (.ref f6) = true)
    (a7 : PySem.W.nsIn K mainGlobals "is_tuple" = some (some (.ref f7)))
    (l7 : K.lookup f7 = some ⟨oc7, od7, .func (PySem.W.fnOf "is_tuple" "is_tuple" (defArgs st7) (defBody st7) (defScope st7) .none kV7 dc7 pm7 an7 cd7 ct7), sl7⟩)
    (c7 : PySem.W.codeIn K cd7 "is_tuple" = true)
    (k7 : PySem.W.keepIn K (.ref f7) = true)
    (a8 : PySem.W.nsIn K mainGlobals "_wrong_step" = some (some (.ref f8)))
    (l8 : K.lookup f8 = some ⟨oc8, od8, .func (PySem.W.fnOf "_wrong_step" "_wrong_step" (defArgs st8) (defBody st8) (defScope st8) .none kV8 dc8 pm8 an8 cd8 ct8), sl8⟩)
    (c8 : PySem.W.codeIn K cd8 "_wrong_step" = true)
    (k8 : PySem.W.keepIn K (.ref f8) = true)
    (a9 : PySem.W.nsIn K mainGlobals "are_integers" = some (some (.ref f9)))
    (l9 : K.lookup f9 = some ⟨oc9, od9, .func (PySem.W.fnOf "are_integers" "are_integers" (defArgs st9) (defBody st9) (defScope st9) .none kV9 dc9 pm9 an9 cd9 ct9), sl9⟩)
    (c9 : PySem.W.codeIn K cd9 "are_integers" = true)
    (k9 : PySem.W.keepIn K (.ref f9) = true)
    (a10 : PySem.W.nsIn K mainGlobals "_plain" = some (some (.ref f10)))
    (l10 : K.lookup f10 = some ⟨oc10, od10, .func (PySem.W.fnOf "_plain" "_plain" (defArgs st10) (defBody st10) (defScope st10) .none kV10 dc10 pm10 an10 cd10 ct10), sl10⟩)
    (c10 : PySem.W.codeIn K cd10 "_plain" = true)
    (k10 : PySem.W.keepIn K (.ref f10) = true)
    (a11 : PySem.W.nsIn K mainGlobals "_rising" = some (some (.ref f11)))
    (l11 : K.lookup f11 = some ⟨oc11, od11, .func (PySem.W.fnOf "_rising" "_rising" (defArgs st11) (defBody st11) (defScope st11) .none kV11 dc11 pm11 an11 cd11 ct11), sl11⟩)
    (c11 : PySem.W.codeIn K cd11 "_rising" = true)
    (k11 : PySem.W.keepIn K (.ref f11) = true)
    (a12 : PySem.W.nsIn K mainGlobals "_gaps" = some (some (.ref f12)))
    (l12 : K.lookup f12 = some ⟨oc12, od12, .func (PySem.W.fnOf "_gaps" "_gaps" (defArgs st12) (defBody st12) (defScope st12) .none kV12 dc12 pm12 an12 cd12 ct12), sl12⟩)
    (c12 : PySem.W.codeIn K cd12 "_gaps" = true)
    (k12 : PySem.W.keepIn K (.ref f12) = true)
    (a13 : PySem.W.findIn K (.ref C0) "period" = some (some (.ref p13)))
    (g13 : PySem.W.specialIn K (.ref p13) "__get__" = some (some (.builtin "property.__get__")))
    (t13 : PySem.W.takesIn K (.ref p13) = some true)
    (r13 : PySem.W.recIn K p13 "property" = some (.ref f13 :: rs13))
    (l13 : K.lookup f13 = some ⟨oc13, od13, .func (PySem.W.fnOf "period" "Stair.period" (defArgs st13) (defBody st13) (defScope st13) .none kV13 dc13 pm13 an13 cd13 ct13), sl13⟩)
    (c13 : PySem.W.codeIn K cd13 "Stair.period" = true)
    (k13 : PySem.W.keepIn K (.ref f13) = true)
    (a14 : PySem.W.findIn K (.ref C0) "steps" = some (some (.ref p14)))
    (g14 : PySem.W.specialIn K (.ref p14) "__get__" = some (some (.builtin "property.__get__")))
    (t14 : PySem.W.takesIn K (.ref p14) = some true)
    (r14 : PySem.W.recIn K p14 "property" = some (.ref f14 :: rs14))
    (l14 : K.lookup f14 = some ⟨oc14, od14, .func (PySem.W.fnOf "steps" "Stair.steps" (defArgs st14) (defBody st14) (defScope st14) .none kV14 dc14 pm14 an14 cd14 ct14), sl14⟩)
    (c14 : PySem.W.codeIn K cd14 "Stair.steps" = true)
    (k14 : PySem.W.keepIn K (.ref f14) = true)
    (a15 : PySem.W.findIn K (.ref C0) "__call__" = some (some (.ref f15)))
    (i15 : PySem.W.isFn K (.ref f15) = true)
    (h15 : PySem.W.fnIn K f15 = true)
    (l15 : K.lookup f15 = some ⟨oc15, od15, .func (PySem.W.fnOf "__call__" "Stair.__call__" (defArgs st15) (defBody st15) (defScope st15) .none kV15 dc15 pm15 an15 cd15 ct15), sl15⟩)
    (c15 : PySem.W.codeIn K cd15 "Stair.__call__" = true)
    (k15 : PySem.W.keepIn K (.ref f15) = true)
    (a16 : PySem.W.nsIn K mainGlobals "need_integer" = some (some (.ref f16)))
    (l16 : K.lookup f16 = some ⟨oc16, od16, .func (PySem.W.fnOf "need_integer" "need_integer" (defArgs st16) (defBody st16) (defScope st16) .none kV16 dc16 pm16 an16 cd16 ct16), sl16⟩)
    (c16 : PySem.W.codeIn K cd16 "need_integer" = true)
    (k16 : PySem.W.keepIn K (.ref f16) = true)
    (a17 : PySem.W.nsIn K mainGlobals "_value_at" = some (some (.ref f17)))
    (l17 : K.lookup f17 = some ⟨oc17, od17, .func (PySem.W.fnOf "_value_at" "_value_at" (defArgs st17) (defBody st17) (defScope st17) .none kV17 dc17 pm17 an17 cd17 ct17), sl17⟩)
    (c17 : PySem.W.codeIn K cd17 "_value_at" = true)
    (k17 : PySem.W.keepIn K (.ref f17) = true)
    (a18 : PySem.W.nsIn K mainGlobals "_step" = some (some (.ref f18)))
    (l18 : K.lookup f18 = some ⟨oc18, od18, .func (PySem.W.fnOf "_step" "_step" (defArgs st18) (defBody st18) (defScope st18) .none kV18 dc18 pm18 an18 cd18 ct18), sl18⟩)
    (c18 : PySem.W.codeIn K cd18 "_step" = true)
    (k18 : PySem.W.keepIn K (.ref f18) = true)
    (a19 : PySem.W.nsIn K mainGlobals "_index_at" = some (some (.ref f19)))
    (l19 : K.lookup f19 = some ⟨oc19, od19, .func (PySem.W.fnOf "_index_at" "_index_at" (defArgs st19) (defBody st19) (defScope st19) .none kV19 dc19 pm19 an19 cd19 ct19), sl19⟩)
    (c19 : PySem.W.codeIn K cd19 "_index_at" = true)
    (k19 : PySem.W.keepIn K (.ref f19) = true)
    (a20 : PySem.W.nsIn K mainGlobals "_many_below" = some (some (.ref f20)))
    (l20 : K.lookup f20 = some ⟨oc20, od20, .func (PySem.W.fnOf "_many_below" "_many_below" (defArgs st20) (defBody st20) (defScope st20) .none kV20 dc20 pm20 an20 cd20 ct20), sl20⟩)
    (c20 : PySem.W.codeIn K cd20 "_many_below" = true)
    (k20 : PySem.W.keepIn K (.ref f20) = true)
    (a21 : PySem.W.findIn K (.ref C0) "__eq__" = some (some (.ref f21)))
    (i21 : PySem.W.isFn K (.ref f21) = true)
    (l21 : K.lookup f21 = some ⟨oc21, od21, .func (PySem.W.fnOf "__eq__" "Stair.__eq__" (defArgs st21) (defBody st21) (defScope st21) .none kV21 dc21 pm21 an21 cd21 ct21), sl21⟩)
    (c21 : PySem.W.codeIn K cd21 "Stair.__eq__" = true)
    (k21 : PySem.W.keepIn K (.ref f21) = true)
    (a22 : PySem.W.findIn K (.ref C0) "__add__" = some (some (.ref f22)))
    (i22 : PySem.W.isFn K (.ref f22) = true)
    (l22 : K.lookup f22 = some ⟨oc22, od22, .func (PySem.W.fnOf "__add__" "Stair.__add__" (defArgs st22) (defBody st22) (defScope st22) .none kV22 dc22 pm22 an22 cd22 ct22), sl22⟩)
    (c22 : PySem.W.codeIn K cd22 "Stair.__add__" = true)
    (k22 : PySem.W.keepIn K (.ref f22) = true)
    (a23 : PySem.W.findIn K (.ref C0) "__radd__" = some (some (.ref f23)))
    (i23 : PySem.W.isFn K (.ref f23) = true)
    (l23 : K.lookup f23 = some ⟨oc23, od23, .func (PySem.W.fnOf "__radd__" "Stair.__radd__" (defArgs st23) (defBody st23) (defScope st23) .none kV23 dc23 pm23 an23 cd23 ct23), sl23⟩)
    (c23 : PySem.W.codeIn K cd23 "Stair.__radd__" = true)
    (k23 : PySem.W.keepIn K (.ref f23) = true)
    (a24 : PySem.W.findIn K (.ref C0) "__sub__" = some (some (.ref f24)))
    (i24 : PySem.W.isFn K (.ref f24) = true)
    (l24 : K.lookup f24 = some ⟨oc24, od24, .func (PySem.W.fnOf "__sub__" "Stair.__sub__" (defArgs st24) (defBody st24) (defScope st24) .none kV24 dc24 pm24 an24 cd24 ct24), sl24⟩)
    (c24 : PySem.W.codeIn K cd24 "Stair.__sub__" = true)
    (k24 : PySem.W.keepIn K (.ref f24) = true)
    (a25 : PySem.W.findIn K (.ref C0) "__mul__" = some (some (.ref f25)))
    (i25 : PySem.W.isFn K (.ref f25) = true)
    (l25 : K.lookup f25 = some ⟨oc25, od25, .func (PySem.W.fnOf "__mul__" "Stair.__mul__" (defArgs st25) (defBody st25) (defScope st25) .none kV25 dc25 pm25 an25 cd25 ct25), sl25⟩)
    (c25 : PySem.W.codeIn K cd25 "Stair.__mul__" = true)
    (k25 : PySem.W.keepIn K (.ref f25) = true)
    (a26 : PySem.W.nsIn K mainGlobals "need_stair" = some (some (.ref f26)))
    (l26 : K.lookup f26 = some ⟨oc26, od26, .func (PySem.W.fnOf "need_stair" "need_stair" (defArgs st26) (defBody st26) (defScope st26) .none kV26 dc26 pm26 an26 cd26 ct26), sl26⟩)
    (c26 : PySem.W.codeIn K cd26 "need_stair" = true)
    (k26 : PySem.W.keepIn K (.ref f26) = true)
    (a27 : PySem.W.nsIn K mainGlobals "need_few" = some (some (.ref f27)))
    (l27 : K.lookup f27 = some ⟨oc27, od27, .func (PySem.W.fnOf "need_few" "need_few" (defArgs st27) (defBody st27) (defScope st27) .none kV27 dc27 pm27 an27 cd27 ct27), sl27⟩)
    (c27 : PySem.W.codeIn K cd27 "need_few" = true)
    (k27 : PySem.W.keepIn K (.ref f27) = true)
    (a28 : PySem.W.nsIn K mainGlobals "many_within" = some (some (.ref f28)))
    (l28 : K.lookup f28 = some ⟨oc28, od28, .func (PySem.W.fnOf "many_within" "many_within" (defArgs st28) (defBody st28) (defScope st28) .none kV28 dc28 pm28 an28 cd28 ct28), sl28⟩)
    (c28 : PySem.W.codeIn K cd28 "many_within" = true)
    (k28 : PySem.W.keepIn K (.ref f28) = true)
    (a29 : PySem.W.nsIn K mainGlobals "unrolled" = some (some (.ref f29)))
    (l29 : K.lookup f29 = some ⟨oc29, od29, .func (PySem.W.fnOf "unrolled" "unrolled" (defArgs st29) (defBody st29) (defScope st29) .none kV29 dc29 pm29 an29 cd29 ct29), sl29⟩)
    (c29 : PySem.W.codeIn K cd29 "unrolled" = true)
    (k29 : PySem.W.keepIn K (.ref f29) = true)
    (a30 : PySem.W.findCls K (.ref C0) (.type "type") "shift" = some (.get (.builtin "staticmethod.__get__") (.ref p30) .none (.ref C0)))
    (r30 : PySem.W.recIn K p30 "staticmethod" = some (.ref f30 :: rs30))
    (u30 : PySem.W.readsIn K C0 (.type "type") = true)
    (v30 : PySem.W.specialIn K (.ref C0) "__getattribute__" = some (some (.builtin "type.__getattribute__")))
    (l30 : K.lookup f30 = some ⟨oc30, od30, .func (PySem.W.fnOf "shift" "Stair.shift" (defArgs st30) (defBody st30) (defScope st30) .none kV30 dc30 pm30 an30 cd30 ct30), sl30⟩)
    (c30 : PySem.W.codeIn K cd30 "Stair.shift" = true)
    (k30 : PySem.W.keepIn K (.ref f30) = true)
    (a31 : PySem.W.nsIn K mainGlobals "_law_great" = some (some (.ref f31)))
    (l31 : K.lookup f31 = some ⟨oc31, od31, .func (PySem.W.fnOf "_law_great" "_law_great" (defArgs st31) (defBody st31) (defScope st31) .none kV31 dc31 pm31 an31 cd31 ct31), sl31⟩)
    (c31 : PySem.W.codeIn K cd31 "_law_great" = true)
    (k31 : PySem.W.keepIn K (.ref f31) = true)
    (a32 : PySem.W.nsIn K mainGlobals "_law_value" = some (some (.ref f32)))
    (l32 : K.lookup f32 = some ⟨oc32, od32, .func (PySem.W.fnOf "_law_value" "_law_value" (defArgs st32) (defBody st32) (defScope st32) .none kV32 dc32 pm32 an32 cd32 ct32), sl32⟩)
    (c32 : PySem.W.codeIn K cd32 "_law_value" = true)
    (k32 : PySem.W.keepIn K (.ref f32) = true)
    (a33 : PySem.W.nsIn K mainGlobals "_law_plain" = some (some (.ref f33)))
    (l33 : K.lookup f33 = some ⟨oc33, od33, .func (PySem.W.fnOf "_law_plain" "_law_plain" (defArgs st33) (defBody st33) (defScope st33) .none kV33 dc33 pm33 an33 cd33 ct33), sl33⟩)
    (c33 : PySem.W.codeIn K cd33 "_law_plain" = true)
    (k33 : PySem.W.keepIn K (.ref f33) = true)
    (a34 : PySem.W.nsIn K mainGlobals "_law_told" = some (some (.ref f34)))
    (l34 : K.lookup f34 = some ⟨oc34, od34, .func (PySem.W.fnOf "_law_told" "_law_told" (defArgs st34) (defBody st34) (defScope st34) .none kV34 dc34 pm34 an34 cd34 ct34), sl34⟩)
    (c34 : PySem.W.codeIn K cd34 "_law_told" = true)
    (k34 : PySem.W.keepIn K (.ref f34) = true)
    (q0 : PySem.W.nsIn K mainGlobals "MOST_STEPS" = some (some (.int 4096 t0x)))
    (q1 : PySem.W.nsIn K mainGlobals "_VALUE" = some (some (.int 1 t1x)))
    (q2 : PySem.W.nsIn K mainGlobals "_AT" = some (some (.int 0 t2x)))
    (z0 : PySem.W.nsIn K mainGlobals "len" = some none)
    (z1 : PySem.W.nsIn K mainGlobals "abs" = some none)
    (z2 : PySem.W.nsIn K mainGlobals "int" = some none)
    (z3 : PySem.W.nsIn K mainGlobals "tuple" = some none)
    (z4 : PySem.W.nsIn K mainGlobals "list" = some none)
    (z5 : PySem.W.nsIn K mainGlobals "divmod" = some none)
    (z6 : PySem.W.nsIn K mainGlobals "all" = some none)
    (z7 : PySem.W.nsIn K mainGlobals "min" = some none)
    (z8 : PySem.W.nsIn K mainGlobals "max" = some none)
    (z9 : PySem.W.nsIn K mainGlobals "isinstance" = some none)
    (z10 : PySem.W.nsIn K mainGlobals "range" = some none)
    (z11 : PySem.W.nsIn K mainGlobals "enumerate" = some none)
    (z12 : PySem.W.nsIn K mainGlobals "zip" = some none)
    (z13 : PySem.W.nsIn K mainGlobals "bool" = some none)
    (z14 : PySem.W.nsIn K mainGlobals "str" = some none)
    (z15 : PySem.W.nsIn K mainGlobals "repr" = some none)
    (z16 : PySem.W.nsIn K mainGlobals "sum" = some none)
    (zl : PySem.W.nsIn K mainGlobals "lcm" = some (some (.builtin "math.lcm")))
    (mk0 : PySem.W.makesIn K C0 = true)
    (kc0 : PySem.W.keepIn K (.ref C0) = true)
    (pg0 : PySem.W.plainGet K C0 Str.empty = true)
    (hd0 : PySem.W.hasDictIn K C0 = true)
    (po0 : PySem.W.plainOver K C0 = true)
    (sa0 : PySem.W.findIn K (.ref C0) "__setattr__" = some (some (.builtin "object.__setattr__")))
    (nf0_0 : PySem.W.findIn K (.ref C0) "_period" = some none)
    (nf0_1 : PySem.W.findIn K (.ref C0) "_steps" = some none)
    (ia0 : PySem.W.findIn K (.ref C0) "__class__" = some (some (.builtin "object.__class__")))
    (ib0 : PySem.W.specialIn K (.builtin "object.__class__") "__get__" = some (some (.builtin "getset_descriptor.__get__")))
    (ic0 : PySem.W.takesIn K (.builtin "object.__class__") = some true)
    (id0 : PySem.W.mroIn K C0 (.type "object") = some true)
    (ka0 : K.lookup C0 = some ⟨ea0, da0, .cls ca0, xa0⟩)
    (kb0 : PySem.W.typeIn K (.ref C0) = some (.type "type"))
    (kk0_0 : PySem.W.subIn K (.ref C0) (.type "bool") = some false)
    (kk0_1 : PySem.W.subIn K (.ref C0) (.type "int") = some false)
    (kk0_2 : PySem.W.subIn K (.ref C0) (.type "str") = some false)
    (kk0_3 : PySem.W.subIn K (.ref C0) (.type "tuple") = some false)
    (kd0_0 : PySem.W.subIn K (.type "NoneType") (.ref C0) = some false)
    (kd0_1 : PySem.W.subIn K (.type "bool") (.ref C0) = some false)
    (kd0_2 : PySem.W.subIn K (.type "int") (.ref C0) = some false)
    (kd0_3 : PySem.W.subIn K (.type "str") (.ref C0) = some false)
    (kd0_4 : PySem.W.subIn K (.type "tuple") (.ref C0) = some false)
    (kd0_5 : PySem.W.subIn K (.type "list") (.ref C0) = some false)
    (ob0_Add : PySem.W.findIn K (.type "int") (PySem.dunder "add") = some (some (.builtin "int.__add__")))
    (oc0_Add : PySem.W.findIn K (.type "int") (dunderR "add") = some (some (.builtin "int.__radd__")))
    (oa0_Sub : PySem.W.findIn K (.ref C0) (dunderR "sub") = some none)
    (ob0_Sub : PySem.W.findIn K (.type "int") (PySem.dunder "sub") = some (some (.builtin "int.__sub__")))
    (oc0_Sub : PySem.W.findIn K (.type "int") (dunderR "sub") = some (some (.builtin "int.__rsub__")))
    (nn0 : PySem.W.findIn K (.ref C0) "__ne__" = some (some (.builtin "object.__ne__")))
    (se0 : PySem.W.selfFirst K C0 = true)
    (ns0 : PySem.W.noSeq K C0 = true)
    : ∃ (cl : Cls0) (fa : Fa), fa.addr 0 = fa0 ∧ fa.ps 0 = (["script"] : List Str) ∧ (∀ (s : Shared) (v : Value), BindsTo s (fa.dat 0) ⟨[v], []⟩ [("script", v)]) ∧ PF nm P gl df fds cl fa K mg ∧ DF { nm with rp := true } P gl fds fa K 0 := by
  have e := hfa.symm.trans (PySem.W.mg_of X G a0)
  have e2 : f0 = fa0 := by cases e; rfl
  subst e2
  have F0 := fun_mk (st := st0) l0 c0 k0
  have B0 := F0.binds (ps := ["script"]) fun _ _ _ _ _ _ us hl => match us, hl with | [_], _ => rfl
  have F1 := fun_mk (st := st1) l1 c1 k1
  have B1 := F1.binds (ps := ["script"]) fun _ _ _ _ _ _ us hl => match us, hl with | [_], _ => rfl
  have F2 := fun_mk (st := st2) l2 c2 k2
  have B2 := F2.binds (ps := ["state", "size"]) fun _ _ _ _ _ _ us hl => match us, hl with | [_, _], _ => rfl
  have F3 := fun_mk (st := st3) l3 c3 k3
  have B3 := F3.binds (ps := ["state", "many"]) fun _ _ _ _ _ _ us hl => match us, hl with | [_, _], _ => rfl
  have F4 := fun_mk (st := st4) l4 c4 k4
  have B4 := F4.binds (ps := ["self", "period", "steps"]) fun _ _ _ _ _ _ us hl => match us, hl with | [_, _, _], _ => rfl
  have F5 := fun_mk (st := st5) l5 c5 k5
  have B5 := F5.binds (ps := ["period", "steps"]) fun _ _ _ _ _ _ us hl => match us, hl with | [_, _], _ => rfl
  have F6 := fun_mk (st := st6) l6 c6 k6
  have B6 := F6.binds (ps := ["thing"]) fun _ _ _ _ _ _ us hl => match us, hl with | [_], _ => rfl
  have F7 := fun_mk (st := st7) l7 c7 k7
  have B7 := F7.binds (ps := ["thing", "least", "most"]) fun _ _ _ _ _ _ us hl => match us, hl with | [_, _, _], _ => rfl
  have F8 := fun_mk (st := st8) l8 c8 k8
  have B8 := F8.binds (ps := ["period", "steps"]) fun _ _ _ _ _ _ us hl => match us, hl with | [_, _], _ => rfl
  have F9 := fun_mk (st := st9) l9 c9 k9
  have B9 := F9.binds (ps := ["thing", "many"]) fun _ _ _ _ _ _ us hl => match us, hl with | [_, _], _ => rfl
  have F10 := fun_mk (st := st10) l10 c10 k10
  have B10 := F10.binds (ps := ["period", "steps"]) fun _ _ _ _ _ _ us hl => match us, hl with | [_, _], _ => rfl
  have F11 := fun_mk (st := st11) l11 c11 k11
  have B11 := F11.binds (ps := ["period", "steps"]) fun _ _ _ _ _ _ us hl => match us, hl with | [_, _], _ => rfl
  have F12 := fun_mk (st := st12) l12 c12 k12
  have B12 := F12.binds (ps := ["period", "steps"]) fun _ _ _ _ _ _ us hl => match us, hl with | [_, _], _ => rfl
  have F13 := fun_mk (st := st13) l13 c13 k13
  have B13 := F13.binds (ps := ["self"]) fun _ _ _ _ _ _ us hl => match us, hl with | [_], _ => rfl
  have F14 := fun_mk (st := st14) l14 c14 k14
  have B14 := F14.binds (ps := ["self"]) fun _ _ _ _ _ _ us hl => match us, hl with | [_], _ => rfl
  have F15 := fun_mk (st := st15) l15 c15 k15
  have B15 := F15.binds (ps := ["self", "moment"]) fun _ _ _ _ _ _ us hl => match us, hl with | [_, _], _ => rfl
  have F16 := fun_mk (st := st16) l16 c16 k16
  have B16 := F16.binds (ps := ["thing"]) fun _ _ _ _ _ _ us hl => match us, hl with | [_], _ => rfl
  have F17 := fun_mk (st := st17) l17 c17 k17
  have B17 := F17.binds (ps := ["stair", "moment"]) fun _ _ _ _ _ _ us hl => match us, hl with | [_, _], _ => rfl
  have F18 := fun_mk (st := st18) l18 c18 k18
  have B18 := F18.binds (ps := ["stair", "index"]) fun _ _ _ _ _ _ us hl => match us, hl with | [_, _], _ => rfl
  have F19 := fun_mk (st := st19) l19 c19 k19
  have B19 := F19.binds (ps := ["stair", "moment"]) fun _ _ _ _ _ _ us hl => match us, hl with | [_, _], _ => rfl
  have F20 := fun_mk (st := st20) l20 c20 k20
  have B20 := F20.binds (ps := ["steps", "part", "bound"]) fun _ _ _ _ _ _ us hl => match us, hl with | [_, _, _], _ => rfl
  have F21 := fun_mk (st := st21) l21 c21 k21
  have B21 := F21.binds (ps := ["self", "other"]) fun _ _ _ _ _ _ us hl => match us, hl with | [_, _], _ => rfl
  have F22 := fun_mk (st := st22) l22 c22 k22
  have B22 := F22.binds (ps := ["self", "other"]) fun _ _ _ _ _ _ us hl => match us, hl with | [_, _], _ => rfl
  have F23 := fun_mk (st := st23) l23 c23 k23
  have B23 := F23.binds (ps := ["self", "other"]) fun _ _ _ _ _ _ us hl => match us, hl with | [_, _], _ => rfl
  have F24 := fun_mk (st := st24) l24 c24 k24
  have B24 := F24.binds (ps := ["self", "other"]) fun _ _ _ _ _ _ us hl => match us, hl with | [_, _], _ => rfl
  have F25 := fun_mk (st := st25) l25 c25 k25
  have B25 := F25.binds (ps := ["self", "other"]) fun _ _ _ _ _ _ us hl => match us, hl with | [_, _], _ => rfl
  have F26 := fun_mk (st := st26) l26 c26 k26
  have B26 := F26.binds (ps := ["thing"]) fun _ _ _ _ _ _ us hl => match us, hl with | [_], _ => rfl
  have F27 := fun_mk (st := st27) l27 c27 k27
  have B27 := F27.binds (ps := ["many"]) fun _ _ _ _ _ _ us hl => match us, hl with | [_], _ => rfl
  have F28 := fun_mk (st := st28) l28 c28 k28
  have B28 := F28.binds (ps := ["stair", "span"]) fun _ _ _ _ _ _ us hl => match us, hl with | [_, _], _ => rfl
  have F29 := fun_mk (st := st29) l29 c29 k29
  have B29 := F29.binds (ps := ["stair", "span"]) fun _ _ _ _ _ _ us hl => match us, hl with | [_, _], _ => rfl
  have F30 := fun_mk (st := st30) l30 c30 k30
  have B30 := F30.binds (ps := ["number"]) fun _ _ _ _ _ _ us hl => match us, hl with | [_], _ => rfl
  have F31 := fun_mk (st := st31) l31 c31 k31
  have B31 := F31.binds (ps := ["state"]) fun _ _ _ _ _ _ us hl => match us, hl with | [_], _ => rfl
  have F32 := fun_mk (st := st32) l32 c32 k32
  have B32 := F32.binds (ps := ["pair", "moment"]) fun _ _ _ _ _ _ us hl => match us, hl with | [_, _], _ => rfl
  have F33 := fun_mk (st := st33) l33 c33 k33
  have B33 := F33.binds (ps := ["values"]) fun _ _ _ _ _ _ us hl => match us, hl with | [_], _ => rfl
  have F34 := fun_mk (st := st34) l34 c34 k34
  have B34 := F34.binds (ps := ["stair"]) fun _ _ _ _ _ _ us hl => match us, hl with | [_], _ => rfl
  refine ⟨fun c => match c with | 0 => some (C0, ["_period", "_steps"]) | _ => none,
    ⟨fun i => match i with | 0 => f0 | 1 => f1 | 2 => f2 | 3 => f3 | 4 => f4 | 5 => f5 | 6 => f6 | 7 => f7 | 8 => f8 | 9 => f9 | 10 => f10 | 11 => f11 | 12 => f12 | 13 => f13 | 14 => f14 | 15 => f15 | 16 => f16 | 17 => f17 | 18 => f18 | 19 => f19 | 20 => f20 | 21 => f21 | 22 => f22 | 23 => f23 | 24 => f24 | 25 => f25 | 26 => f26 | 27 => f27 | 28 => f28 | 29 => f29 | 30 => f30 | 31 => f31 | 32 => f32 | 33 => f33 | 34 => f34 | _ => f0,
      fun i => match i with | 0 => PySem.W.fnOf "law" "law" (defArgs st0) (defBody st0) (defScope st0) .none kV0 dc0 pm0 an0 cd0 ct0 | 1 => PySem.W.fnOf "_law_begin" "_law_begin" (defArgs st1) (defBody st1) (defScope st1) .none kV1 dc1 pm1 an1 cd1 ct1 | 2 => PySem.W.fnOf "_law_stair" "_law_stair" (defArgs st2) (defBody st2) (defScope st2) .none kV2 dc2 pm2 an2 cd2 ct2 | 3 => PySem.W.fnOf "_law_draw" "_law_draw" (defArgs st3) (defBody st3) (defScope st3) .none kV3 dc3 pm3 an3 cd3 ct3 | 4 => PySem.W.fnOf "__init__" "Stair.__init__" (defArgs st4) (defBody st4) (defScope st4) .none kV4 dc4 pm4 an4 cd4 ct4 | 5 => PySem.W.fnOf "_need_steps" "_need_steps" (defArgs st5) (defBody st5) (defScope st5) .none kV5 dc5 pm5 an5 cd5 ct5 | 6 => PySem.W.fnOf "is_integer" "is_integer" (defArgs st6) (defBody st6) (defScope st6) .none kV6 dc6 pm6 an6 cd6 ct6 | 7 => PySem.W.fnOf "is_tuple" "is_tuple" (defArgs st7) (defBody st7) (defScope st7) .none kV7 dc7 pm7 an7 cd7 ct7 | 8 => PySem.W.fnOf "_wrong_step" "_wrong_step" (defArgs st8) (defBody st8) (defScope st8) .none kV8 dc8 pm8 an8 cd8 ct8 | 9 => PySem.W.fnOf "are_integers" "are_integers" (defArgs st9) (defBody st9) (defScope st9) .none kV9 dc9 pm9 an9 cd9 ct9 | 10 => PySem.W.fnOf "_plain" "_plain" (defArgs st10) (defBody st10) (defScope st10) .none kV10 dc10 pm10 an10 cd10 ct10 | 11 => PySem.W.fnOf "_rising" "_rising" (defArgs st11) (defBody st11) (defScope st11) .none kV11 dc11 pm11 an11 cd11 ct11 | 12 => PySem.W.fnOf "_gaps" "_gaps" (defArgs st12) (defBody st12) (defScope st12) .none kV12 dc12 pm12 an12 cd12 ct12 | 13 => PySem.W.fnOf "period" "Stair.period" (defArgs st13) (defBody st13) (defScope st13) .none kV13 dc13 pm13 an13 cd13 ct13 | 14 => PySem.W.fnOf "steps" "Stair.steps" (defArgs st14) (defBody st14) (defScope st14) .none kV14 dc14 pm14 an14 cd14 ct14 | 15 => PySem.W.fnOf "__call__" "Stair.__call__" (defArgs st15) (defBody st15) (defScope st15) .none kV15 dc15 pm15 an15 cd15 ct15 | 16 => PySem.W.fnOf "need_integer" "need_integer" (defArgs st16) (defBody st16) (defScope st16) .none kV16 dc16 pm16 an16 cd16 ct16 | 17 => PySem.W.fnOf "_value_at" "_value_at" (defArgs st17) (defBody st17) (defScope st17) .none kV17 dc17 pm17 an17 cd17 ct17 | 18 => PySem.W.fnOf "_step" "_step" (defArgs st18) (defBody st18) (defScope st18) .none kV18 dc18 pm18 an18 cd18 ct18 | 19 => PySem.W.fnOf "_index_at" "_index_at" (defArgs st19) (defBody st19) (defScope st19) .none kV19 dc19 pm19 an19 cd19 ct19 | 20 => PySem.W.fnOf "_many_below" "_many_below" (defArgs st20) (defBody st20) (defScope st20) .none kV20 dc20 pm20 an20 cd20 ct20 | 21 => PySem.W.fnOf "__eq__" "Stair.__eq__" (defArgs st21) (defBody st21) (defScope st21) .none kV21 dc21 pm21 an21 cd21 ct21 | 22 => PySem.W.fnOf "__add__" "Stair.__add__" (defArgs st22) (defBody st22) (defScope st22) .none kV22 dc22 pm22 an22 cd22 ct22 | 23 => PySem.W.fnOf "__radd__" "Stair.__radd__" (defArgs st23) (defBody st23) (defScope st23) .none kV23 dc23 pm23 an23 cd23 ct23 | 24 => PySem.W.fnOf "__sub__" "Stair.__sub__" (defArgs st24) (defBody st24) (defScope st24) .none kV24 dc24 pm24 an24 cd24 ct24 | 25 => PySem.W.fnOf "__mul__" "Stair.__mul__" (defArgs st25) (defBody st25) (defScope st25) .none kV25 dc25 pm25 an25 cd25 ct25 | 26 => PySem.W.fnOf "need_stair" "need_stair" (defArgs st26) (defBody st26) (defScope st26) .none kV26 dc26 pm26 an26 cd26 ct26 | 27 => PySem.W.fnOf "need_few" "need_few" (defArgs st27) (defBody st27) (defScope st27) .none kV27 dc27 pm27 an27 cd27 ct27 | 28 => PySem.W.fnOf "many_within" "many_within" (defArgs st28) (defBody st28) (defScope st28) .none kV28 dc28 pm28 an28 cd28 ct28 | 29 => PySem.W.fnOf "unrolled" "unrolled" (defArgs st29) (defBody st29) (defScope st29) .none kV29 dc29 pm29 an29 cd29 ct29 | 30 => PySem.W.fnOf "shift" "Stair.shift" (defArgs st30) (defBody st30) (defScope st30) .none kV30 dc30 pm30 an30 cd30 ct30 | 31 => PySem.W.fnOf "_law_great" "_law_great" (defArgs st31) (defBody st31) (defScope st31) .none kV31 dc31 pm31 an31 cd31 ct31 | 32 => PySem.W.fnOf "_law_value" "_law_value" (defArgs st32) (defBody st32) (defScope st32) .none kV32 dc32 pm32 an32 cd32 ct32 | 33 => PySem.W.fnOf "_law_plain" "_law_plain" (defArgs st33) (defBody st33) (defScope st33) .none kV33 dc33 pm33 an33 cd33 ct33 | 34 => PySem.W.fnOf "_law_told" "_law_told" (defArgs st34) (defBody st34) (defScope st34) .none kV34 dc34 pm34 an34 cd34 ct34 | _ => PySem.W.fnOf "law" "law" (defArgs st0) (defBody st0) (defScope st0) .none kV0 dc0 pm0 an0 cd0 ct0,
      fun i => match i with | 0 => ["script"] | 1 => ["script"] | 2 => ["state", "size"] | 3 => ["state", "many"] | 4 => ["self", "period", "steps"] | 5 => ["period", "steps"] | 6 => ["thing"] | 7 => ["thing", "least", "most"] | 8 => ["period", "steps"] | 9 => ["thing", "many"] | 10 => ["period", "steps"] | 11 => ["period", "steps"] | 12 => ["period", "steps"] | 13 => ["self"] | 14 => ["self"] | 15 => ["self", "moment"] | 16 => ["thing"] | 17 => ["stair", "moment"] | 18 => ["stair", "index"] | 19 => ["stair", "moment"] | 20 => ["steps", "part", "bound"] | 21 => ["self", "other"] | 22 => ["self", "other"] | 23 => ["self", "other"] | 24 => ["self", "other"] | 25 => ["self", "other"] | 26 => ["thing"] | 27 => ["many"] | 28 => ["stair", "span"] | 29 => ["stair", "span"] | 30 => ["number"] | 31 => ["state"] | 32 => ["pair", "moment"] | 33 => ["values"] | 34 => ["stair"] | _ => []⟩, rfl, rfl, fun s v => .of_eq rfl, ?_, ⟨⟨_, _, st0, N0, _, rfl, F0, sc0, ck0, rfl, rfl, rfl⟩, B0, k0⟩⟩
  refine ⟨gf_of ?con ?blt (PySem.W.mg_of X G zl) ?cls ?mth ?fld ?prop ?app ?sta ?made ?rop, ?ne, ?d, ?i, ?n, ?m, ?p, ?s⟩
  case con =>
    intro g i h
    match g, h with
    | 0, h => cases h; exact ⟨_, PySem.W.mg_of X G q0⟩
    | 1, h => cases h; exact ⟨_, PySem.W.mg_of X G q1⟩
    | 2, h => cases h; exact ⟨_, PySem.W.mg_of X G q2⟩
    | g + 3, h => cases h
  case blt =>
    intro x hx
    simp only [bltNames, List.mem_cons, List.not_mem_nil, or_false] at hx
    rcases hx with rfl | rfl | rfl | rfl | rfl | rfl | rfl | rfl | rfl | rfl | rfl | rfl | rfl | rfl | rfl | rfl | rfl
    · exact PySem.W.mg_none_of X G z0
    · exact PySem.W.mg_none_of X G z1
    · exact PySem.W.mg_none_of X G z2
    · exact PySem.W.mg_none_of X G z3
    · exact PySem.W.mg_none_of X G z4
    · exact PySem.W.mg_none_of X G z5
    · exact PySem.W.mg_none_of X G z6
    · exact PySem.W.mg_none_of X G z7
    · exact PySem.W.mg_none_of X G z8
    · exact PySem.W.mg_none_of X G z9
    · exact PySem.W.mg_none_of X G z10
    · exact PySem.W.mg_none_of X G z11
    · exact PySem.W.mg_none_of X G z12
    · exact PySem.W.mg_none_of X G z13
    · exact PySem.W.mg_none_of X G z14
    · exact PySem.W.mg_none_of X G z15
    · exact PySem.W.mg_none_of X G z16
  case cls =>
    intro c C ns h
    match c, h with
    | 0, h => cases h; exact ⟨⟨pg0, hd0, po0, sa0, PySem.W.mg_of X G m0, (List.forall_mem_cons.mpr ⟨nf0_0, (List.forall_mem_cons.mpr ⟨nf0_1, (fun _ h => by cases h)⟩)⟩), ia0, ib0, ic0, id0, ⟨ca0, by unfold PySem.W.clsIn; rw [ka0]⟩, kb0, (List.forall_mem_cons.mpr ⟨kk0_0, (List.forall_mem_cons.mpr ⟨kk0_1, (List.forall_mem_cons.mpr ⟨kk0_2, (List.forall_mem_cons.mpr ⟨kk0_3, (fun _ h => by cases h)⟩)⟩)⟩)⟩), (List.forall_mem_cons.mpr ⟨kd0_0, (List.forall_mem_cons.mpr ⟨kd0_1, (List.forall_mem_cons.mpr ⟨kd0_2, (List.forall_mem_cons.mpr ⟨kd0_3, (List.forall_mem_cons.mpr ⟨kd0_4, (List.forall_mem_cons.mpr ⟨kd0_5, (fun _ h => by cases h)⟩)⟩)⟩)⟩)⟩)⟩), nn0, se0, ns0⟩, rfl, by decide +kernel⟩
    | c + 1, h => cases h
  case mth =>
    intro c m f C ns h hc
    simp only [P] at h
    split at h
    · cases h; cases hc; exact ⟨a15, i15, k15⟩
    · cases h; cases hc; exact ⟨a21, i21, k21⟩
    · cases h; cases hc; exact ⟨a22, i22, k22⟩
    · cases h; cases hc; exact ⟨a23, i23, k23⟩
    · cases h; cases hc; exact ⟨a24, i24, k24⟩
    · cases h; cases hc; exact ⟨a25, i25, k25⟩
    · cases h
  case fld =>
    intro c f i C ns h hc
    simp only [P] at h
    split at h
    · cases h; cases hc; rfl
    · cases h; cases hc; rfl
    · cases h
  case prop =>
    intro c f g C ns h hc
    simp only [P] at h
    split at h
    · cases h; cases hc; exact ⟨_, a13, g13, t13, _, r13⟩
    · cases h; cases hc; exact ⟨_, a14, g14, t14, _, r14⟩
    · cases h
  case app =>
    intro c f C ns h hc
    simp only [P] at h
    split at h
    · cases h; cases hc; exact h15
    · rename_i q; cases q
    · rename_i q; cases q
    · rename_i q; cases q
    · rename_i q; cases q
    · rename_i q; cases q
    · cases h
  case sta =>
    intro f c m h
    simp only [P] at h
    split at h
    · cases h; exact ⟨_, _, _, _, _, rfl, u30, v30, kb0, a30, r30⟩
    · cases h
  case made =>
    intro c f C ns h hc
    match c, h with
    | 0, h => cases h; cases hc; exact ⟨mk0, a4, i4, kc0⟩
    | c + 1, h => cases h
  case rop =>
    intro op c C ns g h0 h1 hc
    match c, hc with
    | 0, hc => cases hc; cases op <;> first | exact absurd h0 (by decide) | exact ⟨_, _, _, a23, .inr ⟨_, rfl⟩, ob0_Add, oc0_Add, kd0_2⟩ | exact ⟨_, _, _, oa0_Sub, .inl rfl, ob0_Sub, oc0_Sub, kd0_2⟩
    | c + 1, hc => cases hc
  case ne =>
    intro c C ns h
    match c, h with
    | 0, h => cases h; simp
    | c + 1, h => cases h
  case d =>
    intro f hf
    match f, hf with
    | 0, hf => exact absurd hf (by decide)
    | 1, _ => exact ⟨⟨_, _, st1, N1, _, rfl, F1, sc1, ck1, rfl, rfl, rfl⟩, B1, k1⟩
    | 2, _ => exact ⟨⟨_, _, st2, N2, _, rfl, F2, sc2, ck2, rfl, rfl, rfl⟩, B2, k2⟩
    | 3, _ => exact ⟨⟨_, _, st3, N3, _, rfl, F3, sc3, ck3, rfl, rfl, rfl⟩, B3, k3⟩
    | 4, hf => exact absurd hf (by decide)
    | 5, _ => exact ⟨⟨_, _, st5, N5, _, rfl, F5, sc5, ck5, rfl, rfl, rfl⟩, B5, k5⟩
    | 6, _ => exact ⟨⟨_, _, st6, N6, _, rfl, F6, sc6, ck6, rfl, rfl, rfl⟩, B6, k6⟩
    | 7, _ => exact ⟨⟨_, _, st7, N7, _, rfl, F7, sc7, ck7, rfl, rfl, rfl⟩, B7, k7⟩
    | 8, _ => exact ⟨⟨_, _, st8, N8, _, rfl, F8, sc8, ck8, rfl, rfl, rfl⟩, B8, k8⟩
    | 9, _ => exact ⟨⟨_, _, st9, N9, _, rfl, F9, sc9, ck9, rfl, rfl, rfl⟩, B9, k9⟩
    | 10, _ => exact ⟨⟨_, _, st10, N10, _, rfl, F10, sc10, ck10, rfl, rfl, rfl⟩, B10, k10⟩
    | 11, _ => exact ⟨⟨_, _, st11, N11, _, rfl, F11, sc11, ck11, rfl, rfl, rfl⟩, B11, k11⟩
    | 12, _ => exact ⟨⟨_, _, st12, N12, _, rfl, F12, sc12, ck12, rfl, rfl, rfl⟩, B12, k12⟩
    | 13, _ => exact ⟨⟨_, _, st13, N13, _, rfl, F13, sc13, ck13, rfl, rfl, rfl⟩, B13, k13⟩
    | 14, _ => exact ⟨⟨_, _, st14, N14, _, rfl, F14, sc14, ck14, rfl, rfl, rfl⟩, B14, k14⟩
    | 15, _ => exact ⟨⟨_, _, st15, N15, _, rfl, F15, sc15, ck15, rfl, rfl, rfl⟩, B15, k15⟩
    | 16, _ => exact ⟨⟨_, _, st16, N16, _, rfl, F16, sc16, ck16, rfl, rfl, rfl⟩, B16, k16⟩
    | 17, _ => exact ⟨⟨_, _, st17, N17, _, rfl, F17, sc17, ck17, rfl, rfl, rfl⟩, B17, k17⟩
    | 18, _ => exact ⟨⟨_, _, st18, N18, _, rfl, F18, sc18, ck18, rfl, rfl, rfl⟩, B18, k18⟩
    | 19, _ => exact ⟨⟨_, _, st19, N19, _, rfl, F19, sc19, ck19, rfl, rfl, rfl⟩, B19, k19⟩
    | 20, _ => exact ⟨⟨_, _, st20, N20, _, rfl, F20, sc20, ck20, rfl, rfl, rfl⟩, B20, k20⟩
    | 21, _ => exact ⟨⟨_, _, st21, N21, _, rfl, F21, sc21, ck21, rfl, rfl, rfl⟩, B21, k21⟩
    | 22, _ => exact ⟨⟨_, _, st22, N22, _, rfl, F22, sc22, ck22, rfl, rfl, rfl⟩, B22, k22⟩
    | 23, _ => exact ⟨⟨_, _, st23, N23, _, rfl, F23, sc23, ck23, rfl, rfl, rfl⟩, B23, k23⟩
    | 24, _ => exact ⟨⟨_, _, st24, N24, _, rfl, F24, sc24, ck24, rfl, rfl, rfl⟩, B24, k24⟩
    | 25, _ => exact ⟨⟨_, _, st25, N25, _, rfl, F25, sc25, ck25, rfl, rfl, rfl⟩, B25, k25⟩
    | 26, _ => exact ⟨⟨_, _, st26, N26, _, rfl, F26, sc26, ck26, rfl, rfl, rfl⟩, B26, k26⟩
    | 27, _ => exact ⟨⟨_, _, st27, N27, _, rfl, F27, sc27, ck27, rfl, rfl, rfl⟩, B27, k27⟩
    | 28, _ => exact ⟨⟨_, _, st28, N28, _, rfl, F28, sc28, ck28, rfl, rfl, rfl⟩, B28, k28⟩
    | 29, _ => exact ⟨⟨_, _, st29, N29, _, rfl, F29, sc29, ck29, rfl, rfl, rfl⟩, B29, k29⟩
    | 30, _ => exact ⟨⟨_, _, st30, N30, _, rfl, F30, sc30, ck30, rfl, rfl, rfl⟩, B30, k30⟩
    | 31, _ => exact ⟨⟨_, _, st31, N31, _, rfl, F31, sc31, ck31, rfl, rfl, rfl⟩, B31, k31⟩
    | 32, _ => exact ⟨⟨_, _, st32, N32, _, rfl, F32, sc32, ck32, rfl, rfl, rfl⟩, B32, k32⟩
    | 33, _ => exact ⟨⟨_, _, st33, N33, _, rfl, F33, sc33, ck33, rfl, rfl, rfl⟩, B33, k33⟩
    | 34, _ => exact ⟨⟨_, _, st34, N34, _, rfl, F34, sc34, ck34, rfl, rfl, rfl⟩, B34, k34⟩
    | f + 35, hf => exact absurd hf (by simp [df])
  case i =>
    intro c f h
    match c, h with
    | 0, h => cases h; exact ⟨⟨_, _, rfl⟩, ⟨_, _, _, _, st4, N4, _, rfl, by decide, rfl, F4, sc4, ck4, rfl, rfl, rfl⟩, B4⟩
    | c + 1, h => cases h
  case n =>
    intro f hf
    match f, hf with
    | 0, hf => exact absurd hf (by decide)
    | 1, _ => exact ⟨rfl, PySem.W.mg_of X G a1⟩
    | 2, _ => exact ⟨rfl, PySem.W.mg_of X G a2⟩
    | 3, _ => exact ⟨rfl, PySem.W.mg_of X G a3⟩
    | 4, hf => exact absurd hf (by decide)
    | 5, _ => exact ⟨rfl, PySem.W.mg_of X G a5⟩
    | 6, _ => exact ⟨rfl, PySem.W.mg_of X G a6⟩
    | 7, _ => exact ⟨rfl, PySem.W.mg_of X G a7⟩
    | 8, _ => exact ⟨rfl, PySem.W.mg_of X G a8⟩
    | 9, _ => exact ⟨rfl, PySem.W.mg_of X G a9⟩
    | 10, _ => exact ⟨rfl, PySem.W.mg_of X G a10⟩
    | 11, _ => exact ⟨rfl, PySem.W.mg_of X G a11⟩
    | 12, _ => exact ⟨rfl, PySem.W.mg_of X G a12⟩
    | 13, hf => exact absurd hf (by decide)
    | 14, hf => exact absurd hf (by decide)
    | 15, hf => exact absurd hf (by decide)
    | 16, _ => exact ⟨rfl, PySem.W.mg_of X G a16⟩
    | 17, _ => exact ⟨rfl, PySem.W.mg_of X G a17⟩
    | 18, _ => exact ⟨rfl, PySem.W.mg_of X G a18⟩
    | 19, _ => exact ⟨rfl, PySem.W.mg_of X G a19⟩
    | 20, _ => exact ⟨rfl, PySem.W.mg_of X G a20⟩
    | 21, hf => exact absurd hf (by decide)
    | 22, hf => exact absurd hf (by decide)
    | 23, hf => exact absurd hf (by decide)
    | 24, hf => exact absurd hf (by decide)
    | 25, hf => exact absurd hf (by decide)
    | 26, _ => exact ⟨rfl, PySem.W.mg_of X G a26⟩
    | 27, _ => exact ⟨rfl, PySem.W.mg_of X G a27⟩
    | 28, _ => exact ⟨rfl, PySem.W.mg_of X G a28⟩
    | 29, _ => exact ⟨rfl, PySem.W.mg_of X G a29⟩
    | 30, hf => exact absurd hf (by decide)
    | 31, _ => exact ⟨rfl, PySem.W.mg_of X G a31⟩
    | 32, _ => exact ⟨rfl, PySem.W.mg_of X G a32⟩
    | 33, _ => exact ⟨rfl, PySem.W.mg_of X G a33⟩
    | 34, _ => exact ⟨rfl, PySem.W.mg_of X G a34⟩
    | f + 35, hf => exact absurd hf (by simp [gl])
  case m =>
    intro c m f h
    simp only [P] at h
    split at h
    · cases h; rfl
    · cases h; rfl
    · cases h; rfl
    · cases h; rfl
    · cases h; rfl
    · cases h; rfl
    · cases h
  case p =>
    intro c m f h
    simp only [P] at h
    split at h
    · cases h; rfl
    · cases h; rfl
    · cases h
  case s =>
    intro f cm h
    simp only [P] at h
    split at h
    · rfl
    · cases h
end Lw
set_option Elab.async false
set_option linter.all false
set_option maxRecDepth 100000
set_option maxHeartbeats 4000000
namespace Lw
open PySem L2 Vw
abbrev pr (p : Int × Int) : D := .tup [.int p.1, .int p.2]
abbrev tp (l : List (Int × Int)) : D := .tup (l.map pr)
theorem r_is (k : Nat) (i : Int) (μ : Mu) : run P fds (k + 1) n_is_integer [.int i] μ = .ok (.bl true) μ := rfl
theorem r_need (k : Nat) (i : Int) (μ : Mu) : run P fds (k + 2) n_need_integer [.int i] μ = .ok .non μ := rfl
theorem r_period (k : Nat) (a b : D) (μ : Mu) : run P fds (k + 1) n_Stair_period [.obj 0 [a, b]] μ = .ok a μ := rfl
theorem r_steps (k : Nat) (a b : D) (μ : Mu) : run P fds (k + 1) n_Stair_steps [.obj 0 [a, b]] μ = .ok b μ := rfl
theorem r_istup {k : Nat} {l : List D} {a b : Int} {μ : Mu} : run P fds (k + 1) n_is_tuple [.tup l, .int a, .int b] μ = .ok (.bl (decide (a ≤ (l.length : Int)) && decide ((l.length : Int) ≤ b))) μ := by
  obtain ⟨d, μ', e, h⟩ := Out.wp_iff.mp (wp_run (P := P) (fds := fds) (f := n_is_tuple) (k := k) (ds := [.tup l, .int a, .int b]) (μ := μ) (Q := fun d μ' => d = .bl (decide (a ≤ (l.length : Int)) && decide ((l.length : Int) ≤ b)) ∧ μ' = μ) rfl rfl (by
    show (exss P _ b_is_tuple [.val (.tup l), .val (.int a), .val (.int b)] μ).wp _ _ _ _
    simp only [b_is_tuple, w_cons, w_ret, w_and, w_blt, w_esC, w_esN, w_var, get_0, get_s, asV_val, w_isTup, tst_bl, if_true, w_one, w_chain, w_lenT, w_le]
    by_cases h : a ≤ (l.length : Int) <;> simp [h]))
  rw [e, h.1, h.2]
theorem r_are (k : Nat) (i j : Int) (μ : Mu) : run P fds (k + 2) n_are_integers [.tup [.int i, .int j], .int 2] μ = .ok (.bl true) μ := rfl
abbrev sel (part : Nat) (p : Int × Int) : Int := if part = 0 then p.1 else p.2
theorem at_nat {α : Type} {l : List α} {i : Nat} (h : i < l.length) : at? l (i : Int) = some l[i] := by
  unfold at? L2.atI L2.ixN
  have h1 : (0 : Int) ≤ (i : Int) := by omega
  simp [h1, h]
theorem whl_go {c : Rho → Mu → Out D} {f : Rho → Mu → So} {n : Nat} {ρ : Rho} {μ : Mu} : whlgo c f (n + 1) ρ μ = (c ρ μ).so fun k μ1 => match k with
    | .bl true => match f ρ μ1 with
      | .nx ρ1 μ2 => whlgo c f n ρ1 μ2
      | .cnt ρ1 μ2 => whlgo c f n ρ1 μ2
      | .brk ρ1 μ2 => .nx ρ1 μ2
      | o => o
    | .bl false => .nx ρ μ1
    | _ => .bad := rfl
def asc (part : Nat) (l : List (Int × Int)) : Prop := ∀ i j (hi : i < l.length) (hj : j < l.length), i ≤ j → sel part l[i] ≤ sel part l[j]
section
variable (k : Nat) (μ : Mu) (l : List (Int × Int)) (part : Nat) (b : Int)
abbrev rS (x : Sl) (lo hi : Int) : Rho := [.val (tp l), .val (.int part), .val (.int b), .val (.int lo), .val (.int hi), x]
theorem tp_at {i : Nat} (h : i < l.length) : at? (l.map pr) (i : Int) = some (pr l[i]) := by
  have h' : i < (l.map pr).length := by simpa using h
  rw [at_nat h', List.getElem_map]
theorem pr_at (p : Int × Int) (hp : part = 0 ∨ part = 1) : at? ([.int p.1, .int p.2] : List D) (part : Int) = some (.int (sel part p)) := by
  rcases hp with rfl | rfl <;> rfl
abbrev wC : E := .cmp .Lt (.var 3) (.var 4)
abbrev wB : Ss := .cons (.set 5 (.bin .FloorDiv (.bin .Add (.var 3) (.var 4)) (.int 2))) (.cons (.ife (.cmp .Lt (.ix (.ix (.var 0) (.var 5)) (.var 1)) (.var 2)) (.cons (.set 3 (.bin .Add (.var 5) (.int 1))) .nil) (.cons (.set 4 (.var 5)) .nil)) .nil)
variable {k μ l part b}
theorem wB_eq {x : Sl} {lo hi : Nat} (hp : part = 0 ∨ part = 1) (h : lo < hi) (hl : hi ≤ l.length) : ∃ y, exss P (run P fds k) wB (rS l part b x lo hi) μ =
    .nx (if sel part (l[(lo + hi) / 2]'(by omega)) < b then rS l part b y (((lo + hi) / 2 + 1 : Nat) : Int) hi else rS l part b y lo (((lo + hi) / 2 : Nat) : Int)) μ := by
  have hm : (lo + hi) / 2 < l.length := by omega
  have e : ((lo : Int) + (hi : Int)) / 2 = (((lo + hi) / 2 : Nat) : Int) := by omega
  refine ⟨.val (.int (((lo + hi) / 2 : Nat) : Int)), ?_⟩
  have z := tp_at (l := l) hm
  simp only [exss, exs, ev, Sl.get, Sl.put, Out.bind_ok, Out.so_ok, So.bind_nx, bop, e]
  rw [if_pos (by decide)]
  simp only [Out.so_ok, So.bind_nx, Sl.get, Sl.put, Out.bind_ok, ixop, z, pr_at _ _ hp, cop, e]
  by_cases hc : sel part l[(lo + hi) / 2] < b
  · simp only [hc, decide_true, if_true, exss, exs, ev, Sl.get, Sl.put, Out.bind_ok, Out.so_ok, So.bind_nx, bop]
    rfl
  · simp only [hc, decide_false, if_false, exss, exs, ev, Sl.get, Sl.put, Out.bind_ok, Out.so_ok, So.bind_nx, bop]
theorem whl_search (hp : part = 0 ∨ part = 1) (ho : asc part l) : ∀ (n lo hi : Nat) (x : Sl), hi - lo < n → lo ≤ hi → hi ≤ l.length → (∀ i (h : i < l.length), i < lo → sel part l[i] < b) → (∀ i (h : i < l.length), hi ≤ i → b ≤ sel part l[i]) →
    ∃ r x', r ≤ l.length ∧ (∀ i (h : i < l.length), i < r → sel part l[i] < b) ∧ (∀ i (h : i < l.length), r ≤ i → b ≤ sel part l[i]) ∧ whlgo (ev P (run P fds k) wC) (exss P (run P fds k) wB) n (rS l part b x lo hi) μ = .nx (rS l part b x' r r) μ := fun n => by
  induction n with
  | zero => intro lo hi x h; omega
  | succ n ih =>
    intro lo hi x h1 h2 h3 h4 h5
    rw [whl_go]
    have ec : ev P (run P fds k) wC (rS l part b x lo hi) μ = .ok (.bl (decide ((lo : Int) < (hi : Int)))) μ := rfl
    rw [ec]
    by_cases hlt : lo < hi
    · have d : decide ((lo : Int) < (hi : Int)) = true := by simp; omega
      rw [d]
      simp only [Out.so_ok]
      obtain ⟨y, e⟩ := wB_eq (k := k) (μ := μ) (b := b) (x := x) hp hlt h3
      rw [e]
      by_cases hc : sel part (l[(lo + hi) / 2]'(by omega)) < b
      · rw [if_pos hc]
        exact ih ((lo + hi) / 2 + 1) hi y (by omega) (by omega) h3 (fun i hi' hl => Int.lt_of_le_of_lt (ho i ((lo + hi) / 2) hi' (by omega) (by omega)) hc) h5
      · rw [if_neg hc]
        exact ih lo ((lo + hi) / 2) y (by omega) (by omega) (by omega) h4 (fun i hi' hl => Int.le_trans (Int.not_lt.mp hc) (ho ((lo + hi) / 2) i (by omega) hi' hl))
    · have d : decide ((lo : Int) < (hi : Int)) = false := by simp; omega
      rw [d]
      have e : lo = hi := by omega
      subst e
      exact ⟨lo, x, h3, h4, h5, rfl⟩
theorem r_many_below (hp : part = 0 ∨ part = 1) (ho : asc part l) (hl : l.length < 2 ^ 39) : ∃ r : Nat, r ≤ l.length ∧ (∀ i (h : i < l.length), i < r → sel part l[i] < b) ∧ (∀ i (h : i < l.length), r ≤ i → b ≤ sel part l[i]) ∧
    run P fds (k + 1) n__many_below [tp l, .int part, .int b] μ = .ok (.int r) μ := by
  obtain ⟨r, x, h1, h2, h3, e⟩ := whl_search (k := k) (μ := μ) (b := b) hp ho fuel 0 l.length .und (by unfold fuel; omega) (Nat.zero_le _) (Nat.le_refl _) (fun i _ h => absurd h (Nat.not_lt_zero _)) (fun i h1 h2 => absurd h1 (by omega))
  refine ⟨r, h1, h2, h3, run_ret (fd := ⟨0, 6, 3, b__many_below⟩) rfl rfl ?_⟩
  have eb : exss P (run P fds k) b__many_below [.val (tp l), .val (.int part), .val (.int b), .und, .und, .und] μ = .ret (.int r) μ := by
    show So.bind (So.nx [.val (tp l), .val (.int part), .val (.int b), .val (.int 0), .val (.int (l.map pr).length), .und] μ) (fun ρ μ => (whlgo (ev P (run P fds k) wC) (exss P (run P fds k) wB) fuel ρ μ).bind (exss P (run P fds k) (.cons (.ret (.var 3)) .nil))) = _
    rw [So.bind_nx, List.length_map]
    have e' : whlgo (ev P (run P fds k) wC) (exss P (run P fds k) wB) fuel [.val (tp l), .val (.int part), .val (.int b), .val (.int 0), .val (.int l.length), .und] μ = _ := e
    rw [e']
    rfl
  exact eb
end
abbrev obj (p : Int) (l : List (Int × Int)) : D := .obj 0 [.int p, tp l]
theorem small_log {n : Nat} (h : n < 2 ^ 39) : ((n : Int)).natAbs.log2 < 9000 := by
  rw [Int.natAbs_natCast]
  exact Nat.lt_trans (log_le h (by decide)) (by decide)
def stp (p : Int) (l : List (Int × Int)) (i : Int) : Int × Int := ((l.getD (i % (l.length : Int)).toNat (0, 0)).1 + i / (l.length : Int) * p, (l.getD (i % (l.length : Int)).toNat (0, 0)).2 + i / (l.length : Int) * p)
theorem r_step {k : Nat} {μ : Mu} {p idx : Int} {l : List (Int × Int)} (hl : 0 < l.length) (hc : l.length < 2 ^ 39) (hb : (idx / (l.length : Int)).natAbs.log2 + p.natAbs.log2 < 1000000) :
    run P fds (k + 2) n__step [obj p l, .int idx] μ = .ok (pr (stp p l idx)) μ := by
  have hp : (0 : Int) < (l.length : Int) := by omega
  have hm0 : 0 ≤ idx % (l.length : Int) := Int.emod_nonneg _ (by omega)
  have hr : (idx % (l.length : Int)).toNat < l.length := by
    have := Int.emod_lt_of_pos idx hp
    omega
  have z := tp_at (l := l) hr
  rw [Int.toNat_of_nonneg hm0] at z
  have eg : l.getD (idx % (l.length : Int)).toNat (0, 0) = l[(idx % (l.length : Int)).toNat] := by
    rw [List.getD_eq_getElem?_getD, List.getElem?_eq_getElem hr]; rfl
  unfold stp
  rw [eg]
  have S : ∀ ρ : Rho, Sl.get ρ 0 = .val (obj p l) → ev P (run P fds (k + 1)) (.fld (.var 0) f_steps) ρ μ = .ok (tp l) μ := fun ρ h => (e_prop (e_var h) rfl rfl).trans (r_steps k _ _ μ)
  have Q : ∀ ρ : Rho, Sl.get ρ 0 = .val (obj p l) → ev P (run P fds (k + 1)) (.fld (.var 0) f_period) ρ μ = .ok (.int p) μ := fun ρ h => (e_prop (e_var h) rfl rfl).trans (r_period k _ _ μ)
  have L : bltop P (run P fds (k + 1)) .len [tp l] μ = .ok (.int (l.length : Int)) μ := by
    show Out.ok (D.int ((l.map pr).length : Nat)) μ = _
    rw [List.length_map]
  refine run_ret rfl rfl ?_
  refine (ss_nx (s_un ((e_blt (es_cons (e_var rfl) (es_cons ((e_blt (es_cons (S _ rfl) es_nil)).trans L) es_nil))).trans (t_divmod hp (small_log hc))) rfl)).trans ?_
  refine (ss_nx (s_un ((e_ix (S _ rfl) (e_var rfl)).trans (x_tup z)) rfl)).trans ?_
  have M := b_mul (P := P) (Γ := run P fds (k + 1)) (μ := μ) hb
  exact ss_ret (s_ret (e_tup (es_cons ((e_bin (e_var rfl) ((e_bin (e_var rfl) (Q _ rfl)).trans M)).trans b_add) (es_cons ((e_bin (e_var rfl) ((e_bin (e_var rfl) (Q _ rfl)).trans M)).trans b_add) es_nil)) (show 2 ≤ 16777216 by decide)))
theorem r_index {k : Nat} {μ : Mu} {p t : Int} {l : List (Int × Int)} (hp : 0 < p) (hpl : p.natAbs.log2 < 9000) (hc : l.length < 2 ^ 39) (ho : asc 0 l) (hb : (t / p).natAbs.log2 < 900000) :
    ∃ r : Nat, r ≤ l.length ∧ (∀ i (h : i < l.length), i < r → (l[i]).1 ≤ t % p) ∧ (∀ i (h : i < l.length), r ≤ i → t % p < (l[i]).1) ∧ run P fds (k + 2) n__index_at [obj p l, .int t] μ = .ok (.int (t / p * (l.length : Int) + r - 1)) μ := by
  obtain ⟨r, h1, h2, h3, e⟩ := r_many_below (k := k) (μ := μ) (l := l) (part := 0) (b := t % p + 1) (.inl rfl) ho hc
  refine ⟨r, h1, fun i h hi => ?_, fun i h hi => ?_, ?_⟩
  · have : (l[i]).1 < t % p + 1 := h2 i h hi
    omega
  · have : t % p + 1 ≤ (l[i]).1 := h3 i h hi
    omega
  have S : ∀ ρ : Rho, Sl.get ρ 0 = .val (obj p l) → ev P (run P fds (k + 1)) (.fld (.var 0) f_steps) ρ μ = .ok (tp l) μ := fun ρ h => (e_prop (e_var h) rfl rfl).trans (r_steps k _ _ μ)
  have Q : ∀ ρ : Rho, Sl.get ρ 0 = .val (obj p l) → ev P (run P fds (k + 1)) (.fld (.var 0) f_period) ρ μ = .ok (.int p) μ := fun ρ h => (e_prop (e_var h) rfl rfl).trans (r_period k _ _ μ)
  have L : bltop P (run P fds (k + 1)) .len [tp l] μ = .ok (.int (l.length : Int)) μ := by
    show Out.ok (D.int ((l.map pr).length : Nat)) μ = _
    rw [List.length_map]
  have hz : (t / p).natAbs.log2 + ((l.length : Int)).natAbs.log2 < 1000000 := by
    have := small_log hc
    omega
  refine run_ret rfl rfl ?_
  refine (ss_nx (s_un ((e_blt (es_cons (e_var rfl) (es_cons (Q _ rfl) es_nil))).trans (t_divmod hp hpl)) rfl)).trans ?_
  exact ss_ret (s_ret ((e_bin ((e_bin ((e_bin (e_var rfl) ((e_blt (es_cons (S _ rfl) es_nil)).trans L)).trans (b_mul hz)) ((e_call (es_cons (S _ rfl) (es_cons (e_con rfl) (es_cons ((e_bin (e_var rfl) e_int).trans b_add) es_nil)))).trans e)).trans b_add) e_int).trans b_sub))
def val (p : Int) (l : List (Int × Int)) (t : Int) : Int := (stp p l (t / p * (l.length : Int) + ((l.filter fun q => decide (q.1 ≤ t % p)).length : Int) - 1)).2
theorem count_asc : ∀ {l : List (Int × Int)} {r : Nat} {c : Int}, r ≤ l.length → (∀ i (h : i < l.length), i < r → (l[i]).1 ≤ c) → (∀ i (h : i < l.length), r ≤ i → c < (l[i]).1) → (l.filter fun q => decide (q.1 ≤ c)).length = r
  | [], r, c, h, _, _ => by
    simp only [List.length_nil, Nat.le_zero] at h
    subst h; rfl
  | q :: l, 0, c, _, _, h3 => by
    have hq : ¬ q.1 ≤ c := Int.not_le.mpr (h3 0 (by simp) (Nat.le_refl _))
    rw [List.filter_cons_of_neg (by simpa using hq)]
    exact count_asc (Nat.zero_le _) (fun i _ h => absurd h (Nat.not_lt_zero _)) fun i h _ => h3 (i + 1) (by simpa using h) (Nat.zero_le _)
  | q :: l, r + 1, c, h1, h2, h3 => by
    have hq : q.1 ≤ c := h2 0 (by simp) (Nat.zero_lt_succ _)
    rw [List.filter_cons_of_pos (by simpa using hq), List.length_cons, count_asc (r := r) (by simpa using h1) (fun i h hi => h2 (i + 1) (by simpa using h) (by omega)) fun i h hi => h3 (i + 1) (by simpa using h) (by omega)]
theorem r_value {k : Nat} {μ : Mu} {p t : Int} {l : List (Int × Int)} (hl : 0 < l.length) (hp : 0 < p) (hpl : p.natAbs.log2 < 9000) (hc : l.length < 2 ^ 39) (ho : asc 0 l) (hb : (t / p).natAbs.log2 < 900000) (hb2 : ∀ r : Nat, r ≤ l.length → ((t / p * (l.length : Int) + r - 1) / (l.length : Int)).natAbs.log2 + p.natAbs.log2 < 1000000) :
    run P fds (k + 3) n__value_at [obj p l, .int t] μ = .ok (.int (val p l t)) μ := by
  obtain ⟨r, h1, h2, h3, e⟩ := r_index (k := k) (μ := μ) hp hpl hc ho hb
  have er := count_asc h1 h2 h3
  have es := r_step (k := k) (μ := μ) (p := p) (idx := t / p * (l.length : Int) + r - 1) hl hc (hb2 r h1)
  have ev' : val p l t = (stp p l (t / p * (l.length : Int) + r - 1)).2 := by unfold val; rw [er]
  rw [ev']
  refine run_ret rfl rfl ?_
  exact ss_ret (s_ret ((e_ix ((e_call (es_cons (e_var rfl) (es_cons ((e_call (es_cons (e_var rfl) (es_cons (e_var rfl) es_nil))).trans e) es_nil))).trans es) (e_con rfl)).trans rfl))
theorem r_callS {k : Nat} {μ : Mu} {p t : Int} {l : List (Int × Int)} (hl : 0 < l.length) (hp : 0 < p) (hpl : p.natAbs.log2 < 9000) (hc : l.length < 2 ^ 39) (ho : asc 0 l) (hb : (t / p).natAbs.log2 < 900000) (hb2 : ∀ r : Nat, r ≤ l.length → ((t / p * (l.length : Int) + r - 1) / (l.length : Int)).natAbs.log2 + p.natAbs.log2 < 1000000) :
    run P fds (k + 4) n_Stair___call__ [obj p l, .int t] μ = .ok (.int (val p l t)) μ := by
  refine run_ret rfl rfl ?_
  refine (ss_nx (s_exp ((e_call (es_cons (e_var rfl) es_nil)).trans (r_need (k + 1) t μ)))).trans ?_
  exact ss_ret (s_ret ((e_call (es_cons (e_var rfl) (es_cons (e_var rfl) es_nil))).trans (r_value hl hp hpl hc ho hb hb2)))
def risesF : Int → List (Int × Int) → List (Int × Int)
  | _, [] => []
  | v, q :: l => if q.2 = v then risesF q.2 l else q :: risesF q.2 l
def gapsF : Int × Int → List (Int × Int) → List (Int × Int)
  | _, [] => []
  | a, q :: l => (q.1 - a.1, q.2 - a.2) :: gapsF q l
theorem ne_int {P : Pr} {Γ : Gam} {i j : Int} {μ : Mu} : cop P Γ .NotEq (.int i) (.int j) μ = .ok (.bl (!(decide (i = j)))) μ := by
  show (match deq (.int i) (.int j) with | some k => Out.ok (D.bl !k) μ | none => .bad) = _
  have : deq (.int i) (.int j) = some (decide (i = j)) := by
    unfold deq
    simp only [D.py]
    rw [if_pos ⟨rfl, rfl⟩]
    congr 1
  rw [this]
theorem last_at {α : Type} {l : List α} (h : l ≠ []) : at? l (-1) = some (l.getLast h) := by
  unfold at? L2.atI L2.ixN
  have h0 : 0 < l.length := List.length_pos_iff.mpr h
  rw [if_neg (by omega), if_pos (by omega)]
  show l[((-1 : Int) + (l.length : Int)).toNat]? = _
  have : ((-1 : Int) + (l.length : Int)).toNat = l.length - 1 := by omega
  rw [this, List.getLast_eq_getElem, List.getElem?_eq_getElem]
abbrev rB : Ss := .cons (.ife (.cmp .NotEq (.var 5) (.var 2)) (.cons (.app 3 (.tup (.cons (.var 4) (.cons (.var 5) .nil)))) .nil) .nil) (.cons (.set 2 (.var 5)) .nil)
theorem rising_loop {Γ : Gam} {μ : Mu} {p : Int} {T : D} : ∀ (l : List (Int × Int)) (v : Int) (acc : List (Int × Int)) (x y : Sl), acc.length + l.length ≤ 16777216 → ∃ v' x' y', forgo (fun d ρ μ => match tgo (.tp [4, 5]) d ρ with | some ρ1 => exss P Γ rB ρ1 μ | none => .bad) (l.map pr) [.val (.int p), .val T, .val (.int v), .own (acc.map pr), x, y] μ =
    .nx [.val (.int p), .val T, .val (.int v'), .own ((acc ++ risesF v l).map pr), x', y'] μ
  | [], v, acc, x, y, _ => ⟨v, x, y, by rw [risesF, List.append_nil]; rfl⟩
  | q :: l, v, acc, x, y, h => by
    simp only [List.length_cons] at h
    by_cases e : q.2 = v
    · obtain ⟨v', x', y', ih⟩ := rising_loop (Γ := Γ) (μ := μ) (p := p) (T := T) l q.2 acc (.val (.int q.1)) (.val (.int q.2)) (by omega)
      refine ⟨v', x', y', ?_⟩
      rw [risesF, if_pos e, List.map_cons]
      have z : exss P Γ rB [.val (.int p), .val T, .val (.int v), .own (acc.map pr), .val (.int q.1), .val (.int q.2)] μ = .nx [.val (.int p), .val T, .val (.int q.2), .own (acc.map pr), .val (.int q.1), .val (.int q.2)] μ := by
        have c : ev P Γ (.cmp .NotEq (.var 5) (.var 2)) [.val (.int p), .val T, .val (.int v), .own (acc.map pr), .val (.int q.1), .val (.int q.2)] μ = .ok (.bl false) μ := by
          refine ((e_cmp (e_var rfl) (e_var rfl)).trans ne_int).trans ?_
          rw [decide_eq_true e]; rfl
        exact (ss_nx (s_ifF c)).trans (ss_nx (s_set (e_var rfl)))
      exact (forgo_nx z).trans ih
    · obtain ⟨v', x', y', ih⟩ := rising_loop (Γ := Γ) (μ := μ) (p := p) (T := T) l q.2 (acc ++ [q]) (.val (.int q.1)) (.val (.int q.2)) (by rw [List.length_append, List.length_singleton]; omega)
      refine ⟨v', x', y', ?_⟩
      rw [risesF, if_neg e, List.map_cons]
      have z : exss P Γ rB [.val (.int p), .val T, .val (.int v), .own (acc.map pr), .val (.int q.1), .val (.int q.2)] μ = .nx [.val (.int p), .val T, .val (.int q.2), .own ((acc ++ [q]).map pr), .val (.int q.1), .val (.int q.2)] μ := by
        have c : ev P Γ (.cmp .NotEq (.var 5) (.var 2)) [.val (.int p), .val T, .val (.int v), .own (acc.map pr), .val (.int q.1), .val (.int q.2)] μ = .ok (.bl true) μ := by
          refine ((e_cmp (e_var rfl) (e_var rfl)).trans ne_int).trans ?_
          rw [decide_eq_false e]; rfl
        have a : exss P Γ (.cons (.app 3 (.tup (.cons (.var 4) (.cons (.var 5) .nil)))) .nil) [.val (.int p), .val T, .val (.int v), .own (acc.map pr), .val (.int q.1), .val (.int q.2)] μ = .nx [.val (.int p), .val T, .val (.int v), .own ((acc ++ [q]).map pr), .val (.int q.1), .val (.int q.2)] μ := by
          refine (ss_nx (s_app (e_tup (es_cons (e_var rfl) (es_cons (e_var rfl) es_nil)) (show 2 ≤ 16777216 by decide)) rfl (by rw [List.length_map]; omega))).trans ?_
          rw [List.map_append]; rfl
        exact (ss_nx ((s_ifT c).trans a)).trans (ss_nx (s_set (e_var rfl)))
      refine (forgo_nx z).trans (ih.trans ?_)
      rw [List.append_assoc]; rfl
theorem r_rising {k : Nat} {μ : Mu} {p : Int} {l : List (Int × Int)} (hl : l ≠ []) (hc : l.length ≤ 16777216) : run P fds (k + 1) n__rising [.int p, tp l] μ = .ok (.lst ((risesF ((l.getLast hl).2 - p) l).map pr)) μ := by
  have hl' : l.map pr ≠ [] := by simpa using hl
  have z := last_at hl'
  rw [List.getLast_map] at z
  obtain ⟨v', x', y', e⟩ := rising_loop (Γ := run P fds k) (μ := μ) (p := p) (T := tp l) l ((l.getLast hl).2 - p) [] .und .und (by simpa using hc)
  rw [List.nil_append] at e
  refine run_ret rfl rfl ?_
  refine (ss_nx (s_set ((e_bin ((e_ix ((e_ix (e_var rfl) ((e_un e_int).trans rfl)).trans (x_tup z)) (e_con rfl)).trans rfl) (e_var rfl)).trans b_sub))).trans ?_
  refine (ss_nx (s_bld (e_lst es_nil (Nat.zero_le _)))).trans ?_
  refine (ss_nx ((s_for (items := l.map pr) rfl).trans e)).trans ?_
  exact (ss_nx (s_frz rfl)).trans (ss_ret (s_ret (e_var rfl)))
end Lw
set_option Elab.async false
set_option linter.all false
set_option maxRecDepth 100000
set_option maxHeartbeats 4000000
namespace Lw
open PySem L2 Vw
abbrev gB : Ss := .cons (.app 4 (.tup (.cons (.bin .Sub (.var 5) (.var 2)) (.cons (.bin .Sub (.var 6) (.var 3)) .nil)))) (.cons (.par 2 3 (.var 5) (.var 6) false false) .nil)
theorem gaps_loop {Γ : Gam} {μ : Mu} {p : Int} {T : D} : ∀ (l : List (Int × Int)) (a : Int × Int) (acc : List (Int × Int)) (x y : Sl), acc.length + l.length ≤ 16777216 → ∃ a' x' y', forgo (fun d ρ μ => match tgo (.tp [5, 6]) d ρ with | some ρ1 => exss P Γ gB ρ1 μ | none => .bad) (l.map pr) [.val (.int p), .val T, .val (.int a.1), .val (.int a.2), .own (acc.map pr), x, y] μ =
    .nx [.val (.int p), .val T, .val (.int a'.1), .val (.int (a' : Int × Int).2), .own ((acc ++ gapsF a l).map pr), x', y'] μ
  | [], a, acc, x, y, _ => ⟨a, x, y, by rw [gapsF, List.append_nil]; rfl⟩
  | q :: l, a, acc, x, y, h => by
    simp only [List.length_cons] at h
    obtain ⟨a', x', y', ih⟩ := gaps_loop (Γ := Γ) (μ := μ) (p := p) (T := T) l q (acc ++ [(q.1 - a.1, q.2 - a.2)]) (.val (.int q.1)) (.val (.int q.2)) (by rw [List.length_append, List.length_singleton]; omega)
    refine ⟨a', x', y', ?_⟩
    rw [gapsF, List.map_cons]
    have z : exss P Γ gB [.val (.int p), .val T, .val (.int a.1), .val (.int a.2), .own (acc.map pr), .val (.int q.1), .val (.int q.2)] μ = .nx [.val (.int p), .val T, .val (.int q.1), .val (.int q.2), .own ((acc ++ [(q.1 - a.1, q.2 - a.2)]).map pr), .val (.int q.1), .val (.int q.2)] μ := by
      refine (ss_nx (s_app (e_tup (es_cons ((e_bin (e_var rfl) (e_var rfl)).trans b_sub) (es_cons ((e_bin (e_var rfl) (e_var rfl)).trans b_sub) es_nil)) (show 2 ≤ 16777216 by decide)) rfl (by rw [List.length_map]; omega))).trans ?_
      refine (ss_nx (s_par (e_var rfl) (e_var rfl))).trans ?_
      rw [List.map_append]; rfl
    refine (forgo_nx z).trans (ih.trans ?_)
    rw [List.append_assoc]; rfl
theorem r_gaps {k : Nat} {μ : Mu} {p : Int} {l : List (Int × Int)} (hl : l ≠ []) (hc : l.length ≤ 16777216) : run P fds (k + 1) n__gaps [.int p, .lst (l.map pr)] μ = .ok (.lst ((gapsF ((l.getLast hl).1 - p, (l.getLast hl).2 - p) l).map pr)) μ := by
  have hl' : l.map pr ≠ [] := by simpa using hl
  have z := last_at hl'
  rw [List.getLast_map] at z
  obtain ⟨a', x', y', e⟩ := gaps_loop (Γ := run P fds k) (μ := μ) (p := p) (T := .lst (l.map pr)) l ((l.getLast hl).1 - p, (l.getLast hl).2 - p) [] .und .und (by simpa using hc)
  rw [List.nil_append] at e
  refine run_ret rfl rfl ?_
  have X : ∀ ρ : Rho, Sl.get ρ 1 = .val (.lst (l.map pr)) → ev P (run P fds k) (.ix (.var 1) (.un .USub (.int 1))) ρ μ = .ok (pr (l.getLast hl)) μ := fun ρ h => (e_ix (e_var h) ((e_un e_int).trans rfl)).trans (x_lst z)
  refine (ss_nx (s_par ((e_bin ((e_ix (X _ rfl) (e_con rfl)).trans rfl) (e_var rfl)).trans b_sub) ((e_bin ((e_ix (X _ rfl) (e_con rfl)).trans rfl) (e_var rfl)).trans b_sub))).trans ?_
  refine (ss_nx (s_bld (e_lst es_nil (Nat.zero_le _)))).trans ?_
  refine (ss_nx ((s_for (items := l.map pr) rfl).trans e)).trans ?_
  exact (ss_nx (s_frz rfl)).trans (ss_ret (s_ret (e_var rfl)))
abbrev prP (p : Int × Int) : PyData := .tuple [.int p.1, .int p.2]
theorem pys_pr : ∀ l : List (Int × Int), D.pys (l.map pr) = some (l.map prP)
  | [] => rfl
  | p :: l => by
    rw [List.map_cons, List.map_cons]
    show (match D.py (pr p), D.pys (l.map pr) with | some x, some xs => some (x :: xs) | _, _ => none) = _
    rw [pys_pr l]; rfl
theorem lay_pr : ∀ l : List (Int × Int), PyData.canLayAll0 (l.map prP) = true
  | [] => by simp [PyData.canLayAll0]
  | p :: l => by simp [PyData.canLayAll0, PyData.canLay0, lay_pr l]
theorem dep_pr : ∀ l : List (Int × Int), PyData.depthAll (l.map prP) ≤ 1
  | [] => by simp [PyData.depthAll]
  | p :: l => by
    have := dep_pr l
    simp only [List.map_cons, PyData.depthAll, PyData.depth]
    omega
theorem shp_pr (l : List (Int × Int)) : SeqAt.shaped (.list (l.map prP)) = true := by
  have h1 := dep_pr l
  have h2 : PyData.depth (.list (l.map prP)) ≤ 64 := by
    simp only [PyData.depth]
    omega
  show (PyData.canLay0 (.list (l.map prP)) && decide (PyData.depth (.list (l.map prP)) ≤ 64)) = true
  rw [Bool.and_eq_true]
  exact ⟨by simp only [PyData.canLay0]; exact lay_pr l, decide_eq_true h2⟩
theorem eqv_pr : ∀ l m : List (Int × Int), PyData.eqvAll (l.map prP) (m.map prP) = decide (l = m)
  | [], [] => by simp [PyData.eqvAll]
  | [], _ :: _ => by simp [PyData.eqvAll]
  | _ :: _, [] => by simp [PyData.eqvAll]
  | p :: l, q :: m => by
    obtain ⟨a, b⟩ := p
    obtain ⟨c, d⟩ := q
    have e : PyData.eqvAll (((a, b) :: l).map prP) (((c, d) :: m).map prP) = (((a == c) && ((b == d) && true)) && PyData.eqvAll (l.map prP) (m.map prP)) := by simp only [List.map_cons, PyData.eqv, PyData.eqvAll]
    rw [e, eqv_pr l m]
    by_cases h1 : a = c <;> by_cases h2 : b = d <;> by_cases h3 : l = m <;> simp [h1, h2, h3]
theorem ne_lst {P : Pr} {Γ : Gam} {l m : List (Int × Int)} {μ : Mu} : cop P Γ .NotEq (.lst (l.map pr)) (.lst (m.map pr)) μ = .ok (.bl (!(decide (l = m)))) μ := by
  show (match deq (.lst (l.map pr)) (.lst (m.map pr)) with | some k => Out.ok (D.bl !k) μ | none => .bad) = _
  have : deq (.lst (l.map pr)) (.lst (m.map pr)) = some (decide (l = m)) := by
    unfold deq
    simp only [D.py, pys_pr, Option.map_some]
    rw [if_pos ⟨shp_pr l, shp_pr m⟩]
    congr 1
    show PyData.eqv (.list (l.map prP)) (.list (m.map prP)) = _
    rw [← eqv_pr l m]
    simp only [PyData.eqv]
  rw [this]
theorem six_nat {n m d : Nat} (h : m ≤ n) : HT.sIx n d (some (m : Int)) = m := by
  simp only [HT.sIx]
  repeat' split
  all_goals omega
theorem cut_drop {α : Type} {l : List α} {m : Nat} (h : m ≤ l.length) : cut l (some (m : Int)) none = l.drop m := by
  unfold cut
  rw [six_nat h]
  show (l.drop m).take (l.length - m) = _
  rw [List.take_of_length_le (by simp)]
theorem cut_take {α : Type} {l : List α} {m : Nat} (h : m ≤ l.length) : cut l none (some (m : Int)) = l.take m := by
  unfold cut
  rw [six_nat h]
  show (l.drop 0).take (m - 0) = _
  simp
def rep (l : List (Int × Int)) (m : Nat) : Bool := decide (l.length % m = 0) && decide (l.drop m = l.take (l.length - m))
abbrev pC : E := .or (.cmp .NotEq (.bin .Mod (.blt .len (.cons (.var 2) .nil)) (.var 4)) (.int 0)) (.one (.cmp .NotEq (.sl (.var 3) (.some (.var 4)) .none) (.sl (.var 3) .none (.some (.bin .Sub (.blt .len (.cons (.var 2) .nil)) (.var 4))))))
theorem pC_eq {Γ : Gam} {μ : Mu} {u v : D} {kept gaps : List (Int × Int)} {m : Nat} (hg : gaps.length = kept.length) (h0 : 0 < m) (hm : m ≤ kept.length) : ev P Γ pC [.val u, .val v, .val (.lst (kept.map pr)), .val (.lst (gaps.map pr)), .val (.int m)] μ = .ok (.bl (!rep gaps m)) μ := by
  have L : ev P Γ (.blt .len (.cons (.var 2) .nil)) [.val u, .val v, .val (.lst (kept.map pr)), .val (.lst (gaps.map pr)), .val (.int m)] μ = .ok (.int (kept.length : Int)) μ := by
    refine (e_blt (es_cons (e_var rfl) es_nil)).trans ?_
    show Out.ok (D.int ((kept.map pr).length : Nat)) μ = _
    rw [List.length_map]
  have a : ev P Γ (.cmp .NotEq (.bin .Mod (.blt .len (.cons (.var 2) .nil)) (.var 4)) (.int 0)) [.val u, .val v, .val (.lst (kept.map pr)), .val (.lst (gaps.map pr)), .val (.int m)] μ = .ok (.bl (!(decide (gaps.length % m = 0)))) μ := by
    refine ((e_cmp ((e_bin L (e_var rfl)).trans (b_mod (by omega))) e_int).trans ne_int).trans ?_
    have : decide ((kept.length : Int) % (m : Int) = 0) = decide (gaps.length % m = 0) := by
      rw [hg]
      by_cases h : kept.length % m = 0
      · have : (kept.length : Int) % (m : Int) = 0 := by omega
        simp [h, this]
      · have : ¬ (kept.length : Int) % (m : Int) = 0 := by omega
        simp [h, this]
    rw [this]
  have b : ev P Γ (.cmp .NotEq (.sl (.var 3) (.some (.var 4)) .none) (.sl (.var 3) .none (.some (.bin .Sub (.blt .len (.cons (.var 2) .nil)) (.var 4))))) [.val u, .val v, .val (.lst (kept.map pr)), .val (.lst (gaps.map pr)), .val (.int m)] μ = .ok (.bl (!(decide (gaps.drop m = gaps.take (gaps.length - m))))) μ := by
    have s1 : ev P Γ (.sl (.var 3) (.some (.var 4)) .none) [.val u, .val v, .val (.lst (kept.map pr)), .val (.lst (gaps.map pr)), .val (.int m)] μ = .ok (.lst ((gaps.drop m).map pr)) μ := by
      show Out.ok (D.lst (cut (gaps.map pr) (some (m : Int)) none)) μ = _
      rw [cut_drop (by rw [List.length_map, hg]; exact hm), List.map_drop]
    have s2 : ev P Γ (.sl (.var 3) .none (.some (.bin .Sub (.blt .len (.cons (.var 2) .nil)) (.var 4)))) [.val u, .val v, .val (.lst (kept.map pr)), .val (.lst (gaps.map pr)), .val (.int m)] μ = .ok (.lst ((gaps.take (gaps.length - m)).map pr)) μ := by
      have z : ev P Γ (.bin .Sub (.blt .len (.cons (.var 2) .nil)) (.var 4)) [.val u, .val v, .val (.lst (kept.map pr)), .val (.lst (gaps.map pr)), .val (.int m)] μ = .ok (.int ((gaps.length - m : Nat) : Int)) μ := by
        refine ((e_bin L (e_var rfl)).trans b_sub).trans ?_
        rw [show (kept.length : Int) - (m : Int) = ((gaps.length - m : Nat) : Int) by omega]
      simp only [ev, evo, Sl.get, Out.bind_ok] at z ⊢
      rw [z]
      show Out.ok (D.lst (cut (gaps.map pr) none (some ((gaps.length - m : Nat) : Int)))) μ = _
      rw [cut_take (by rw [List.length_map]; omega), List.map_take]
    exact (e_cmp s1 s2).trans ne_lst
  unfold rep
  cases h : decide (gaps.length % m = 0) with
  | false =>
    rw [h] at a
    exact (e_orT a)
  | true =>
    rw [h] at a
    refine (e_orF a).trans ((e_one b).trans ?_)
    rw [Bool.true_and]
theorem rep_all (l : List (Int × Int)) (h : 0 < l.length) : rep l l.length = true := by
  unfold rep
  simp
theorem many_loop {Γ : Gam} {μ : Mu} {u v : D} {kept gaps : List (Int × Int)} (hg : gaps.length = kept.length) : ∀ (n m : Nat), kept.length - m < n → 0 < m → m ≤ kept.length → (∀ j, 0 < j → j < m → rep gaps j = false) →
    ∃ r, 0 < r ∧ r ≤ kept.length ∧ rep gaps r = true ∧ (∀ j, 0 < j → j < r → rep gaps j = false) ∧ whlgo (ev P Γ pC) (exss P Γ (.cons (.set 4 (.bin .Add (.var 4) (.int 1))) .nil)) n [.val u, .val v, .val (.lst (kept.map pr)), .val (.lst (gaps.map pr)), .val (.int (m : Int))] μ =
      .nx [.val u, .val v, .val (.lst (kept.map pr)), .val (.lst (gaps.map pr)), .val (.int (r : Int))] μ := fun n => by
  induction n with
  | zero => intro m h; omega
  | succ n ih =>
    intro m h1 h2 h3 h4
    have c := pC_eq (Γ := Γ) (μ := μ) (u := u) (v := v) hg h2 h3
    cases hr : rep gaps m with
    | true =>
      rw [hr] at c
      exact ⟨m, h2, h3, hr, h4, whl_F c⟩
    | false =>
      rw [hr] at c
      have hlt : m < kept.length := by
        rcases Nat.lt_or_eq_of_le h3 with q | q
        · exact q
        · rw [q, ← hg, rep_all gaps (by omega)] at hr
          cases hr
      obtain ⟨r, a1, a2, a3, a4, a5⟩ := ih (m + 1) (by omega) (by omega) (by omega) fun j j1 j2 => by
        rcases Nat.lt_or_eq_of_le (Nat.lt_succ_iff.mp j2) with q | q
        · exact h4 j j1 q
        · rw [q]; exact hr
      refine ⟨r, a1, a2, a3, a4, (whl_T c ?_).trans a5⟩
      exact (ss_nx (s_set ((e_bin (e_var rfl) e_int).trans b_add))).trans rfl
theorem r_plain {k : Nat} {μ : Mu} {p : Int} {l kept : List (Int × Int)} (hl : l ≠ []) (hc : l.length ≤ 16777216) (hk : kept = risesF ((l.getLast hl).2 - p) l) (h0 : kept ≠ []) (hkl : kept.length ≤ l.length) :
    ∃ m, 0 < m ∧ m ≤ kept.length ∧ rep (gapsF ((kept.getLast h0).1 - p, (kept.getLast h0).2 - p) kept) m = true ∧ (∀ j, 0 < j → j < m → rep (gapsF ((kept.getLast h0).1 - p, (kept.getLast h0).2 - p) kept) j = false) ∧
      run P fds (k + 2) n__plain [.int p, tp l] μ = .ok (.tup [.int (p / ((kept.length : Int) / (m : Int))), tp (kept.take m)]) μ := by
  have hkl' : kept.length ≤ 16777216 := Nat.le_trans hkl hc
  have e1 := r_rising (k := k) (μ := μ) (p := p) hl hc
  rw [← hk] at e1
  have e2 := r_gaps (k := k) (μ := μ) (p := p) h0 hkl'
  have gl : ∀ (l : List (Int × Int)) (a : Int × Int), (gapsF a l).length = l.length := fun l => by
    induction l with
    | nil => intro a; rfl
    | cons q l ih => intro a; rw [gapsF, List.length_cons, List.length_cons, ih]
  have hpos : 0 < kept.length := List.length_pos_iff.mpr h0
  obtain ⟨m, a1, a2, a3, a4, a5⟩ := many_loop (Γ := run P fds (k + 1)) (μ := μ) (u := .int p) (v := tp l) (kept := kept) (gaps := gapsF ((kept.getLast h0).1 - p, (kept.getLast h0).2 - p) kept) (gl _ _) fuel 1 (by unfold fuel; omega) (by omega) hpos (fun j j1 j2 => by omega)
  refine ⟨m, a1, a2, a3, a4, run_ret rfl rfl ?_⟩
  refine (ss_nx (s_set ((e_call (es_cons (e_var rfl) (es_cons (e_var rfl) es_nil))).trans e1))).trans ?_
  refine (ss_nx (s_set ((e_call (es_cons (e_var rfl) (es_cons (e_var rfl) es_nil))).trans e2))).trans ?_
  refine (ss_nx (s_set e_int)).trans ?_
  refine (ss_nx (s_whl.trans a5)).trans ?_
  have hd : 0 < (kept.length : Int) / (m : Int) := by
    have : 0 < kept.length / m := Nat.div_pos a2 a1
    omega
  have hz : ((kept.length : Int) / (m : Int)).natAbs.log2 < 9000 := by
    rw [show ((kept.length : Int) / (m : Int)) = ((kept.length / m : Nat) : Int) by omega]
    exact small_log (by have := Nat.div_le_self kept.length m; omega)
  have L : ∀ (ρ : Rho), Sl.get ρ 2 = .val (.lst (kept.map pr)) → ev P (run P fds (k + 1)) (.blt .len (.cons (.var 2) .nil)) ρ μ = .ok (.int (kept.length : Int)) μ := fun ρ h => by
    refine (e_blt (es_cons (e_var h) es_nil)).trans ?_
    show Out.ok (D.int ((kept.map pr).length : Nat)) μ = _
    rw [List.length_map]
  refine ss_ret (s_ret (e_tup (es_cons ((e_bin (e_var rfl) ((e_bin (L _ rfl) (e_var rfl)).trans (b_fdiv (by omega) ?_))).trans (b_fdiv hd hz)) (es_cons ?_ es_nil)) (show 2 ≤ 16777216 by decide)))
  · exact small_log (by omega)
  · show Out.ok (D.tup (cut (kept.map pr) none (some (m : Int)))) μ = _
    rw [cut_take (by rw [List.length_map]; exact a2), ← List.map_take]
structure Tells (p : Int) (l : List (Int × Int)) : Prop where
  pos : 0 < p
  ne : l ≠ []
  few : l.length ≤ 4096
  low : ∀ i (h : i < l.length), 0 ≤ (l[i]).1
  high : ∀ i (h : i < l.length), (l[i]).1 < p
  up : ∀ i (h : i + 1 < l.length), (l[i]).1 < (l[i + 1]).1
  val : ∀ i (h : i + 1 < l.length), (l[i]).2 ≤ (l[i + 1]).2
  rise : (l.getLast ne).2 ≤ (l.head ne).2 + p
abbrev wS : Ss := .cons (.ife (.not (.call n_are_integers (.cons (.var 3) (.cons (.int 2) .nil)))) (.cons (.ret (.var 2)) .nil) .nil) (.cons (.un [4, 5] (.var 3)) (.cons (.ife (.or (.cmp .Lt (.var 4) (.int 0)) (.one (.cmp .GtE (.var 4) (.var 0)))) (.cons (.ret (.var 2)) .nil) .nil)
  (.cons (.ife (.and (.cmp .Gt (.var 2) (.int 0)) (.one (.or (.cmp .LtE (.var 4) (.ix (.ix (.var 1) (.bin .Sub (.var 2) (.int 1))) (.con c__AT))) (.one (.cmp .Lt (.var 5) (.ix (.ix (.var 1) (.bin .Sub (.var 2) (.int 1))) (.con c__VALUE))))))) (.cons (.ret (.var 2)) .nil) .nil) .nil)))
theorem wS_eq {k : Nat} {μ : Mu} {p : Int} {l : List (Int × Int)} (T : Tells p l) {i : Nat} (hi : i < l.length) (x y : Sl) :
    exss P (run P fds (k + 2)) wS [.val (.int p), .val (tp l), .val (.int (i : Int)), .val (pr l[i]), x, y] μ = .nx [.val (.int p), .val (tp l), .val (.int (i : Int)), .val (pr l[i]), .val (.int (l[i]).1), .val (.int (l[i]).2)] μ := by
  refine (ss_nx ((s_ifF ((e_not ((e_call (es_cons (e_var rfl) (es_cons e_int es_nil))).trans (r_are k _ _ μ))).trans rfl)).trans ss_nil')).trans ?_
  refine (ss_nx (s_un (e_var rfl) rfl)).trans ?_
  have h1 := T.low i hi
  have h2 := T.high i hi
  have c1 : ev P (run P fds (k + 2)) (.cmp .Lt (.var 4) (.int 0)) [.val (.int p), .val (tp l), .val (.int (i : Int)), .val (pr l[i]), .val (.int (l[i]).1), .val (.int (l[i]).2)] μ = .ok (.bl false) μ := by
    refine ((e_cmp (e_var rfl) e_int).trans c_lt).trans ?_
    rw [decide_eq_false (by omega)]
  have c2 : ev P (run P fds (k + 2)) (.one (.cmp .GtE (.var 4) (.var 0))) [.val (.int p), .val (tp l), .val (.int (i : Int)), .val (pr l[i]), .val (.int (l[i]).1), .val (.int (l[i]).2)] μ = .ok (.bl false) μ := by
    refine e_one (((e_cmp (e_var rfl) (e_var rfl)).trans c_ge).trans ?_)
    rw [decide_eq_false (by omega)]
  refine (ss_nx ((s_ifF ((e_orF c1).trans c2)).trans ss_nil')).trans ?_
  refine (ss_nx (ρ1 := [.val (.int p), .val (tp l), .val (.int (i : Int)), .val (pr l[i]), .val (.int (l[i]).1), .val (.int (l[i]).2)]) (μ1 := μ) ((s_ifF ?_).trans ss_nil')).trans ss_nil'
  cases i with
  | zero => exact e_andF (((e_cmp (e_var rfl) e_int).trans c_gt).trans rfl)
  | succ j =>
    have hj : j < l.length := by omega
    have u1 := T.up j hi
    have u2 := T.val j hi
    have g : ev P (run P fds (k + 2)) (.cmp .Gt (.var 2) (.int 0)) [.val (.int p), .val (tp l), .val (.int ((j + 1 : Nat) : Int)), .val (pr l[j + 1]), .val (.int (l[j + 1]).1), .val (.int (l[j + 1]).2)] μ = .ok (.bl true) μ := by
      refine ((e_cmp (e_var rfl) e_int).trans c_gt).trans ?_
      rw [decide_eq_true (by omega)]
    have X : ev P (run P fds (k + 2)) (.ix (.var 1) (.bin .Sub (.var 2) (.int 1))) [.val (.int p), .val (tp l), .val (.int ((j + 1 : Nat) : Int)), .val (pr l[j + 1]), .val (.int (l[j + 1]).1), .val (.int (l[j + 1]).2)] μ = .ok (pr l[j]) μ := by
      refine (e_ix (e_var rfl) ((e_bin (e_var rfl) e_int).trans b_sub)).trans ?_
      rw [show ((j + 1 : Nat) : Int) - 1 = (j : Int) by omega]
      exact x_tup (tp_at (l := l) hj)
    refine (e_andT g).trans (e_one ?_)
    have a1 : ev P (run P fds (k + 2)) (.cmp .LtE (.var 4) (.ix (.ix (.var 1) (.bin .Sub (.var 2) (.int 1))) (.con c__AT))) [.val (.int p), .val (tp l), .val (.int ((j + 1 : Nat) : Int)), .val (pr l[j + 1]), .val (.int (l[j + 1]).1), .val (.int (l[j + 1]).2)] μ = .ok (.bl false) μ := by
      refine ((e_cmp (e_var rfl) ((e_ix X (e_con rfl)).trans rfl)).trans c_le).trans ?_
      rw [decide_eq_false (by omega)]
    have a2 : ev P (run P fds (k + 2)) (.cmp .Lt (.var 5) (.ix (.ix (.var 1) (.bin .Sub (.var 2) (.int 1))) (.con c__VALUE))) [.val (.int p), .val (tp l), .val (.int ((j + 1 : Nat) : Int)), .val (pr l[j + 1]), .val (.int (l[j + 1]).1), .val (.int (l[j + 1]).2)] μ = .ok (.bl false) μ := by
      refine ((e_cmp (e_var rfl) ((e_ix X (e_con rfl)).trans rfl)).trans c_lt).trans ?_
      rw [decide_eq_false (by omega)]
    exact (e_orF a1).trans (e_one a2)
theorem enum_drop : ∀ (l : List D) (n : Nat), enumF n l = (List.range l.length).map fun i => .tup [.int ((n + i : Nat) : Int), l.getD i .non]
  | [], n => rfl
  | d :: l, n => by
    rw [enumF, enum_drop l (n + 1), List.length_cons, List.range_succ_eq_map, List.map_cons, List.map_map]
    congr 1
    apply List.map_congr_left
    intro i _
    show D.tup [.int ((n + 1 + i : Nat) : Int), l.getD i .non] = D.tup [.int ((n + (i + 1) : Nat) : Int), (d :: l).getD (i + 1) .non]
    rw [show n + 1 + i = n + (i + 1) by omega]
    rfl
theorem wrong_loop {k : Nat} {μ : Mu} {p : Int} {l : List (Int × Int)} (T : Tells p l) : ∀ (m i : Nat) (a b c d : Sl), l.length - i = m → i ≤ l.length → ∃ a' b' c' d', forgo (fun e ρ μ => match tgo (.tp [2, 3]) e ρ with | some ρ1 => exss P (run P fds (k + 2)) wS ρ1 μ | none => .bad) (enumF i ((l.drop i).map pr)) [.val (.int p), .val (tp l), a, b, c, d] μ =
    .nx [.val (.int p), .val (tp l), a', b', c', d'] μ := fun m => by
  induction m with
  | zero =>
    intro i a b c d h1 h2
    have e : l.drop i = [] := List.drop_eq_nil_of_le (by omega)
    rw [e]
    exact ⟨a, b, c, d, rfl⟩
  | succ m ih =>
    intro i a b c d h1 h2
    have hi : i < l.length := by omega
    rw [List.drop_eq_getElem_cons hi, List.map_cons, enumF]
    obtain ⟨a', b', c', d', e⟩ := ih (i + 1) (.val (.int (i : Int))) (.val (pr l[i])) (.val (.int (l[i]).1)) (.val (.int (l[i]).2)) (by omega) hi
    exact ⟨a', b', c', d', (forgo_nx (wS_eq T hi c d)).trans e⟩
theorem r_wrong {k : Nat} {μ : Mu} {p : Int} {l : List (Int × Int)} (T : Tells p l) : run P fds (k + 3) n__wrong_step [.int p, tp l] μ = .ok .non μ := by
  obtain ⟨a', b', c', d', e⟩ := wrong_loop (k := k) (μ := μ) T l.length 0 .und .und .und .und (by omega) (Nat.zero_le _)
  refine run_ret rfl rfl ?_
  refine (ss_nx ((s_for (items := enumF 0 (l.map pr)) rfl).trans e)).trans ?_
  exact ss_ret (s_ret e_non)
theorem r_needS {k : Nat} {μ : Mu} {p : Int} {l : List (Int × Int)} (T : Tells p l) : run P fds (k + 4) n__need_steps [.int p, tp l] μ = .ok .non μ := by
  have hpos : 0 < l.length := List.length_pos_iff.mpr T.ne
  have hl' : l.map pr ≠ [] := by simpa using T.ne
  have zl := last_at hl'
  rw [List.getLast_map] at zl
  have zf : at? (l.map pr) 0 = some (pr (l.head T.ne)) := by
    have := tp_at (l := l) hpos
    rw [List.head_eq_getElem]
    exact this
  have hp := T.pos
  have hf := T.few
  have hr := T.rise
  refine run_nx (ρ1 := [.val (.int p), .val (tp l), .val .non]) rfl rfl ?_
  have c1 : ev P (run P fds (k + 3)) (.or (.not (.call n_is_integer (.cons (.var 0) .nil))) (.one (.cmp .Lt (.var 0) (.int 1)))) [.val (.int p), .val (tp l), .und] μ = .ok (.bl false) μ := by
    refine (e_orF ((e_not ((e_call (es_cons (e_var rfl) es_nil)).trans (r_is (k + 2) p μ))).trans rfl)).trans (e_one (((e_cmp (e_var rfl) e_int).trans c_lt).trans ?_))
    rw [decide_eq_false (by omega)]
  refine (ss_nx ((s_ifF c1).trans ss_nil')).trans ?_
  have c2 : ev P (run P fds (k + 3)) (.not (.call n_is_tuple (.cons (.var 1) (.cons (.int 1) (.cons (.con c_MOST_STEPS) .nil))))) [.val (.int p), .val (tp l), .und] μ = .ok (.bl false) μ := by
    refine (e_not ((e_call (es_cons (e_var rfl) (es_cons e_int (es_cons (e_con rfl) es_nil)))).trans r_istup)).trans ?_
    rw [List.length_map, decide_eq_true (by omega), decide_eq_true (by omega)]; rfl
  refine (ss_nx ((s_ifF c2).trans ss_nil')).trans ?_
  refine (ss_nx (s_set ((e_call (es_cons (e_var rfl) (es_cons (e_var rfl) es_nil))).trans (r_wrong T)))).trans ?_
  have c3 : ev P (run P fds (k + 3)) (.notN (.var 2)) [.val (.int p), .val (tp l), .val .non] μ = .ok (.bl false) μ := rfl
  refine (ss_nx ((s_ifF c3).trans ss_nil')).trans ?_
  have c4 : ev P (run P fds (k + 3)) (.cmp .Gt (.ix (.ix (.var 1) (.un .USub (.int 1))) (.con c__VALUE)) (.bin .Add (.ix (.ix (.var 1) (.int 0)) (.con c__VALUE)) (.var 0))) [.val (.int p), .val (tp l), .val .non] μ = .ok (.bl false) μ := by
    refine ((e_cmp ((e_ix ((e_ix (e_var rfl) ((e_un e_int).trans rfl)).trans (x_tup zl)) (e_con rfl)).trans rfl) ((e_bin ((e_ix ((e_ix (e_var rfl) e_int).trans (x_tup zf)) (e_con rfl)).trans rfl) (e_var rfl)).trans b_add)).trans c_gt).trans ?_
    rw [decide_eq_false (by omega)]
  exact (ss_nx ((s_ifF c4).trans ss_nil')).trans ss_nil'
theorem s_init {P : Pr} {Γ : Gam} {ρ : Rho} {μ μ1 : Mu} {c : Nat} {e : E} {l : List D} (h : ev P Γ e ρ μ = .ok (.tup l) μ1) (hl : l.length = P.nflds c) : exs P Γ (.init c e) ρ μ = .ret (.obj c l) μ1 := by
  simp only [exs, h, Out.so_ok]
  rw [if_pos hl]
theorem r_init {k : Nat} {μ : Mu} {p : Int} {l kept : List (Int × Int)} (T : Tells p l) (hk : kept = risesF ((l.getLast T.ne).2 - p) l) (h0 : kept ≠ []) (hkl : kept.length ≤ l.length) :
    ∃ m, 0 < m ∧ m ≤ kept.length ∧ rep (gapsF ((kept.getLast h0).1 - p, (kept.getLast h0).2 - p) kept) m = true ∧ (∀ j, 0 < j → j < m → rep (gapsF ((kept.getLast h0).1 - p, (kept.getLast h0).2 - p) kept) j = false) ∧
      run P fds (k + 5) n_Stair___init__ [.int p, tp l] μ = .ok (obj (p / ((kept.length : Int) / (m : Int))) (kept.take m)) μ := by
  obtain ⟨m, a1, a2, a3, a4, a5⟩ := r_plain (k := k + 2) (μ := μ) (p := p) T.ne (Nat.le_trans T.few (by decide)) hk h0 hkl
  refine ⟨m, a1, a2, a3, a4, run_ret rfl rfl ?_⟩
  refine (ss_nx (s_exp ((e_call (es_cons (e_var rfl) (es_cons (e_var rfl) es_nil))).trans (r_needS T)))).trans ?_
  exact ss_ret (s_init ((e_call (es_cons (e_var rfl) (es_cons (e_var rfl) es_nil))).trans a5) rfl)
end Lw
set_option Elab.async false
set_option linter.all false
set_option maxRecDepth 100000
set_option maxHeartbeats 4000000
namespace Lw
open PySem L2 Vw
def walkF (c : Int) : Int → List (Int × Int) → Int
  | f, [] => f
  | f, q :: l => walkF c (if q.1 ≤ c then q.2 else f) l
def wal (p : Int) (l : List (Int × Int)) (hl : l ≠ []) (t : Int) : Int := walkF (t % p) ((l.getLast hl).2 - p) l + t / p * p
theorem walk_skip {c : Int} : ∀ {l : List (Int × Int)} {f : Int}, (∀ q ∈ l, c < q.1) → walkF c f l = f
  | [], _, _ => rfl
  | q :: l, f, h => by
    have hq := h q List.mem_cons_self
    rw [walkF, if_neg (by omega)]
    exact walk_skip fun x hx => h x (List.mem_cons_of_mem _ hx)
theorem walk_asc {c : Int} : ∀ {l : List (Int × Int)} {f : Int}, l.Pairwise (fun a b => a.1 < b.1) → walkF c f l = (match (l.filter fun q => decide (q.1 ≤ c)).getLast? with | some q => q.2 | none => f)
  | [], _, _ => rfl
  | q :: l, f, h => by
    obtain ⟨h1, h2⟩ := List.pairwise_cons.mp h
    by_cases hq : q.1 ≤ c
    · rw [walkF, if_pos hq, walk_asc h2, List.filter_cons_of_pos (by simpa using hq)]
      cases e : (l.filter fun q => decide (q.1 ≤ c)) with
      | nil => rfl
      | cons x xs =>
        rw [List.getLast?_cons_cons]
        cases g : (x :: xs).getLast? with
        | none => simp at g
        | some y => rfl
    · have hs : ∀ x ∈ l, c < x.1 := fun x hx => by
        have := h1 x hx
        omega
      rw [walkF, if_neg hq, walk_skip hs, List.filter_cons_of_neg (by simpa using hq)]
      have : l.filter (fun q => decide (q.1 ≤ c)) = [] := List.filter_eq_nil_iff.mpr fun x hx => by
        have := hs x hx
        simp
        omega
      rw [this]; rfl
theorem filter_asc {c : Int} : ∀ {l : List (Int × Int)}, l.Pairwise (fun a b => a.1 < b.1) → (l.filter fun q => decide (q.1 ≤ c)) = l.take (l.filter fun q => decide (q.1 ≤ c)).length
  | [], _ => rfl
  | q :: l, h => by
    obtain ⟨h1, h2⟩ := List.pairwise_cons.mp h
    by_cases hq : q.1 ≤ c
    · rw [List.filter_cons_of_pos (by simpa using hq), List.length_cons, List.take_succ_cons, ← filter_asc h2]
    · have : l.filter (fun q => decide (q.1 ≤ c)) = [] := List.filter_eq_nil_iff.mpr fun x hx => by
        have := h1 x hx
        simp
        omega
      rw [List.filter_cons_of_neg (by simpa using hq), this]; rfl
theorem val_wal {p t : Int} {l : List (Int × Int)} (hl : l ≠ []) (h : l.Pairwise (fun a b => a.1 < b.1)) : val p l t = wal p l hl t := by
  have hn : 0 < l.length := List.length_pos_iff.mpr hl
  unfold val wal
  rw [walk_asc h]
  have hf := filter_asc (c := t % p) h
  have hle : (l.filter fun q => decide (q.1 ≤ t % p)).length ≤ l.length := List.length_filter_le _ _
  generalize (l.filter fun q => decide (q.1 ≤ t % p)).length = n at hf hle
  rw [hf]
  generalize t / p = T
  unfold stp
  cases n with
  | zero =>
    have e1 : (T * (l.length : Int) + ((0 : Nat) : Int) - 1) / (l.length : Int) = T - 1 := by
      rw [show T * (l.length : Int) + ((0 : Nat) : Int) - 1 = (l.length : Int) - 1 + (T - 1) * (l.length : Int) by rw [Int.sub_mul]; omega]
      rw [Int.add_mul_ediv_right _ _ (by omega), Int.ediv_eq_zero_of_lt (by omega) (by omega)]
      omega
    have e2 : (T * (l.length : Int) + ((0 : Nat) : Int) - 1) % (l.length : Int) = (l.length : Int) - 1 := by
      rw [show T * (l.length : Int) + ((0 : Nat) : Int) - 1 = (l.length : Int) - 1 + (T - 1) * (l.length : Int) by rw [Int.sub_mul]; omega]
      rw [Int.add_mul_emod_self_right, Int.emod_eq_of_lt (by omega) (by omega)]
    rw [e1, e2]
    have e3 : ((l.length : Int) - 1).toNat = l.length - 1 := by omega
    have e4 : l.getD (l.length - 1) (0, 0) = l.getLast hl := by
      rw [List.getD_eq_getElem?_getD, List.getLast_eq_getElem, List.getElem?_eq_getElem (by omega)]; rfl
    rw [e3, e4, List.take_zero]
    show (l.getLast hl).2 + (T - 1) * p = (l.getLast hl).2 - p + T * p
    rw [Int.sub_mul]
    omega
  | succ n =>
    have e1 : (T * (l.length : Int) + ((n + 1 : Nat) : Int) - 1) / (l.length : Int) = T := by
      rw [show T * (l.length : Int) + ((n + 1 : Nat) : Int) - 1 = (n : Int) + T * (l.length : Int) by omega]
      rw [Int.add_mul_ediv_right _ _ (by omega), Int.ediv_eq_zero_of_lt (by omega) (by omega)]
      omega
    have e2 : (T * (l.length : Int) + ((n + 1 : Nat) : Int) - 1) % (l.length : Int) = (n : Int) := by
      rw [show T * (l.length : Int) + ((n + 1 : Nat) : Int) - 1 = (n : Int) + T * (l.length : Int) by omega]
      rw [Int.add_mul_emod_self_right, Int.emod_eq_of_lt (by omega) (by omega)]
    rw [e1, e2, Int.toNat_natCast]
    have e5 : (l.take (n + 1)).getLast? = some l[n] := by
      rw [List.getLast?_eq_getElem?, List.length_take, Nat.min_eq_left hle, Nat.add_sub_cancel, List.getElem?_take_of_lt (Nat.lt_succ_self n), List.getElem?_eq_getElem (by omega)]
    have e6 : l.getD n (0, 0) = l[n] := by
      rw [List.getD_eq_getElem?_getD, List.getElem?_eq_getElem (by omega)]; rfl
    rw [e5, e6]
theorem rises_sub : ∀ (l : List (Int × Int)) (v : Int), (risesF v l).Sublist l
  | [], _ => .slnil
  | q :: l, v => by
    rw [risesF]
    split
    · exact (rises_sub l q.2).cons q
    · exact (rises_sub l q.2).cons_cons q
theorem walk_rises {c : Int} : ∀ (l : List (Int × Int)) (f v : Int), l.Pairwise (fun a b => a.1 < b.1) → (f = v ∨ ∀ q ∈ l, c < q.1) → walkF c f (risesF v l) = walkF c f l
  | [], _, _, _, _ => rfl
  | q :: l, f, v, h, hv => by
    rcases hv with hv | hv
    · subst hv
      obtain ⟨h1, h2⟩ := List.pairwise_cons.mp h
      rw [risesF]
      by_cases e : q.2 = f
      · rw [if_pos e, walkF, e]
        have : (if q.1 ≤ c then f else f) = f := by split <;> rfl
        rw [this]
        exact walk_rises l f f h2 (.inl rfl)
      · rw [if_neg e, walkF, walkF]
        by_cases hq : q.1 ≤ c
        · rw [if_pos hq]
          exact walk_rises l q.2 q.2 h2 (.inl rfl)
        · rw [if_neg hq]
          exact walk_rises l f q.2 h2 (.inr fun x hx => by have := h1 x hx; omega)
    · rw [walk_skip hv, walk_skip fun x hx => hv x ((rises_sub (q :: l) v).subset hx)]
def lastV (v : Int) (l : List (Int × Int)) : Int := match l.getLast? with
  | some q => q.2
  | none => v
theorem lastV_cons {v : Int} {q : Int × Int} {l : List (Int × Int)} : lastV v (q :: l) = lastV q.2 l := by
  unfold lastV
  cases l with
  | nil => rfl
  | cons x xs =>
    rw [List.getLast?_cons_cons]
    cases g : (x :: xs).getLast? with
    | none => simp at g
    | some y => rfl
theorem lastV_rises : ∀ (l : List (Int × Int)) (v : Int), lastV v (risesF v l) = lastV v l
  | [], _ => rfl
  | q :: l, v => by
    rw [risesF, lastV_cons]
    by_cases e : q.2 = v
    · rw [if_pos e, e]
      exact lastV_rises l v
    · rw [if_neg e, lastV_cons]
      exact lastV_rises l q.2
theorem lastV_eq {v : Int} {l : List (Int × Int)} (h : l ≠ []) : lastV v l = (l.getLast h).2 := by
  unfold lastV
  rw [List.getLast?_eq_some_getLast h]
theorem kept_ne {p : Int} {l : List (Int × Int)} (hp : 0 < p) (h : l ≠ []) : risesF ((l.getLast h).2 - p) l ≠ [] := fun e => by
  have z := lastV_rises l ((l.getLast h).2 - p)
  rw [e, lastV_eq h] at z
  have z : (l.getLast h).2 - p = (l.getLast h).2 := z
  omega
theorem kept_last {p : Int} {l : List (Int × Int)} (hp : 0 < p) (h : l ≠ []) : ((risesF ((l.getLast h).2 - p) l).getLast (kept_ne hp h)).2 = (l.getLast h).2 := by
  rw [← lastV_eq (v := (l.getLast h).2 - p) (kept_ne hp h), lastV_rises, lastV_eq h]
theorem kept_wal {p t : Int} {l : List (Int × Int)} (hp : 0 < p) (h : l ≠ []) (ha : l.Pairwise (fun a b => a.1 < b.1)) : wal p (risesF ((l.getLast h).2 - p) l) (kept_ne hp h) t = wal p l h t := by
  unfold wal
  rw [kept_last hp h, walk_rises l _ _ ha (.inl rfl)]
theorem asc_pw {l : List (Int × Int)} (h : ∀ i (h : i + 1 < l.length), (l[i]).1 < (l[i + 1]).1) : l.Pairwise (fun a b => a.1 < b.1) := by
  rw [List.pairwise_iff_getElem]
  intro i j hi hj hij
  induction j with
  | zero => omega
  | succ j ih =>
    rcases Nat.lt_or_eq_of_le (Nat.lt_succ_iff.mp hij) with q | q
    · have := ih (by omega) q
      have := h j hj
      omega
    · subst q
      exact h i hj
structure Ats (p : Int) (l : List (Int × Int)) : Prop where
  pos : 0 < p
  ne : l ≠ []
  low : ∀ i (h : i < l.length), 0 ≤ (l[i]).1
  high : ∀ i (h : i < l.length), (l[i]).1 < p
  up : ∀ i (h : i + 1 < l.length), (l[i]).1 < (l[i + 1]).1
theorem stp_at {p : Int} {l : List (Int × Int)} {T : Int} {r : Nat} (h : r < l.length) : stp p l (T * (l.length : Int) + (r : Int)) = ((l[r]).1 + T * p, (l[r]).2 + T * p) := by
  unfold stp
  have e1 : (T * (l.length : Int) + (r : Int)) / (l.length : Int) = T := by
    rw [Int.add_comm, Int.add_mul_ediv_right _ _ (by omega), Int.ediv_eq_zero_of_lt (by omega) (by omega)]
    omega
  have e2 : (T * (l.length : Int) + (r : Int)) % (l.length : Int) = (r : Int) := by
    rw [Int.add_comm, Int.add_mul_emod_self_right, Int.emod_eq_of_lt (by omega) (by omega)]
  have e6 : l.getD r (0, 0) = l[r] := by
    rw [List.getD_eq_getElem?_getD, List.getElem?_eq_getElem h]; rfl
  rw [e1, e2, Int.toNat_natCast, e6]
theorem idx_split (n : Nat) (h : 0 < n) (i : Int) : ∃ (T : Int) (r : Nat), r < n ∧ i = T * (n : Int) + (r : Int) := by
  refine ⟨i / (n : Int), (i % (n : Int)).toNat, ?_, ?_⟩
  · have := Int.emod_lt_of_pos i (show (0 : Int) < n by omega)
    have := Int.emod_nonneg i (show (n : Int) ≠ 0 by omega)
    omega
  · have h1 := Int.emod_nonneg i (show (n : Int) ≠ 0 by omega)
    rw [Int.toNat_of_nonneg h1]
    have := Int.mul_ediv_add_emod i (n : Int)
    rw [Int.mul_comm] at this
    omega
theorem stp_next {p : Int} {l : List (Int × Int)} (A : Ats p l) (i : Int) : (stp p l i).1 < (stp p l (i + 1)).1 := by
  have hn : 0 < l.length := List.length_pos_iff.mpr A.ne
  obtain ⟨T, r, hr, rfl⟩ := idx_split l.length hn i
  rw [stp_at hr]
  by_cases h : r + 1 < l.length
  · rw [show T * (l.length : Int) + (r : Int) + 1 = T * (l.length : Int) + ((r + 1 : Nat) : Int) by omega, stp_at h]
    have := A.up r h
    show (l[r]).1 + T * p < (l[r + 1]).1 + T * p
    omega
  · have e : r + 1 = l.length := by omega
    rw [show T * (l.length : Int) + (r : Int) + 1 = (T + 1) * (l.length : Int) + ((0 : Nat) : Int) by rw [Int.add_mul]; omega, stp_at hn]
    have h1 := A.high r hr
    have h2 := A.low 0 hn
    show (l[r]).1 + T * p < (l[0]).1 + (T + 1) * p
    rw [Int.add_mul]
    omega
theorem stp_mono {p : Int} {l : List (Int × Int)} (A : Ats p l) (i : Int) : ∀ n : Nat, (stp p l i).1 + (n : Int) ≤ (stp p l (i + (n : Int))).1
  | 0 => by simp
  | n + 1 => by
    have h1 := stp_mono A i n
    have h2 := stp_next A (i + (n : Int))
    rw [show i + ((n + 1 : Nat) : Int) = i + (n : Int) + 1 by omega]
    omega
theorem idx_one {p t : Int} {l : List (Int × Int)} (A : Ats p l) {i j : Int} (h1 : (stp p l i).1 ≤ t) (h2 : t < (stp p l (i + 1)).1) (g1 : (stp p l j).1 ≤ t) (g2 : t < (stp p l (j + 1)).1) : i = j := by
  rcases Int.lt_trichotomy i j with h | h | h
  · have z := stp_mono A (i + 1) (j - (i + 1)).toNat
    rw [Int.toNat_of_nonneg (by omega), show i + 1 + (j - (i + 1)) = j by omega] at z
    omega
  · exact h
  · have z := stp_mono A (j + 1) (i - (j + 1)).toNat
    rw [Int.toNat_of_nonneg (by omega), show j + 1 + (i - (j + 1)) = i by omega] at z
    omega
theorem val_idx {p t : Int} {l : List (Int × Int)} (A : Ats p l) : ∃ i, (stp p l i).1 ≤ t ∧ t < (stp p l (i + 1)).1 ∧ val p l t = (stp p l i).2 := by
  have hn : 0 < l.length := List.length_pos_iff.mpr A.ne
  have hf := filter_asc (c := t % p) (asc_pw A.up)
  have hle : (l.filter fun q => decide (q.1 ≤ t % p)).length ≤ l.length := List.length_filter_le _ _
  have hin : ∀ i (h : i < l.length), i < (l.filter fun q => decide (q.1 ≤ t % p)).length → (l[i]).1 ≤ t % p := fun i h hi => by
    have hm : l[i] ∈ l.take (l.filter fun q => decide (q.1 ≤ t % p)).length := List.mem_take_iff_getElem.mpr ⟨i, by omega, rfl⟩
    rw [← hf] at hm
    simpa using (List.mem_filter.mp hm).2
  have hout : ∀ i (h : i < l.length), (l.filter fun q => decide (q.1 ≤ t % p)).length ≤ i → t % p < (l[i]).1 := fun i h hi => by
    refine Int.not_le.mp fun hc => ?_
    have hm : l[i] ∈ l.filter fun q => decide (q.1 ≤ t % p) := List.mem_filter.mpr ⟨List.getElem_mem h, by simpa using hc⟩
    rw [hf] at hm
    obtain ⟨j, hj, e⟩ := List.mem_take_iff_getElem.mp hm
    have pw := List.pairwise_iff_getElem.mp (asc_pw A.up) j i (by omega) h (by omega)
    rw [e] at pw
    omega
  refine ⟨_, ?_, ?_, rfl⟩
  all_goals generalize (l.filter fun q => decide (q.1 ≤ t % p)).length = n at hle hin hout
  · have ht := Int.mul_ediv_add_emod t p
    have hr0 := Int.emod_nonneg t (show p ≠ 0 by have := A.pos; omega)
    have hr1 := Int.emod_lt_of_pos t A.pos
    rw [Int.mul_comm] at ht
    cases n with
    | zero =>
      rw [show t / p * (l.length : Int) + ((0 : Nat) : Int) - 1 = (t / p - 1) * (l.length : Int) + ((l.length - 1 : Nat) : Int) by rw [Int.sub_mul]; omega, stp_at (by omega)]
      have := A.high (l.length - 1) (by omega)
      show (l[l.length - 1]).1 + (t / p - 1) * p ≤ t
      rw [Int.sub_mul]
      omega
    | succ n =>
      rw [show t / p * (l.length : Int) + ((n + 1 : Nat) : Int) - 1 = t / p * (l.length : Int) + (n : Int) by omega, stp_at (by omega)]
      have := hin n (by omega) (by omega)
      show (l[n]).1 + t / p * p ≤ t
      omega
  · have ht := Int.mul_ediv_add_emod t p
    have hr1 := Int.emod_lt_of_pos t A.pos
    rw [Int.mul_comm] at ht
    by_cases hn2 : n < l.length
    · rw [show t / p * (l.length : Int) + (n : Int) - 1 + 1 = t / p * (l.length : Int) + (n : Int) by omega, stp_at hn2]
      have := hout n hn2 (Nat.le_refl _)
      show t < (l[n]).1 + t / p * p
      omega
    · have : n = l.length := by omega
      subst this
      rw [show t / p * (l.length : Int) + (l.length : Int) - 1 + 1 = (t / p + 1) * (l.length : Int) + ((0 : Nat) : Int) by rw [Int.add_mul]; omega, stp_at hn]
      have := A.low 0 hn
      show t < (l[0]).1 + (t / p + 1) * p
      rw [Int.add_mul]
      omega
theorem val_same {p p' t : Int} {l l' : List (Int × Int)} (A : Ats p l) (A' : Ats p' l') (h : ∀ i, stp p l i = stp p' l' i) : val p l t = val p' l' t := by
  obtain ⟨i, h1, h2, h3⟩ := val_idx (t := t) A
  obtain ⟨j, g1, g2, g3⟩ := val_idx (t := t) A'
  rw [← h j] at g1 g3
  rw [← h (j + 1)] at g2
  rw [h3, g3, idx_one A h1 h2 g1 g2]
end Lw
set_option Elab.async false
set_option linter.all false
set_option maxRecDepth 100000
set_option maxHeartbeats 4000000
namespace Lw
open PySem L2 Vw
theorem gaps_len : ∀ (l : List (Int × Int)) (a : Int × Int), (gapsF a l).length = l.length
  | [], _ => rfl
  | q :: l, a => by rw [gapsF, List.length_cons, List.length_cons, gaps_len l]
theorem gaps_zero {l : List (Int × Int)} {a : Int × Int} (h : 0 < l.length) : (gapsF a l)[0]? = some ((l[0]).1 - a.1, (l[0]).2 - a.2) := by
  cases l with
  | nil => simp at h
  | cons q l => rfl
theorem gaps_succ : ∀ {l : List (Int × Int)} {a : Int × Int} {i : Nat} (h : i + 1 < l.length), (gapsF a l)[i + 1]? = some ((l[i + 1]).1 - (l[i]).1, (l[i + 1]).2 - (l[i]).2)
  | q :: q2 :: l, a, 0, _ => rfl
  | q :: q2 :: l, a, i + 1, h => by
    rw [gapsF, List.getElem?_cons_succ]
    exact gaps_succ (l := q2 :: l) (a := q) (i := i) (by simpa using h)
  | [q], a, i, h => by simp at h
  | [], a, i, h => by simp at h
theorem rep_get {g : List (Int × Int)} {m : Nat} (h : rep g m = true) : g.length % m = 0 ∧ ∀ i, i + m < g.length → g[i + m]? = g[i]? := by
  unfold rep at h
  rw [Bool.and_eq_true, decide_eq_true_eq, decide_eq_true_eq] at h
  refine ⟨h.1, fun i hi => ?_⟩
  have z := congrArg (fun x : List (Int × Int) => x[i]?) h.2
  simp only [List.getElem?_drop] at z
  rw [List.getElem?_take_of_lt (by omega), Nat.add_comm] at z
  exact z
section
variable {p : Int} {l : List (Int × Int)} {m : Nat}
theorem part_next (hl : l ≠ []) (h : rep (gapsF ((l.getLast hl).1 - p, (l.getLast hl).2 - p) l) m = true) (hm : 0 < m) : ∀ i (hi : i + m < l.length), (l[i + m]).1 - (l[i]).1 = (l[m]'(by omega)).1 - (l[0]'(by omega)).1 ∧ (l[i + m]).2 - (l[i]).2 = (l[m]'(by omega)).2 - (l[0]'(by omega)).2
  | 0, hi => by simp
  | i + 1, hi => by
    obtain ⟨h1, h2⟩ := part_next hl h hm i (by omega)
    have z := (rep_get h).2 (i + 1) (by rw [gaps_len]; exact hi)
    rw [show i + 1 + m = (i + m) + 1 by omega, gaps_succ (by omega), gaps_succ (by omega)] at z
    have z := Option.some.inj z
    have z1 : (l[i + m + 1]).1 - (l[i + m]).1 = (l[i + 1]).1 - (l[i]).1 := congrArg Prod.fst z
    have z2 : (l[i + m + 1]).2 - (l[i + m]).2 = (l[i + 1]).2 - (l[i]).2 := congrArg Prod.snd z
    have e : l[i + 1 + m] = l[i + m + 1] := by congr 1; omega
    rw [e]
    exact ⟨by omega, by omega⟩
theorem part_many {S1 S2 : Int} (h : ∀ i (hi : i + m < l.length), (l[i + m]).1 = (l[i]).1 + S1 ∧ (l[i + m]).2 = (l[i]).2 + S2) (i : Nat) : ∀ (j : Nat) (hj : j * m + i < l.length), (l[j * m + i]).1 = (l[i]'(by have := Nat.zero_le (j * m); omega)).1 + (j : Int) * S1 ∧ (l[j * m + i]).2 = (l[i]'(by have := Nat.zero_le (j * m); omega)).2 + (j : Int) * S2
  | 0, hj => by simp
  | j + 1, hj => by
    have hj' : (j * m + i) + m < l.length := by rw [Nat.succ_mul] at hj; omega
    obtain ⟨h1, h2⟩ := part_many h i j (by omega)
    obtain ⟨g1, g2⟩ := h (j * m + i) hj'
    have e : l[(j + 1) * m + i] = l[j * m + i + m] := by congr 1; rw [Nat.succ_mul]; omega
    rw [e, g1, g2, h1, h2]
    refine ⟨?_, ?_⟩ <;> (rw [show ((j + 1 : Nat) : Int) = (j : Int) + 1 by omega, Int.add_mul]; omega)
theorem parts (A : Ats p l) (h : rep (gapsF ((l.getLast A.ne).1 - p, (l.getLast A.ne).2 - p) l) m = true) (hm : 0 < m) (hml : m ≤ l.length) :
    ∃ (q : Nat) (s : Int), 0 < q ∧ l.length = q * m ∧ (q : Int) * s = p ∧ ∀ (j i : Nat) (hj : j * m + i < l.length), (l[j * m + i]).1 = (l[i]'(by have := Nat.zero_le (j * m); omega)).1 + (j : Int) * s ∧ (l[j * m + i]).2 = (l[i]'(by have := Nat.zero_le (j * m); omega)).2 + (j : Int) * s := by
  have hn : 0 < l.length := List.length_pos_iff.mpr A.ne
  obtain ⟨hz, hg⟩ := rep_get h
  rw [gaps_len] at hz hg
  obtain ⟨q, hq⟩ : ∃ q, l.length = q * m := ⟨l.length / m, by rw [Nat.div_mul_cancel (Nat.dvd_of_mod_eq_zero hz)]⟩
  have hq0 : 0 < q := Nat.pos_of_ne_zero fun e => by rw [e, Nat.zero_mul] at hq; omega
  by_cases hlt : m < l.length
  · have hnext := part_next A.ne h hm
    have H : ∀ i (hi : i + m < l.length), (l[i + m]).1 = (l[i]).1 + ((l[m]).1 - (l[0]).1) ∧ (l[i + m]).2 = (l[i]).2 + ((l[m]).2 - (l[0]).2) := fun i hi => by
      obtain ⟨a, b⟩ := hnext i hi
      exact ⟨by omega, by omega⟩
    have M := part_many H
    have w := hg 0 (by omega)
    rw [Nat.zero_add, gaps_zero hn, show m = (m - 1) + 1 by omega, gaps_succ (by omega)] at w
    have w := Option.some.inj w
    have w1 : (l[m - 1 + 1]).1 - (l[m - 1]).1 = (l[0]).1 - ((l.getLast A.ne).1 - p) := congrArg Prod.fst w
    have w2 : (l[m - 1 + 1]).2 - (l[m - 1]).2 = (l[0]).2 - ((l.getLast A.ne).2 - p) := congrArg Prod.snd w
    have em : l[m - 1 + 1] = l[m] := by congr 1; omega
    rw [em] at w1 w2
    have hlast : (q - 1) * m + (m - 1) = l.length - 1 := by
      rw [hq, Nat.sub_mul]
      have : m ≤ q * m := Nat.le_mul_of_pos_left m hq0
      omega
    have el : l.getLast A.ne = l[(q - 1) * m + (m - 1)]'(by omega) := by
      rw [List.getLast_eq_getElem]
      congr 1
      exact hlast.symm
    obtain ⟨m1, m2⟩ := M (m - 1) (q - 1) (by omega)
    rw [el, m1] at w1
    rw [el, m2] at w2
    have hc : ((q - 1 : Nat) : Int) = (q : Int) - 1 := by omega
    rw [hc] at w1 w2
    rw [Int.sub_mul, Int.one_mul] at w1 w2
    have s1 : (q : Int) * ((l[m]).1 - (l[0]).1) = p := by omega
    have s2 : (q : Int) * ((l[m]).2 - (l[0]).2) = p := by omega
    have ss : (l[m]).2 - (l[0]).2 = (l[m]).1 - (l[0]).1 := Int.eq_of_mul_eq_mul_left (show (q : Int) ≠ 0 by omega) (s2.trans s1.symm)
    refine ⟨q, (l[m]).1 - (l[0]).1, hq0, hq, s1, fun j i hj => ?_⟩
    obtain ⟨a1, a2⟩ := M i j hj
    rw [ss] at a2
    exact ⟨a1, a2⟩
  · have e : m = l.length := by omega
    have q1 : q = 1 := by
      rw [e] at hq
      have : 1 * l.length = q * l.length := by omega
      exact (Nat.eq_of_mul_eq_mul_right hn this).symm
    subst q1
    refine ⟨1, p, by omega, hq, by omega, fun j i hj => ?_⟩
    have j0 : j = 0 := by
      rcases Nat.eq_zero_or_pos j with z | z
      · exact z
      · have := Nat.le_mul_of_pos_left m z
        omega
    subst j0
    simp
theorem plain_val (A : Ats p l) (h : rep (gapsF ((l.getLast A.ne).1 - p, (l.getLast A.ne).2 - p) l) m = true) (hm : 0 < m) (hml : m ≤ l.length) (t : Int) :
    Ats (p / ((l.length : Int) / (m : Int))) (l.take m) ∧ val (p / ((l.length : Int) / (m : Int))) (l.take m) t = val p l t ∧ (∀ i, stp p l i = stp (p / ((l.length : Int) / (m : Int))) (l.take m) i) ∧ ∃ q : Nat, 0 < q ∧ l.length = q * m ∧ (q : Int) * (p / ((l.length : Int) / (m : Int))) = p := by
  obtain ⟨q, s, hq, hl, hp, H⟩ := parts A h hm hml
  have e1 : (l.length : Int) / (m : Int) = (q : Int) := by
    rw [hl, Int.natCast_mul, Int.mul_ediv_cancel _ (by omega)]
  have e2 : p / (q : Int) = s := by rw [← hp, Int.mul_ediv_cancel_left _ (by omega)]
  rw [e1, e2]
  have hlen : (l.take m).length = m := by rw [List.length_take, Nat.min_eq_left hml]
  have hs : 0 < s := by
    have := A.pos
    rw [← hp] at this
    refine Int.not_le.mp fun hle => ?_
    have z := Int.mul_le_mul_of_nonneg_left hle (show (0 : Int) ≤ (q : Int) by omega)
    rw [Int.mul_zero] at z
    omega
  have A' : Ats s (l.take m) := by
    refine ⟨hs, fun e => ?_, fun i hi => ?_, fun i hi => ?_, fun i hi => ?_⟩
    · have := congrArg List.length e
      rw [hlen] at this
      simp at this
      omega
    · rw [List.getElem_take]
      exact A.low i (by omega)
    · rw [List.getElem_take]
      have hb : (q - 1) * m + i < l.length := by
        rw [hl, Nat.sub_mul, Nat.one_mul]
        have : m ≤ q * m := Nat.le_mul_of_pos_left m hq
        omega
      have h1 := (H (q - 1) i hb).1
      have h2 := A.high _ hb
      rw [h1, show ((q - 1 : Nat) : Int) = (q : Int) - 1 by omega, Int.sub_mul, Int.one_mul, hp] at h2
      omega
    · rw [List.getElem_take, List.getElem_take]
      exact A.up i (by omega)
  suffices HH : ∀ i, stp p l i = stp s (l.take m) i from ⟨A', (val_same A A' HH).symm, HH, q, hq, hl, hp⟩
  intro i
  have hn : 0 < l.length := List.length_pos_iff.mpr A.ne
  obtain ⟨T, r, hr, rfl⟩ := idx_split l.length hn i
  rw [stp_at hr]
  have hr2 : r / m * m + r % m = r := by rw [Nat.mul_comm]; exact Nat.div_add_mod r m
  have hb : r / m * m + r % m < l.length := by rw [hr2]; exact hr
  obtain ⟨h1, h2⟩ := H (r / m) (r % m) hb
  have hrm : r % m < (l.take m).length := by rw [hlen]; exact Nat.mod_lt _ hm
  have er : l[r] = l[r / m * m + r % m] := by congr 1; exact hr2.symm
  have ei : T * (l.length : Int) + (r : Int) = (T * (q : Int) + ((r / m : Nat) : Int)) * ((l.take m).length : Int) + ((r % m : Nat) : Int) := by
    rw [hlen, hl, Int.add_mul, Int.natCast_mul, Int.mul_assoc]
    have : (r : Int) = ((r / m : Nat) : Int) * (m : Int) + ((r % m : Nat) : Int) := by
      rw [← Int.natCast_mul, ← Int.natCast_add, hr2]
    omega
  rw [ei, stp_at hrm, er, h1, h2, List.getElem_take]
  have ep : T * p = T * (q : Int) * s := by rw [← hp, Int.mul_assoc]
  rw [ep, Int.add_mul]
  show ((l[r % m]).1 + ((r / m : Nat) : Int) * s + T * (q : Int) * s, (l[r % m]).2 + ((r / m : Nat) : Int) * s + T * (q : Int) * s) = _
  congr 1 <;> omega
end
theorem Tells.ats {p : Int} {l : List (Int × Int)} (T : Tells p l) : Ats p l := ⟨T.pos, T.ne, T.low, T.high, T.up⟩
theorem pw_ats {p : Int} {l : List (Int × Int)} (hp : 0 < p) (hl : l ≠ []) (hw : l.Pairwise (fun a b => a.1 < b.1)) (h : ∀ q ∈ l, 0 ≤ q.1 ∧ q.1 < p) : Ats p l :=
  ⟨hp, hl, fun i hi => (h _ (List.getElem_mem hi)).1, fun i hi => (h _ (List.getElem_mem hi)).2, fun i hi => List.pairwise_iff_getElem.mp hw i (i + 1) (by omega) hi (by omega)⟩
theorem asc_of {p : Int} {l : List (Int × Int)} (A : Ats p l) : asc 0 l := fun i j hi hj hij => by
  show (l[i]).1 ≤ (l[j]).1
  rcases Nat.lt_or_eq_of_le hij with q | q
  · have := List.pairwise_iff_getElem.mp (asc_pw A.up) i j hi hj q
    omega
  · subst q
    exact Int.le_refl _
theorem r_new {k : Nat} {μ : Mu} {p : Int} {l : List (Int × Int)} (T : Tells p l) : ∃ (p' : Int) (l' : List (Int × Int)), Ats p' l' ∧ p' ≤ p ∧ l'.length ≤ l.length ∧ (∀ t, val p' l' t = wal p l T.ne t) ∧
    run P fds (k + 5) n_Stair___init__ [.int p, tp l] μ = .ok (obj p' l') μ := by
  have h0 := kept_ne T.pos T.ne
  have hsub := rises_sub l ((l.getLast T.ne).2 - p)
  have hkl := hsub.length_le
  obtain ⟨m, a1, a2, a3, a4, a5⟩ := r_init (k := k) (μ := μ) T rfl h0 hkl
  have pw := asc_pw T.up
  have A : Ats p (risesF ((l.getLast T.ne).2 - p) l) := pw_ats T.pos h0 (pw.sublist hsub) fun q hq => by
    obtain ⟨i, hi, e⟩ := List.mem_iff_getElem.mp (hsub.subset hq)
    have h1 := T.low i hi
    have h2 := T.high i hi
    rw [e] at h1 h2
    exact ⟨h1, h2⟩
  refine ⟨_, _, (plain_val A a3 a1 a2 0).1, ?_, ?_, fun t => ?_, a5⟩
  · have hq : 0 < (risesF ((l.getLast T.ne).2 - p) l).length / m := Nat.div_pos a2 a1
    have e : ((risesF ((l.getLast T.ne).2 - p) l).length : Int) / (m : Int) = (((risesF ((l.getLast T.ne).2 - p) l).length / m : Nat) : Int) := by omega
    rw [e]
    exact Int.ediv_le_self _ (by have := T.pos; omega)
  · rw [List.length_take]
    omega
  · rw [(plain_val A a3 a1 a2 t).2.1, val_wal h0 (pw.sublist hsub), kept_wal T.pos T.ne pw]
end Lw
set_option Elab.async false
set_option linter.all false
set_option maxRecDepth 100000
set_option maxHeartbeats 4000000
namespace Lw
open PySem L2 Vw
theorem pys_int : ∀ l : List Int, D.pys (l.map .int) = some (l.map PyData.int)
  | [] => rfl
  | p :: l => by
    rw [List.map_cons, List.map_cons]
    show (match D.py (.int p), D.pys (l.map .int) with | some x, some xs => some (x :: xs) | _, _ => none) = _
    rw [pys_int l]; rfl
theorem lay_int : ∀ l : List Int, PyData.canLayAll0 (l.map PyData.int) = true
  | [] => by simp [PyData.canLayAll0]
  | p :: l => by simp [PyData.canLayAll0, PyData.canLay0, lay_int l]
theorem dep_int : ∀ l : List Int, PyData.depthAll (l.map PyData.int) ≤ 1
  | [] => by simp [PyData.depthAll]
  | p :: l => by
    have := dep_int l
    simp only [List.map_cons, PyData.depthAll, PyData.depth]
    omega
theorem shp_int (l : List Int) : SeqAt.shaped (.list (l.map PyData.int)) = true := by
  have h1 := dep_int l
  have h2 : PyData.depth (.list (l.map PyData.int)) ≤ 64 := by
    simp only [PyData.depth]
    omega
  show (PyData.canLay0 (.list (l.map PyData.int)) && decide (PyData.depth (.list (l.map PyData.int)) ≤ 64)) = true
  rw [Bool.and_eq_true]
  exact ⟨by simp only [PyData.canLay0]; exact lay_int l, decide_eq_true h2⟩
theorem eqv_int : ∀ l m : List Int, PyData.eqvAll (l.map PyData.int) (m.map PyData.int) = decide (l = m)
  | [], [] => by simp [PyData.eqvAll]
  | [], _ :: _ => by simp [PyData.eqvAll]
  | _ :: _, [] => by simp [PyData.eqvAll]
  | p :: l, q :: m => by
    have e : PyData.eqvAll ((p :: l).map PyData.int) ((q :: m).map PyData.int) = ((p == q) && PyData.eqvAll (l.map PyData.int) (m.map PyData.int)) := by simp only [List.map_cons, PyData.eqv, PyData.eqvAll]
    rw [e, eqv_int l m]
    by_cases h1 : p = q <;> by_cases h3 : l = m <;> simp [h1, h3]
theorem deq_ints (l m : List Int) : deq (.lst (l.map .int)) (.lst (m.map .int)) = some (decide (l = m)) := by
  unfold deq
  simp only [D.py, pys_int, Option.map_some]
  rw [if_pos ⟨shp_int l, shp_int m⟩]
  congr 1
  show PyData.eqv (.list (l.map .int)) (.list (m.map .int)) = _
  rw [← eqv_int l m]
  simp only [PyData.eqv]
theorem w_neI {Γ : Gam} {l : List Int} {μ : Mu} {Q : D → Mu → Prop} : (cop P Γ .NotEq (.lst (l.map .int)) (.lst []) μ).wp Q ↔ Q (.bl (!decide (l = []))) μ := by
  show Out.wp (match deq (.lst (l.map .int)) (.lst (([] : List Int).map .int)) with | some k => .ok (.bl (!k)) μ | none => .bad) Q ↔ _
  rw [deq_ints]; exact Iff.rfl
def mu (cs ls : List Int) (a : Int) (tl : Mu) : Mu := [("cells", .lst (cs.map .int)), ("left", .lst (ls.map .int)), ("at", .int a)] :: tl
section
variable {cs ls l2 : List Int} {a b : Int} {tl : Mu} {Q : D → Mu → Prop} {q : Mu → Prop}
theorem dget_left : dgetW "left" (.cel 0) (mu cs ls a tl) Q ↔ Q (.lst (ls.map .int)) (mu cs ls a tl) := Iff.rfl
theorem dget_cells : dgetW "cells" (.cel 0) (mu cs ls a tl) Q ↔ Q (.lst (cs.map .int)) (mu cs ls a tl) := Iff.rfl
theorem dget_at : dgetW "at" (.cel 0) (mu cs ls a tl) Q ↔ Q (.int a) (mu cs ls a tl) := Iff.rfl
theorem dput_left : dputW "left" (.lst (l2.map .int)) (.cel 0) (mu cs ls a tl) q ↔ q (mu cs l2 a tl) := Iff.rfl
theorem dput_nil : dputW "left" (.lst []) (.cel 0) (mu cs ls a tl) q ↔ q (mu cs [] a tl) := Iff.rfl
theorem dput_at : dputW "at" (.int b) (.cel 0) (mu cs ls a tl) q ↔ q (mu cs ls b tl) := Iff.rfl
end
def Room (r : Nat) (μ : Mu) : Prop := ∃ (cs ls : List Int) (a : Int) (tl : Mu), μ = mu cs ls a tl ∧ cs.length ≤ 63 ∧ ls.length ≤ 63 ∧ 0 ≤ a ∧ a + (r : Int) ≤ 2 ^ 64
theorem Room.push {r : Nat} {μ : Mu} (h : Room r μ) (x : List (Str × D)) : Room r (μ ++ [x]) := by
  obtain ⟨cs, ls, a, tl, rfl, h⟩ := h
  exact ⟨cs, ls, a, tl ++ [x], rfl, h⟩
theorem Room.mono {r s : Nat} {μ : Mu} (h : Room r μ) (hs : s ≤ r) : Room s μ := by
  obtain ⟨cs, ls, a, tl, e, h1, h2, h3, h4⟩ := h
  exact ⟨cs, ls, a, tl, e, h1, h2, h3, by omega⟩
theorem lg {z : Int} (h1 : -(2 ^ 200) < z) (h2 : z < 2 ^ 200) : z.natAbs.log2 < 200 := log_le (by omega) (by decide)
theorem lg9 {z : Int} (h1 : -(2 ^ 200) < z) (h2 : z < 2 ^ 200) : z.natAbs.log2 < 9000 := Nat.lt_trans (lg h1 h2) (by decide)
theorem lg2 {y z : Int} (h1 : -(2 ^ 200) < z) (h2 : z < 2 ^ 200) (h3 : -(2 ^ 200) < y) (h4 : y < 2 ^ 200) : y.natAbs.log2 + z.natAbs.log2 < 1000000 := by
  have := lg h1 h2
  have := lg h3 h4
  omega
theorem mulb {x y a b : Int} (hx0 : 0 ≤ x) (hx : x < a) (hy0 : 0 ≤ y) (hy : y < b) : x * y < a * b :=
  Int.lt_of_le_of_lt (Int.mul_le_mul_of_nonneg_left (Int.le_of_lt hy) hx0) (Int.mul_lt_mul_of_pos_right hx (by omega))
theorem lc_fil {F : D → Mu → Out (Option D)} {p : Int → Bool} {l : List Int} {μ : Mu} (h : ∀ i, F (.int i) μ = .ok (if p i then some (.int i) else none) μ) : lcgo F (l.map .int) μ = .ok ((l.filter p).map .int) μ := by
  induction l with
  | nil => rfl
  | cons i l ih =>
    rw [List.map_cons]
    unfold lcgo
    rw [h i, Out.bind_ok, ih, Out.bind_ok]
    by_cases e : p i = true
    · rw [if_pos e, List.filter_cons_of_pos e]; rfl
    · rw [if_neg e, List.filter_cons_of_neg e]
theorem lc_mp {F : D → Mu → Out (Option D)} {g : Int → D} {l : List Int} {μ : Mu} (h : ∀ i ∈ l, F (.int i) μ = .ok (some (g i)) μ) : lcgo F (l.map .int) μ = .ok (l.map g) μ := by
  have := lcgo_map (F := F) (g := fun d => match d with | .int i => g i | _ => .non) (items := l.map .int) (μ := μ) (fun d hd => by
    obtain ⟨i, hi, rfl⟩ := List.mem_map.mp hd
    exact h i hi)
  rw [this, List.map_map]
  rfl
theorem at_int {l : List Int} {i : Int} (h0 : 0 ≤ i) (h : i.toNat < l.length) : at? (l.map D.int) i = some (.int l[i.toNat]) := by
  have h' : i.toNat < (l.map D.int).length := by rw [List.length_map]; exact h
  have := at_nat h'
  rw [Int.toNat_of_nonneg h0, List.getElem_map] at this
  exact this
structure Tel (p : Int) (l : List (Int × Int)) : Prop where
  pos : 0 < p
  ne : l ≠ []
  few : l.length ≤ 4096
  bd : ∀ q ∈ l, 0 ≤ q.1 ∧ q.1 < p
  pw : l.Pairwise fun a b => a.1 < b.1 ∧ a.2 ≤ b.2
  rise : ∀ a ∈ l, ∀ b ∈ l, b.2 ≤ a.2 + p
theorem Tel.tells {p : Int} {l : List (Int × Int)} (T : Tel p l) : Tells p l :=
  ⟨T.pos, T.ne, T.few, fun i h => (T.bd _ (List.getElem_mem h)).1, fun i h => (T.bd _ (List.getElem_mem h)).2,
    fun i h => (List.pairwise_iff_getElem.mp T.pw i (i + 1) (by omega) h (by omega)).1, fun i h => (List.pairwise_iff_getElem.mp T.pw i (i + 1) (by omega) h (by omega)).2, T.rise _ (List.head_mem T.ne) _ (List.getLast_mem T.ne)⟩
def rowsF (p : Int) (l : List (Int × Int)) : Nat → List (Int × Int)
  | 0 => []
  | n + 1 => rowsF p l n ++ l.map fun q => (q.1 + (n : Int) * p, q.2 + (n : Int) * p)
theorem rows_mem {p : Int} {l : List (Int × Int)} : ∀ {n : Nat} {q : Int × Int}, q ∈ rowsF p l n → ∃ (j : Nat) (s : Int × Int), j < n ∧ s ∈ l ∧ q = (s.1 + (j : Int) * p, s.2 + (j : Int) * p)
  | 0, q, h => by cases h
  | n + 1, q, h => by
    rcases List.mem_append.mp h with h | h
    · obtain ⟨j, s, h1, h2, h3⟩ := rows_mem h
      exact ⟨j, s, by omega, h2, h3⟩
    · obtain ⟨s, h1, h2⟩ := List.mem_map.mp h
      exact ⟨n, s, by omega, h1, h2.symm⟩
theorem rows_len {p : Int} {l : List (Int × Int)} : ∀ n : Nat, (rowsF p l n).length = n * l.length
  | 0 => by simp [rowsF]
  | n + 1 => by rw [rowsF, List.length_append, rows_len n, List.length_map, Nat.succ_mul]
theorem mul_mono {p : Int} (hp : 0 < p) {i j : Nat} (h : i ≤ j) : (i : Int) * p ≤ (j : Int) * p := Int.mul_le_mul_of_nonneg_right (by omega) (by omega)
theorem rows_pw {p : Int} {l : List (Int × Int)} (T : Tel p l) : ∀ n : Nat, (rowsF p l n).Pairwise fun a b => a.1 < b.1 ∧ a.2 ≤ b.2
  | 0 => List.Pairwise.nil
  | n + 1 => by
    refine List.pairwise_append.mpr ⟨rows_pw T n, List.pairwise_map.mpr (T.pw.imp fun {a b} h => ⟨by have := h.1; dsimp only; omega, by have := h.2; dsimp only; omega⟩), fun a ha b hb => ?_⟩
    obtain ⟨j, s, h1, h2, rfl⟩ := rows_mem ha
    obtain ⟨t, h3, rfl⟩ := List.mem_map.mp hb
    have m := mul_mono T.pos (show j + 1 ≤ n by omega)
    rw [show ((j + 1 : Nat) : Int) = (j : Int) + 1 by omega, Int.add_mul, Int.one_mul] at m
    have := T.bd s h2
    have := T.bd t h3
    have := T.rise t h3 s h2
    dsimp only
    exact ⟨by omega, by omega⟩
theorem rows_tel {p : Int} {l : List (Int × Int)} (T : Tel p l) {n : Nat} (hn : 0 < n) (hf : n * l.length ≤ 4096) : Tel (p * n) (rowsF p l n) := by
  have hp := T.pos
  have hnp : p ≤ p * (n : Int) := by
    have := Int.mul_le_mul_of_nonneg_left (show (1 : Int) ≤ n by omega) (Int.le_of_lt hp)
    omega
  refine ⟨by omega, fun e => ?_, by rw [rows_len]; exact hf, fun q hq => ?_, rows_pw T n, fun a ha b hb => ?_⟩
  · have := congrArg List.length e
    rw [rows_len] at this
    have h0 : 0 < l.length := List.length_pos_iff.mpr T.ne
    have := Nat.mul_pos hn h0
    simp only [List.length_nil] at *
    omega
  · obtain ⟨j, s, h1, h2, rfl⟩ := rows_mem hq
    have m := mul_mono hp (show j + 1 ≤ n by omega)
    have m0 := mul_mono hp (Nat.zero_le j)
    rw [show ((j + 1 : Nat) : Int) = (j : Int) + 1 by omega, Int.add_mul, Int.one_mul, Int.mul_comm (n : Int)] at m
    have := T.bd s h2
    dsimp only
    simp only [Int.natCast_zero, Int.zero_mul] at m0
    exact ⟨by omega, by omega⟩
  · obtain ⟨j, s, h1, h2, rfl⟩ := rows_mem ha
    obtain ⟨i, t, h3, h4, rfl⟩ := rows_mem hb
    have m := mul_mono hp (show i + 1 ≤ n by omega)
    have m0 := mul_mono hp (Nat.zero_le j)
    rw [show ((i + 1 : Nat) : Int) = (i : Int) + 1 by omega, Int.add_mul, Int.one_mul, Int.mul_comm (n : Int)] at m
    have := T.rise s h2 t h4
    dsimp only
    simp only [Int.natCast_zero, Int.zero_mul] at m0
    omega
def stepsF : Int → List (Int × Int) → List (Int × Int)
  | _, [] => []
  | v, (a, r) :: l => (a, v + r) :: stepsF (v + r) l
theorem steps_map : ∀ (l : List (Int × Int)) (v : Int), (stepsF v l).map (·.1) = l.map (·.1)
  | [], _ => rfl
  | (a, r) :: l, v => by simp [stepsF, steps_map l]
theorem steps_len (l : List (Int × Int)) (v : Int) : (stepsF v l).length = l.length := by
  have := congrArg List.length (steps_map l v)
  simpa using this
theorem steps_bd : ∀ (l : List (Int × Int)) (v : Int), (∀ q ∈ l, 0 ≤ q.2) → ∀ s ∈ stepsF v l, v ≤ s.2 ∧ s.2 ≤ v + (l.map (·.2)).sum
  | [], _, _, s, h => by cases h
  | (a, r) :: l, v, hr, s, h => by
    have h0 := hr (a, r) List.mem_cons_self
    have hs : 0 ≤ (l.map (·.2)).sum := by
      have : ∀ l : List (Int × Int), (∀ q ∈ l, 0 ≤ q.2) → 0 ≤ (l.map (·.2)).sum := fun l => by
        induction l with
        | nil => intro _; simp
        | cons q l ih =>
          intro h
          have := h q List.mem_cons_self
          have := ih fun x hx => h x (List.mem_cons_of_mem _ hx)
          simp only [List.map_cons, List.sum_cons]
          omega
      exact this l fun x hx => hr x (List.mem_cons_of_mem _ hx)
    simp only [List.map_cons, List.sum_cons]
    dsimp only at h0
    rcases List.mem_cons.mp h with e | h
    · subst e
      exact ⟨by dsimp only; omega, by dsimp only; omega⟩
    · have := steps_bd l (v + r) (fun x hx => hr x (List.mem_cons_of_mem _ hx)) s h
      exact ⟨by omega, by omega⟩
theorem steps_pw : ∀ (l : List (Int × Int)) (v : Int), (∀ q ∈ l, 0 ≤ q.2) → (l.map (·.1)).Pairwise (· < ·) → (stepsF v l).Pairwise fun a b => a.1 < b.1 ∧ a.2 ≤ b.2
  | [], _, _, _ => List.Pairwise.nil
  | (a, r) :: l, v, hr, hp => by
    have hp := List.pairwise_cons.mp hp
    refine List.pairwise_cons.mpr ⟨fun b hb => ⟨?_, ?_⟩, steps_pw l (v + r) (fun x hx => hr x (List.mem_cons_of_mem _ hx)) hp.2⟩
    · have : b.1 ∈ l.map (·.1) := by
        rw [← steps_map l (v + r)]
        exact List.mem_map.mpr ⟨b, hb, rfl⟩
      exact hp.1 _ this
    · exact (steps_bd l (v + r) (fun x hx => hr x (List.mem_cons_of_mem _ hx)) b hb).1
theorem stp_up {p : Int} {l : List (Int × Int)} (T : Tel p l) (i : Int) : (stp p l i).2 ≤ (stp p l (i + 1)).2 := by
  have hn : 0 < l.length := List.length_pos_iff.mpr T.ne
  obtain ⟨U, r, hr, rfl⟩ := idx_split l.length hn i
  rw [stp_at hr]
  by_cases h : r + 1 < l.length
  · rw [show U * (l.length : Int) + (r : Int) + 1 = U * (l.length : Int) + ((r + 1 : Nat) : Int) by omega, stp_at h]
    have := (List.pairwise_iff_getElem.mp T.pw r (r + 1) hr h (by omega)).2
    show (l[r]).2 + U * p ≤ (l[r + 1]).2 + U * p
    omega
  · have e : r + 1 = l.length := by omega
    rw [show U * (l.length : Int) + (r : Int) + 1 = (U + 1) * (l.length : Int) + ((0 : Nat) : Int) by rw [Int.add_mul]; omega, stp_at hn]
    have := T.rise l[0] (List.getElem_mem hn) l[r] (List.getElem_mem hr)
    show (l[r]).2 + U * p ≤ (l[0]).2 + (U + 1) * p
    rw [Int.add_mul]
    omega
theorem stp_upn {p : Int} {l : List (Int × Int)} (T : Tel p l) (i : Int) : ∀ n : Nat, (stp p l i).2 ≤ (stp p l (i + (n : Int))).2
  | 0 => by simp
  | n + 1 => by
    have h1 := stp_upn T i n
    have h2 := stp_up T (i + (n : Int))
    rw [show i + ((n + 1 : Nat) : Int) = i + (n : Int) + 1 by omega]
    omega
theorem val_mono {p s t : Int} {l : List (Int × Int)} (T : Tel p l) (h : s ≤ t) : val p l s ≤ val p l t := by
  obtain ⟨i, h1, h2, h3⟩ := val_idx (t := s) T.tells.ats
  obtain ⟨j, g1, g2, g3⟩ := val_idx (t := t) T.tells.ats
  rw [h3, g3]
  have : i ≤ j := by
    refine Int.not_lt.mp fun hlt => ?_
    have z := stp_mono T.tells.ats (j + 1) (i - (j + 1)).toNat
    rw [Int.toNat_of_nonneg (by omega), show j + 1 + (i - (j + 1)) = i by omega] at z
    omega
  have z := stp_upn T i (j - i).toNat
  rw [Int.toNat_of_nonneg (by omega), show i + (j - i) = j by omega] at z
  exact z
theorem wal_val {p t : Int} {l : List (Int × Int)} (T : Tel p l) : wal p l T.ne t = val p l t := (val_wal T.ne (asc_pw T.tells.up)).symm
theorem wal_per {p t : Int} {l : List (Int × Int)} (hp : 0 < p) (hl : l ≠ []) : wal p l hl (t - p) = wal p l hl t - p := by
  unfold wal
  have e1 : (t - p) % p = t % p := Int.sub_emod_right t p
  have e2 : (t - p) / p = t / p - 1 := by
    rw [show t - p = t + (-1) * p by omega, Int.add_mul_ediv_right _ _ (by omega)]
    omega
  rw [e1, e2, Int.sub_mul]
  omega
theorem div_bd {t p : Int} (hp : 0 < p) (h1 : -(2 ^ 190) < t) (h2 : t < 2 ^ 190) : -(2 ^ 190) ≤ t / p ∧ t / p < 2 ^ 190 := by
  have a : t / p * p ≤ t := Int.ediv_mul_le t (by omega)
  have b := Int.lt_ediv_add_one_mul_self t hp
  constructor
  · refine Int.not_lt.mp fun h => ?_
    have := Int.mul_le_mul_of_nonneg_left (show (1 : Int) ≤ p by omega) (show 0 ≤ -(t / p + 1) by omega)
    rw [Int.neg_mul, Int.neg_mul] at this
    omega
  · refine Int.not_le.mp fun h => ?_
    have := Int.mul_le_mul_of_nonneg_left (show (1 : Int) ≤ p by omega) (show 0 ≤ t / p by omega)
    omega
theorem w_callS {k : Nat} {μ : Mu} {p t : Int} {l : List (Int × Int)} {Q : D → Mu → Prop} (A : Ats p l) (hf : l.length ≤ 4096) (hp : p < 2 ^ 190) (h1 : -(2 ^ 190) < t) (h2 : t < 2 ^ 190) (h : Q (.int (val p l t)) μ) : (run P fds (k + 4) n_Stair___call__ [obj p l, .int t] μ).wp Q := by
  have hn : 0 < l.length := List.length_pos_iff.mpr A.ne
  have hp0 := A.pos
  obtain ⟨d1, d2⟩ := div_bd A.pos h1 h2
  refine Out.wp_of (r_callS hn A.pos (lg9 (by omega) (by omega)) (by omega) (asc_of A) ?_ fun r hr => ?_) h
  · exact Nat.lt_trans (lg (by omega) (by omega)) (by decide)
  · generalize hT : t / p = T at d1 d2
    have e : (T * (l.length : Int) + (r : Int) - 1) / (l.length : Int) = T + ((r : Int) - 1) / (l.length : Int) := by
      rw [show T * (l.length : Int) + (r : Int) - 1 = ((r : Int) - 1) + T * (l.length : Int) by omega, Int.add_mul_ediv_right _ _ (by omega)]
      omega
    rw [e]
    have q1 : -1 ≤ ((r : Int) - 1) / (l.length : Int) := by
      rw [show (-1 : Int) = (-1 : Int) * (l.length : Int) / (l.length : Int) by rw [Int.mul_ediv_cancel _ (by omega)]]
      exact Int.ediv_le_ediv (by omega) (by omega)
    have q2 : ((r : Int) - 1) / (l.length : Int) ≤ 0 := by
      have : ((r : Int) - 1) / (l.length : Int) < 1 := Int.ediv_lt_of_lt_mul (by omega) (by omega)
      omega
    exact lg2 (by omega) (by omega) (by omega) (by omega)
theorem w_newS {k : Nat} {μ : Mu} {p : Int} {l : List (Int × Int)} {Q : D → Mu → Prop} (T : Tel p l) (h : ∀ p' l', Ats p' l' → p' ≤ p → l'.length ≤ l.length → (∀ t, val p' l' t = val p l t) → Q (obj p' l') μ) : (run P fds (k + 5) n_Stair___init__ [.int p, tp l] μ).wp Q := by
  obtain ⟨p', l', a1, a2, a3, a4, e⟩ := r_new (k := k) (μ := μ) T.tells
  exact Out.wp_of e (h p' l' a1 a2 a3 fun t => by rw [a4 t, wal_val T])
theorem rngs_eq (lo : Int) (n : Nat) : rngs lo n 1 = (List.range' 0 n).map fun (i : Nat) => D.int (lo + i) := by
  unfold rngs
  rw [List.range_eq_range']
  exact List.map_congr_left fun i _ => by rw [Int.mul_one]
theorem rngs_len (lo : Int) (n : Nat) (c : Int) : (rngs lo n c).length = n := by simp [rngs]
theorem zip_pr : ∀ (A R : List Int), ((A.map D.int).zip (R.map D.int)).map (fun p => D.tup [p.1, p.2]) = (A.zip R).map pr
  | [], _ => by simp
  | _ :: _, [] => by simp
  | a :: A, b :: R => by
    simp only [List.map_cons, List.zip_cons_cons]
    rw [zip_pr A R]
theorem sum_set : ∀ (R : List Int) (i : Nat) (h : i < R.length), (R.set i (R[i] + 1)).sum = R.sum + 1
  | r :: R, 0, h => by simp only [List.set_cons_zero, List.sum_cons, List.getElem_cons_zero]; omega
  | r :: R, i + 1, h => by
    have := sum_set R i (by simpa using h)
    simp only [List.set_cons_succ, List.sum_cons, List.getElem_cons_succ]
    omega
theorem lc_prs {F : D → Mu → Out (Option D)} {g : Int × Int → D} {l : List (Int × Int)} {μ : Mu} (h : ∀ i ∈ l, F (pr i) μ = .ok (some (g i)) μ) : lcgo F (l.map pr) μ = .ok (l.map g) μ := by
  induction l with
  | nil => rfl
  | cons i l ih =>
    rw [List.map_cons]
    unfold lcgo
    rw [h i List.mem_cons_self, Out.bind_ok, ih fun x hx => h x (List.mem_cons_of_mem _ hx)]
    rfl
theorem ix_nat {n : Nat} {i : Int} (h0 : 0 ≤ i) (h : i < n) : L2.ixN n i = some i.toNat := by
  unfold L2.ixN
  rw [if_pos h0, if_pos (by omega)]
end Lw
set_option Elab.async false
set_option linter.all false
set_option maxRecDepth 100000
set_option maxHeartbeats 4000000
namespace Lw
open PySem L2 Vw
structure Pl (p : Int) (l : List (Int × Int)) : Prop where
  ats : Ats p l
  strict : ∀ i, (stp p l i).2 < (stp p l (i + 1)).2
  least : ∀ (d : Nat) (c : Int), 0 < d → (∀ i, stp p l (i + (d : Int)) = ((stp p l i).1 + c, (stp p l i).2 + c)) → l.length ≤ d
theorem stp_per {p : Int} {l : List (Int × Int)} (hl : l ≠ []) (i : Int) : stp p l (i + (l.length : Int)) = ((stp p l i).1 + p, (stp p l i).2 + p) := by
  have hn : 0 < l.length := List.length_pos_iff.mpr hl
  obtain ⟨T, r, hr, rfl⟩ := idx_split l.length hn i
  rw [stp_at hr, show T * (l.length : Int) + (r : Int) + (l.length : Int) = (T + 1) * (l.length : Int) + (r : Int) by rw [Int.add_mul]; omega, stp_at hr, Int.add_mul]
  congr 1 <;> dsimp only <;> omega
theorem rows_same {a b : Int → Int} (ha : ∀ i, a i < a (i + 1)) (hb : ∀ i, b i < b (i + 1)) (hab : ∀ i, ∃ j, a i = b j) (hba : ∀ i, ∃ j, b i = a j) (h0 : a 0 = b 0) : ∀ i, a i = b i := by
  have up : ∀ {a : Int → Int}, (∀ i, a i < a (i + 1)) → ∀ (i : Int) (n : Nat), a i + (n : Int) ≤ a (i + (n : Int)) := fun {a} h i n => by
    induction n with
    | zero => simp
    | succ n ih =>
      have := h (i + (n : Int))
      rw [show i + ((n + 1 : Nat) : Int) = i + (n : Int) + 1 by omega]
      omega
  have mono : ∀ {a : Int → Int}, (∀ i, a i < a (i + 1)) → ∀ {i j : Int}, a i < a j → i < j := fun {a} h {i j} hij => by
    refine Int.not_le.mp fun hle => ?_
    have := up h j (i - j).toNat
    rw [Int.toNat_of_nonneg (by omega), show j + (i - j) = i by omega] at this
    omega
  have le_of : ∀ {a : Int → Int}, (∀ i, a i < a (i + 1)) → ∀ {i j : Int}, i ≤ j → a i ≤ a j := fun {a} h {i j} hij => by
    have := up h i (j - i).toNat
    rw [Int.toNat_of_nonneg (by omega), show i + (j - i) = j by omega] at this
    omega
  have step : ∀ {a b : Int → Int}, (∀ i, a i < a (i + 1)) → (∀ i, b i < b (i + 1)) → (∀ i, ∃ j, a i = b j) → ∀ i, a i = b i → b (i + 1) ≤ a (i + 1) := fun {a b} ha hb hab i e => by
    obtain ⟨j, hj⟩ := hab (i + 1)
    have h1 : b i < b j := by rw [← hj, ← e]; exact ha i
    have := mono hb h1
    rw [hj]
    exact le_of hb (by omega)
  have back : ∀ {a b : Int → Int}, (∀ i, a i < a (i + 1)) → (∀ i, b i < b (i + 1)) → (∀ i, ∃ j, a i = b j) → ∀ i, a (i + 1) = b (i + 1) → a i ≤ b i := fun {a b} ha hb hab i e => by
    obtain ⟨j, hj⟩ := hab i
    have h1 : b j < b (i + 1) := by rw [← hj, ← e]; exact ha i
    have := mono hb h1
    rw [hj]
    exact le_of hb (by omega)
  have pos : ∀ n : Nat, a (n : Int) = b (n : Int) := fun n => by
    induction n with
    | zero => exact h0
    | succ n ih =>
      have x := step ha hb hab _ ih
      have y := step hb ha hba _ ih.symm
      rw [show ((n + 1 : Nat) : Int) = (n : Int) + 1 by omega]
      omega
  have neg : ∀ n : Nat, a (-(n : Int)) = b (-(n : Int)) := fun n => by
    induction n with
    | zero => exact h0
    | succ n ih =>
      have e1 : -((n + 1 : Nat) : Int) + 1 = -(n : Int) := by omega
      have x := back ha hb hab (-((n + 1 : Nat) : Int)) (by rw [e1]; exact ih)
      have y := back hb ha hba (-((n + 1 : Nat) : Int)) (by rw [e1]; exact ih.symm)
      omega
  intro i
  rcases Int.le_total 0 i with h | h
  · have := pos i.toNat
    rwa [Int.toNat_of_nonneg h] at this
  · have := neg (-i).toNat
    rwa [Int.toNat_of_nonneg (by omega), Int.neg_neg] at this
theorem jump_idx {p : Int} {l : List (Int × Int)} (A : Ats p l) {t : Int} (h : val p l (t - 1) ≠ val p l t) : ∃ i, t = (stp p l i).1 := by
  obtain ⟨i, h1, h2, h3⟩ := val_idx (t := t) A
  obtain ⟨j, g1, g2, g3⟩ := val_idx (t := t - 1) A
  refine ⟨i, ?_⟩
  refine (Classical.em (t = (stp p l i).1)).elim id fun hne => ?_
  have : j = i := idx_one A g1 g2 (by omega) (by omega)
  subst this
  rw [h3, g3] at h
  exact absurd rfl h
theorem idx_jump {p : Int} {l : List (Int × Int)} (P : Pl p l) (i : Int) : val p l ((stp p l i).1 - 1) ≠ val p l (stp p l i).1 ∧ val p l (stp p l i).1 = (stp p l i).2 := by
  obtain ⟨j, h1, h2, h3⟩ := val_idx (t := (stp p l i).1) P.ats
  have e : i = j := idx_one P.ats (Int.le_refl _) (stp_next P.ats i) h1 h2
  subst e
  obtain ⟨k, g1, g2, g3⟩ := val_idx (t := (stp p l i).1 - 1) P.ats
  have m1 := stp_next P.ats (i - 1)
  rw [show i - 1 + 1 = i by omega] at m1
  have e : i - 1 = k := idx_one P.ats (by omega) (by rw [show i - 1 + 1 = i by omega]; omega) g1 g2
  subst e
  have s := P.strict (i - 1)
  rw [show i - 1 + 1 = i by omega] at s
  refine ⟨?_, h3⟩
  rw [g3, h3]
  omega
theorem stp_zero {p : Int} {l : List (Int × Int)} (A : Ats p l) : 0 ≤ (stp p l 0).1 ∧ (stp p l (0 - 1)).1 < 0 := by
  have hn : 0 < l.length := List.length_pos_iff.mpr A.ne
  have e0 := stp_at (p := p) (T := 0) hn
  rw [show (0 : Int) * (l.length : Int) + ((0 : Nat) : Int) = 0 by simp] at e0
  have e1 := stp_at (p := p) (T := -1) (show l.length - 1 < l.length by omega)
  rw [show (-1 : Int) * (l.length : Int) + ((l.length - 1 : Nat) : Int) = 0 - 1 by omega] at e1
  rw [e0, e1]
  have := A.low 0 hn
  have := A.high (l.length - 1) (by omega)
  dsimp only
  exact ⟨by omega, by omega⟩
theorem plain_stp {p q : Int} {l k : List (Int × Int)} (P : Pl p l) (Q : Pl q k) (h : ∀ t, val p l t = val q k t) : ∀ i, stp p l i = stp q k i := by
  have hab : ∀ {p q : Int} {l k : List (Int × Int)}, Pl p l → Pl q k → (∀ t, val p l t = val q k t) → ∀ i, ∃ j, (stp p l i).1 = (stp q k j).1 := fun {p q l k} P Q h i => by
    have z := (idx_jump P i).1
    rw [h, h] at z
    exact jump_idx Q.ats z
  have first : ∀ {p q : Int} {l k : List (Int × Int)}, Pl p l → Pl q k → (∀ t, val p l t = val q k t) → (stp q k 0).1 ≤ (stp p l 0).1 := fun {p q l k} P Q h => by
    obtain ⟨j, hj⟩ := hab P Q h 0
    have z := (stp_zero P.ats).1
    rw [hj] at z ⊢
    refine Int.not_lt.mp fun hlt => ?_
    have hj0 : j < 0 := by
      refine Int.not_le.mp fun hle => ?_
      have := stp_mono Q.ats 0 j.toNat
      rw [Int.toNat_of_nonneg hle, Int.zero_add] at this
      omega
    have := stp_mono Q.ats j (0 - 1 - j).toNat
    rw [Int.toNat_of_nonneg (by omega), show j + (0 - 1 - j) = 0 - 1 by omega] at this
    have := (stp_zero Q.ats).2
    omega
  have e1 := rows_same (a := fun i => (stp p l i).1) (b := fun i => (stp q k i).1) (fun i => stp_next P.ats i) (fun i => stp_next Q.ats i) (hab P Q h) (hab Q P fun t => (h t).symm) (Int.le_antisymm (first Q P fun t => (h t).symm) (first P Q h))
  intro i
  have e := e1 i
  have v1 := (idx_jump P i).2
  have v2 := (idx_jump Q i).2
  rw [e, h, v2] at v1
  exact Prod.ext e v1.symm
theorem plain_one {p q : Int} {l k : List (Int × Int)} (P : Pl p l) (Q : Pl q k) (h : ∀ t, val p l t = val q k t) : p = q ∧ l = k := by
  have e := plain_stp P Q h
  have hl := List.length_pos_iff.mpr P.ats.ne
  have hk := List.length_pos_iff.mpr Q.ats.ne
  have a := P.least k.length q hk fun i => by rw [e, e, stp_per Q.ats.ne]
  have b := Q.least l.length p hl fun i => by rw [← e, ← e, stp_per P.ats.ne]
  have ln : l.length = k.length := Nat.le_antisymm a b
  have x := stp_per (p := p) P.ats.ne 0
  have y := stp_per (p := q) Q.ats.ne 0
  rw [e, ln, y, e] at x
  have x1 := congrArg Prod.fst x
  dsimp only at x1
  refine ⟨by omega, List.ext_getElem ln fun i h1 h2 => ?_⟩
  have u := stp_at (p := p) (T := 0) h1
  have v := stp_at (p := q) (T := 0) h2
  rw [show (0 : Int) * (l.length : Int) + (i : Int) = i by simp] at u
  rw [show (0 : Int) * (k.length : Int) + (i : Int) = i by simp] at v
  rw [e, v] at u
  have u1 := congrArg Prod.fst u
  have u2 := congrArg Prod.snd u
  dsimp only at u1 u2
  exact Prod.ext (by omega) (by omega)
theorem gaps_stp {p : Int} {l : List (Int × Int)} (hl : l ≠ []) {i : Nat} (h : i < l.length) : (gapsF ((l.getLast hl).1 - p, (l.getLast hl).2 - p) l)[i]? = some ((stp p l i).1 - (stp p l ((i : Int) - 1)).1, (stp p l i).2 - (stp p l ((i : Int) - 1)).2) := by
  have hn : 0 < l.length := List.length_pos_iff.mpr hl
  have e0 := stp_at (p := p) (T := 0) h
  rw [show (0 : Int) * (l.length : Int) + (i : Int) = i by simp] at e0
  cases i with
  | zero =>
    have e1 := stp_at (p := p) (T := -1) (show l.length - 1 < l.length by omega)
    rw [show (-1 : Int) * (l.length : Int) + ((l.length - 1 : Nat) : Int) = ((0 : Nat) : Int) - 1 by omega] at e1
    rw [e0, e1, gaps_zero h, List.getLast_eq_getElem]
    congr 1
    congr 1 <;> dsimp only <;> omega
  | succ i =>
    have e1 := stp_at (p := p) (T := 0) (show i < l.length by omega)
    rw [show (0 : Int) * (l.length : Int) + (i : Int) = ((i + 1 : Nat) : Int) - 1 by omega] at e1
    rw [e0, e1, gaps_succ h]
    congr 1
    congr 1 <;> dsimp only <;> omega
theorem rep_of {p : Int} {l : List (Int × Int)} (hl : l ≠ []) {d : Nat} {c : Int} (hd : 0 < d) (hdl : d ≤ l.length) (hz : l.length % d = 0) (h : ∀ i, stp p l (i + (d : Int)) = ((stp p l i).1 + c, (stp p l i).2 + c)) : rep (gapsF ((l.getLast hl).1 - p, (l.getLast hl).2 - p) l) d = true := by
  unfold rep
  rw [Bool.and_eq_true, decide_eq_true_eq, decide_eq_true_eq, gaps_len]
  refine ⟨hz, List.ext_getElem? fun i => ?_⟩
  rw [List.getElem?_drop]
  by_cases hi : i + d < l.length
  · rw [List.getElem?_take_of_lt (by omega), gaps_stp hl (by omega), gaps_stp hl (by omega)]
    have e1 := h (i : Int)
    have e2 := h ((i : Int) - 1)
    rw [show ((d + i : Nat) : Int) = (i : Int) + (d : Int) by omega, show (i : Int) + (d : Int) - 1 = (i : Int) - 1 + (d : Int) by omega, e1, e2]
    congr 1
    congr 1 <;> dsimp only <;> omega
  · rw [List.getElem?_eq_none (by rw [gaps_len]; omega), List.getElem?_eq_none (by rw [List.length_take, gaps_len]; omega)]
theorem rises_up : ∀ (l : List (Int × Int)) (v : Int), l.Pairwise (fun a b => a.2 ≤ b.2) → (∀ q ∈ l, v ≤ q.2) → (∀ q ∈ risesF v l, v < q.2) ∧ (risesF v l).Pairwise fun a b => a.2 < b.2
  | [], _, _, _ => ⟨(fun q h => by cases h), List.Pairwise.nil⟩
  | q :: l, v, hp, hv => by
    obtain ⟨h1, h2⟩ := List.pairwise_cons.mp hp
    obtain ⟨i1, i2⟩ := rises_up l q.2 h2 h1
    rw [risesF]
    by_cases e : q.2 = v
    · rw [if_pos e]
      exact ⟨fun x hx => by have := i1 x hx; omega, i2⟩
    · rw [if_neg e]
      have hq := hv q List.mem_cons_self
      refine ⟨fun x hx => ?_, List.pairwise_cons.mpr ⟨i1, i2⟩⟩
      rcases List.mem_cons.mp hx with rfl | hx
      · omega
      · have := i1 x hx
        omega
theorem strict_of {p : Int} {l : List (Int × Int)} (hl : l ≠ []) (h1 : l.Pairwise fun a b => a.2 < b.2) (h2 : ∀ q ∈ l, (l.getLast hl).2 - p < q.2) (i : Int) : (stp p l i).2 < (stp p l (i + 1)).2 := by
  have hn : 0 < l.length := List.length_pos_iff.mpr hl
  obtain ⟨U, r, hr, rfl⟩ := idx_split l.length hn i
  rw [stp_at hr]
  by_cases h : r + 1 < l.length
  · rw [show U * (l.length : Int) + (r : Int) + 1 = U * (l.length : Int) + ((r + 1 : Nat) : Int) by omega, stp_at h]
    have := List.pairwise_iff_getElem.mp h1 r (r + 1) hr h (by omega)
    show (l[r]).2 + U * p < (l[r + 1]).2 + U * p
    omega
  · have e : r = l.length - 1 := by omega
    subst e
    rw [show U * (l.length : Int) + ((l.length - 1 : Nat) : Int) + 1 = (U + 1) * (l.length : Int) + ((0 : Nat) : Int) by rw [Int.add_mul]; omega, stp_at hn]
    have := h2 l[0] (List.getElem_mem hn)
    rw [List.getLast_eq_getElem] at this
    show (l[l.length - 1]).2 + U * p < (l[0]).2 + (U + 1) * p
    rw [Int.add_mul]
    omega
theorem shift_mod {p : Int} {l : List (Int × Int)} {m d : Nat} {a c : Int} (hm : ∀ i, stp p l (i + (m : Int)) = ((stp p l i).1 + a, (stp p l i).2 + a)) (hd : ∀ i, stp p l (i + (d : Int)) = ((stp p l i).1 + c, (stp p l i).2 + c)) : ∃ b, ∀ i, stp p l (i + ((m % d : Nat) : Int)) = ((stp p l i).1 + b, (stp p l i).2 + b) := by
  have hk : ∀ (k : Nat) (i : Int), stp p l (i + ((k * d : Nat) : Int)) = ((stp p l i).1 + (k : Int) * c, (stp p l i).2 + (k : Int) * c) := fun k => by
    induction k with
    | zero => intro i; simp
    | succ k ih =>
      intro i
      have e1 : i + (((k + 1) * d : Nat) : Int) = i + ((k * d : Nat) : Int) + (d : Int) := by rw [Nat.succ_mul]; omega
      rw [e1, hd, ih, show ((k + 1 : Nat) : Int) = (k : Int) + 1 by omega, Int.add_mul, Int.one_mul]
      congr 1 <;> dsimp only <;> omega
  refine ⟨a - ((m / d : Nat) : Int) * c, fun i => ?_⟩
  have e := hk (m / d) (i + ((m % d : Nat) : Int))
  have e2 : i + ((m % d : Nat) : Int) + ((m / d * d : Nat) : Int) = i + (m : Int) := by
    have := Nat.mod_add_div m d
    rw [Nat.mul_comm] at this
    omega
  rw [e2, hm] at e
  have x1 := congrArg Prod.fst e
  have x2 := congrArg Prod.snd e
  dsimp only at x1 x2
  exact Prod.ext (by dsimp only; omega) (by dsimp only; omega)
theorem least_of {P p : Int} {K l : List (Int × Int)} (hK : K ≠ []) (hl : l ≠ []) (hs : ∀ i, stp P K i = stp p l i) (hm : K.length % l.length = 0) (hle : l.length ≤ K.length) (hmin : ∀ j, 0 < j → j < l.length → rep (gapsF ((K.getLast hK).1 - P, (K.getLast hK).2 - P) K) j = false) :
    ∀ (d : Nat) (c : Int), 0 < d → (∀ i, stp p l (i + (d : Int)) = ((stp p l i).1 + c, (stp p l i).2 + c)) → l.length ≤ d := by
  have Z : ∀ (n d : Nat) (c : Int), d < n → 0 < d → d < l.length → (∀ i, stp p l (i + (d : Int)) = ((stp p l i).1 + c, (stp p l i).2 + c)) → False := fun n => by
    induction n with
    | zero => intro d c h; omega
    | succ n ih =>
      intro d c hn hd hdl h
      by_cases hz : l.length % d = 0
      · have : rep (gapsF ((K.getLast hK).1 - P, (K.getLast hK).2 - P) K) d = true := rep_of (c := c) hK hd (by omega) (by
          obtain ⟨x, hx⟩ := Nat.dvd_of_mod_eq_zero hm
          obtain ⟨y, hy⟩ := Nat.dvd_of_mod_eq_zero hz
          exact Nat.mod_eq_zero_of_dvd ⟨y * x, by rw [hx, hy, Nat.mul_assoc]⟩) fun i => by rw [hs, hs]; exact h i
        rw [hmin d hd hdl] at this
        cases this
      · obtain ⟨b, hb⟩ := shift_mod (a := p) (m := l.length) (fun i => stp_per hl i) h
        have := Nat.mod_lt l.length hd
        exact ih (l.length % d) b (by omega) (Nat.pos_of_ne_zero hz) (by omega) hb
  intro d c hd h
  exact Nat.not_lt.mp fun hlt => Z (d + 1) d c (Nat.lt_succ_self _) hd hlt h
theorem w_newP {k : Nat} {μ : Mu} {p : Int} {l : List (Int × Int)} {Q : D → Mu → Prop} (T : Tel p l) (h : ∀ p' l', Pl p' l' → p' ≤ p → l'.length ≤ l.length → (∃ q : Nat, 0 < q ∧ (q : Int) * p' = p ∧ q * l'.length ≤ l.length) → (∀ t, val p' l' t = val p l t) → Q (obj p' l') μ) : (run P fds (k + 5) n_Stair___init__ [.int p, tp l] μ).wp Q := by
  have T0 := T.tells
  have h0 := kept_ne T0.pos T0.ne
  have hsub := rises_sub l ((l.getLast T0.ne).2 - p)
  have hkl := hsub.length_le
  obtain ⟨m, a1, a2, a3, a4, a5⟩ := r_init (k := k) (μ := μ) T0 rfl h0 hkl
  have pw := asc_pw T0.up
  have A : Ats p (risesF ((l.getLast T0.ne).2 - p) l) := pw_ats T0.pos h0 (pw.sublist hsub) fun q hq => T.bd q (hsub.subset hq)
  obtain ⟨b1, b2, b3, q, b4, b5, b6⟩ := plain_val A a3 a1 a2 0
  have up := rises_up l ((l.getLast T0.ne).2 - p) (T.pw.imp fun {a b} h => h.2) fun q hq => by
    have := T.rise q hq _ (List.getLast_mem T0.ne)
    omega
  refine Out.wp_of a5 (h _ _ ⟨b1, fun i => ?_, ?_⟩ ?_ ?_ ⟨q, b4, b6, by rw [List.length_take, Nat.min_eq_left a2, ← b5]; exact hkl⟩ fun t => ?_)
  · rw [← b3, ← b3]
    exact strict_of h0 up.2 (fun x hx => by rw [kept_last T0.pos T0.ne]; exact up.1 x hx) i
  · have hlen : ((risesF ((l.getLast T0.ne).2 - p) l).take m).length = m := by rw [List.length_take, Nat.min_eq_left a2]
    refine least_of h0 b1.ne b3 ?_ ?_ ?_
    · rw [hlen, b5]; exact Nat.mul_mod_left _ _
    · rw [hlen]; exact a2
    · rw [hlen]; exact a4
  · have hq : 0 < (risesF ((l.getLast T0.ne).2 - p) l).length / m := Nat.div_pos a2 a1
    have e : ((risesF ((l.getLast T0.ne).2 - p) l).length : Int) / (m : Int) = (((risesF ((l.getLast T0.ne).2 - p) l).length / m : Nat) : Int) := by omega
    rw [e]
    exact Int.ediv_le_self _ (by have := T0.pos; omega)
  · rw [List.length_take]
    omega
  · rw [(plain_val A a3 a1 a2 t).2.1, val_wal h0 (pw.sublist hsub), kept_wal T0.pos T0.ne pw, wal_val T]
end Lw
set_option Elab.async false
set_option linter.all false
set_option maxRecDepth 100000
set_option maxHeartbeats 4000000
namespace Lw
open PySem L2 Vw
theorem at_0 {α : Type} {a : α} {l : List α} : at? (a :: l) 0 = some a := at_nat (i := 0) (l := a :: l) (by simp)
theorem at_1 {α : Type} {a b : α} {l : List α} : at? (a :: b :: l) 1 = some b := at_nat (i := 1) (l := a :: b :: l) (by simp)
theorem at_2 {α : Type} {a b c : α} {l : List α} : at? (a :: b :: c :: l) 2 = some c := at_nat (i := 2) (l := a :: b :: c :: l) (by simp)
theorem appW_obj {Γ : Gam} {c : Nat} {fs : List D} {r : Out (List D)} {Q : D → Mu → Prop} : appW P Γ (.val (.obj c fs)) r Q ↔ r.wp fun ds μ1 => opt (P.meth c 52) fun f => (Γ f (.obj c fs :: ds) μ1).wp Q := Iff.rfl
theorem newW_obj {c c' : Nat} {fs : List D} {μ : Mu} {Q : D → Mu → Prop} : newW c (.obj c' fs) μ Q ↔ c = c' ∧ Q (.obj c fs) μ := Iff.rfl
theorem p_call : P.meth 0 52 = some n_Stair___call__ := rfl
theorem p_init : P.init 0 = some n_Stair___init__ := rfl
end Lw
set_option Elab.async false
set_option linter.all false
set_option maxRecDepth 100000
set_option maxHeartbeats 4000000
namespace Lw
open PySem L2 Vw
theorem f_per {k : Nat} {p : Int} {l : List (Int × Int)} {μ : Mu} {Q : D → Mu → Prop} : fldW P (run P fds (k + 1)) f_period (.obj 0 [.int p, tp l]) μ Q ↔ Q (.int p) μ := by
  rw [fldW_p rfl rfl]
  exact ⟨fun h => by obtain ⟨d, μ', e, h⟩ := Out.wp_iff.mp h; cases (r_period k (.int p) (tp l) μ).symm.trans e; exact h, fun h => Out.wp_of (r_period k _ _ μ) h⟩
theorem f_stps {k : Nat} {p : Int} {l : List (Int × Int)} {μ : Mu} {Q : D → Mu → Prop} : fldW P (run P fds (k + 1)) f_steps (.obj 0 [.int p, tp l]) μ Q ↔ Q (tp l) μ := by
  rw [fldW_p rfl rfl]
  exact ⟨fun h => by obtain ⟨d, μ', e, h⟩ := Out.wp_iff.mp h; cases (r_steps k (.int p) (tp l) μ).symm.trans e; exact h, fun h => Out.wp_of (r_steps k _ _ μ) h⟩
theorem f_per_ {Γ : Gam} {p : Int} {l : List (Int × Int)} {μ : Mu} {Q : D → Mu → Prop} : fldW P Γ f__period (.obj 0 [.int p, tp l]) μ Q ↔ Q (.int p) μ := by
  rw [fldW_f rfl]; exact Iff.rfl
theorem f_stps_ {Γ : Gam} {p : Int} {l : List (Int × Int)} {μ : Mu} {Q : D → Mu → Prop} : fldW P Γ f__steps (.obj 0 [.int p, tp l]) μ Q ↔ Q (tp l) μ := by
  rw [fldW_f rfl]; exact Iff.rfl
theorem Pl.up {p : Int} {l : List (Int × Int)} (P : Pl p l) (i : Int) : ∀ n : Nat, (stp p l i).2 + (n : Int) ≤ (stp p l (i + (n : Int))).2
  | 0 => by simp
  | n + 1 => by
    have h1 := P.up i n
    have h2 := P.strict (i + (n : Int))
    rw [show i + ((n + 1 : Nat) : Int) = i + (n : Int) + 1 by omega]
    omega
theorem Pl.lt2 {p : Int} {l : List (Int × Int)} (P : Pl p l) {i j : Nat} (hi : i < l.length) (hj : j < l.length) (h : i < j) : (l[i]).2 < (l[j]).2 := by
  have u := stp_at (p := p) (T := 0) hi
  have v := stp_at (p := p) (T := 0) hj
  rw [show (0 : Int) * (l.length : Int) + (i : Int) = i by simp] at u
  rw [show (0 : Int) * (l.length : Int) + (j : Int) = j by simp] at v
  have z := P.up i (j - i)
  rw [show (i : Int) + ((j - i : Nat) : Int) = (j : Int) by omega, u, v] at z
  dsimp only at z
  omega
theorem Pl.lt1 {p : Int} {l : List (Int × Int)} (P : Pl p l) {i j : Nat} (hi : i < l.length) (hj : j < l.length) (h : i < j) : (l[i]).1 < (l[j]).1 := List.pairwise_iff_getElem.mp (asc_pw P.ats.up) i j hi hj h
theorem Pl.rise {p : Int} {l : List (Int × Int)} (P : Pl p l) {i j : Nat} (hi : i < l.length) (hj : j < l.length) : (l[j]).2 < (l[i]).2 + p := by
  have u := stp_at (p := p) (T := 1) hi
  have v := stp_at (p := p) (T := 0) hj
  rw [show (1 : Int) * (l.length : Int) + (i : Int) = (j : Int) + ((l.length + i - j : Nat) : Int) by omega] at u
  rw [show (0 : Int) * (l.length : Int) + (j : Int) = j by simp] at v
  have z := P.up j (l.length + i - j)
  rw [u, v] at z
  dsimp only at z
  omega
theorem Pl.tel {p : Int} {l : List (Int × Int)} (P : Pl p l) (h : l.length ≤ 4096) : Tel p l := by
  refine ⟨P.ats.pos, P.ats.ne, h, fun q hq => ?_, ?_, fun a ha b hb => ?_⟩
  · obtain ⟨i, hi, rfl⟩ := List.mem_iff_getElem.mp hq
    exact ⟨P.ats.low i hi, P.ats.high i hi⟩
  · rw [List.pairwise_iff_getElem]
    intro i j hi hj hij
    have := P.lt1 hi hj hij
    have := P.lt2 hi hj hij
    exact ⟨by omega, by omega⟩
  · obtain ⟨i, hi, rfl⟩ := List.mem_iff_getElem.mp ha
    obtain ⟨j, hj, rfl⟩ := List.mem_iff_getElem.mp hb
    have := P.rise hi hj
    omega
theorem val_per {p t : Int} {l : List (Int × Int)} (A : Ats p l) : val p l (t + p) = val p l t + p := by
  have pw := asc_pw A.up
  have := wal_per (t := t + p) A.pos A.ne
  rw [show t + p - p = t by omega] at this
  rw [val_wal A.ne pw, val_wal A.ne pw]
  omega
theorem val_pers {p t : Int} {l : List (Int × Int)} (A : Ats p l) (n : Nat) : val p l (t + (n : Int) * p) = val p l t + (n : Int) * p := by
  induction n with
  | zero => simp
  | succ n ih =>
    rw [show ((n + 1 : Nat) : Int) = (n : Int) + 1 by omega, Int.add_mul, Int.one_mul, ← Int.add_assoc, val_per A, ih]
    omega
theorem stp_mod {p : Int} {l : List (Int × Int)} (A : Ats p l) (i : Int) : (stp p l i).1 % p ∈ l.map (·.1) := by
  have hn : 0 < l.length := List.length_pos_iff.mpr A.ne
  obtain ⟨T, r, hr, rfl⟩ := idx_split l.length hn i
  rw [stp_at hr]
  dsimp only
  rw [Int.add_mul_emod_self_right, Int.emod_eq_of_lt (A.low r hr) (A.high r hr)]
  exact List.mem_map.mpr ⟨l[r], List.getElem_mem hr, rfl⟩
theorem val_off {p t : Int} {l : List (Int × Int)} (A : Ats p l) (h : t % p ∉ l.map (·.1)) : val p l t = val p l (t - 1) := by
  refine (Classical.em _).elim id fun hne => ?_
  obtain ⟨i, e⟩ := jump_idx A (t := t) fun q => hne q.symm
  rw [e] at h
  exact absurd (stp_mod A i) h
structure Gd (L : Int) (A : List Int) (F : Int → Int) : Prop where
  pos : 0 < L
  ne : A ≠ []
  pw : A.Pairwise (· < ·)
  bd : ∀ a ∈ A, 0 ≤ a ∧ a < L
  per : ∀ t, F (t + L) = F t + L
  mono : ∀ t, F (t - 1) ≤ F t
  off : ∀ t, t % L ∉ A → F t = F (t - 1)
theorem Gd.le {L : Int} {A : List Int} {F : Int → Int} (G : Gd L A F) {s t : Int} (h : s ≤ t) : F s ≤ F t := by
  have : ∀ n : Nat, F s ≤ F (s + (n : Int)) := fun n => by
    induction n with
    | zero => simp
    | succ n ih =>
      have := G.mono (s + ((n + 1 : Nat) : Int))
      rw [show s + ((n + 1 : Nat) : Int) - 1 = s + (n : Int) by omega] at this
      omega
  have z := this (t - s).toNat
  rw [Int.toNat_of_nonneg (by omega), show s + (t - s) = t by omega] at z
  exact z
theorem Gd.tel {L : Int} {A : List Int} {F : Int → Int} (G : Gd L A F) (h : A.length ≤ 4096) : Tel L (A.map fun a => (a, F a)) := by
  refine ⟨G.pos, by simpa using G.ne, by rw [List.length_map]; exact h, fun q hq => ?_, List.pairwise_map.mpr (G.pw.imp fun {a b} h => ⟨h, G.le (Int.le_of_lt h)⟩), fun x hx y hy => ?_⟩
  · obtain ⟨a, ha, rfl⟩ := List.mem_map.mp hq
    exact G.bd a ha
  · obtain ⟨a, ha, rfl⟩ := List.mem_map.mp hx
    obtain ⟨b, hb, rfl⟩ := List.mem_map.mp hy
    have := G.bd a ha
    have := G.bd b hb
    have z := G.le (show b ≤ a + L by omega)
    rw [G.per] at z
    exact z
theorem Gd.pers {L : Int} {A : List Int} {F : Int → Int} (G : Gd L A F) (T : Int) (t : Int) : F (t + T * L) = F t + T * L := by
  have pos : ∀ (n : Nat) (t : Int), F (t + (n : Int) * L) = F t + (n : Int) * L := fun n => by
    induction n with
    | zero => intro t; simp
    | succ n ih =>
      intro t
      rw [show ((n + 1 : Nat) : Int) = (n : Int) + 1 by omega, Int.add_mul, Int.one_mul, ← Int.add_assoc, G.per, ih]
      omega
  rcases Int.le_total 0 T with h | h
  · have := pos T.toNat t
    rwa [Int.toNat_of_nonneg h] at this
  · have := pos (-T).toNat (t + T * L)
    rw [Int.toNat_of_nonneg (by omega), Int.neg_mul, show t + T * L + -(T * L) = t by omega] at this
    omega
theorem Gd.val {L : Int} {A : List Int} {F : Int → Int} (G : Gd L A F) (t : Int) : val L (A.map fun a => (a, F a)) t = F t := by
  have T : Ats L (A.map fun a => (a, F a)) := pw_ats G.pos (by simpa using G.ne) (List.pairwise_map.mpr (G.pw.imp fun {a b} h => h)) fun q hq => by
    obtain ⟨a, ha, rfl⟩ := List.mem_map.mp hq
    exact G.bd a ha
  have hn : 0 < (A.map fun a => (a, F a)).length := List.length_pos_iff.mpr T.ne
  have atF : ∀ i, (stp L (A.map fun a => (a, F a)) i).2 = F (stp L (A.map fun a => (a, F a)) i).1 := fun i => by
    obtain ⟨U, r, hr, rfl⟩ := idx_split _ hn i
    rw [stp_at hr]
    dsimp only
    rw [List.getElem_map]
    dsimp only
    rw [G.pers]
  have onA : ∀ t, t % L ∈ A → ∃ i, t = (stp L (A.map fun a => (a, F a)) i).1 := fun t ht => by
    obtain ⟨r, hr, e⟩ := List.mem_iff_getElem.mp ht
    refine ⟨t / L * ((A.map fun a => (a, F a)).length : Int) + (r : Int), ?_⟩
    rw [stp_at (by rw [List.length_map]; exact hr), List.getElem_map]
    dsimp only
    rw [e]
    have := Int.emod_add_mul_ediv t L
    rw [Int.mul_comm] at this
    omega
  obtain ⟨i, h1, h2, h3⟩ := val_idx (t := t) T
  rw [h3, atF]
  have go : ∀ n : Nat, (stp L (A.map fun a => (a, F a)) i).1 + (n : Int) ≤ t → F (stp L (A.map fun a => (a, F a)) i).1 = F ((stp L (A.map fun a => (a, F a)) i).1 + (n : Int)) := fun n => by
    induction n with
    | zero => intro _; simp
    | succ n ih =>
      intro hle
      rw [ih (by omega), G.off ((stp L (A.map fun a => (a, F a)) i).1 + ((n + 1 : Nat) : Int)) fun hm => ?_]
      · congr 1; omega
      · obtain ⟨j, e⟩ := onA _ hm
        have : i = j := idx_one T (t := (stp L (A.map fun a => (a, F a)) i).1 + ((n + 1 : Nat) : Int)) (by omega) (by omega) (by rw [← e]; exact Int.le_refl _) (by rw [e]; exact stp_next T j)
        subst this
        omega
  have z := go (t - (stp L (A.map fun a => (a, F a)) i).1).toNat (by omega)
  rw [Int.toNat_of_nonneg (by omega)] at z
  rw [z]
  congr 1; omega
theorem w_newG {k : Nat} {μ : Mu} {L : Int} {A : List Int} {F : Int → Int} {Q : D → Mu → Prop} (G : Gd L A F) (hA : A.length ≤ 4096) (h : ∀ p' l', Pl p' l' → p' ≤ L → l'.length ≤ A.length → (∃ q : Nat, 0 < q ∧ (q : Int) * p' = L ∧ q * l'.length ≤ A.length) → (∀ t, val p' l' t = F t) → Q (obj p' l') μ) :
    (run P fds (k + 5) n_Stair___init__ [.int L, tp (A.map fun a => (a, F a))] μ).wp Q :=
  w_newP (G.tel hA) fun p' l' h1 h2 h3 h4 h5 => h p' l' h1 h2 (by rw [List.length_map] at h3; exact h3) (by rw [List.length_map] at h4; exact h4) fun t => by rw [h5, G.val]
end Lw
set_option Elab.async false
set_option linter.all false
set_option maxRecDepth 100000
set_option maxHeartbeats 4000000
namespace Lw
open PySem L2 Vw
theorem stp_pers {p : Int} {l : List (Int × Int)} (hl : l ≠ []) (i : Int) : ∀ m : Nat, stp p l (i + ((m * l.length : Nat) : Int)) = ((stp p l i).1 + (m : Int) * p, (stp p l i).2 + (m : Int) * p)
  | 0 => by simp
  | m + 1 => by
    rw [show i + (((m + 1) * l.length : Nat) : Int) = i + ((m * l.length : Nat) : Int) + (l.length : Int) by rw [Nat.succ_mul]; omega, stp_per hl, stp_pers hl i m, show ((m + 1 : Nat) : Int) = (m : Int) + 1 by omega, Int.add_mul, Int.one_mul]
    exact Prod.ext (by dsimp only; omega) (by dsimp only; omega)
theorem val_at {p t : Int} {l : List (Int × Int)} (A : Ats p l) {i : Int} (h1 : (stp p l i).1 ≤ t) (h2 : t < (stp p l (i + 1)).1) : val p l t = (stp p l i).2 := by
  obtain ⟨j, g1, g2, g3⟩ := val_idx (t := t) A
  rw [g3, idx_one A h1 h2 g1 g2]
end Lw
set_option Elab.async false
set_option linter.all false
set_option maxRecDepth 100000
set_option maxHeartbeats 4000000
namespace Lw
open PySem L2 Vw
theorem w_needS {k : Nat} {fs : List D} {μ : Mu} {Q : D → Mu → Prop} (h : Q .non μ) : (run P fds (k + 1) n_need_stair [.obj 0 fs] μ).wp Q := by
  refine wp_run rfl rfl ?_
  show (exss P _ b_need_stair [.val (.obj 0 fs)] _).wp _ _ _ _
  simp only [b_need_stair, w_esS, w_lc2, w_lc2S, w_r3, w_meth, methW_obj, w_stat, w_appE, appW_o, w_isObj, w_all, w_oo, w_oi, w_oinv, w_oneg, w_olt, w_ole, w_ogt, w_oge, w_oeq, w_rev, tgo_nm, tgo_tp2, tgo_tp3, Sl.wipe, w_var, w_int, w_bl, w_non, w_str, w_con, w_bin, w_un, w_cmp, w_and, w_or, w_one, w_not, w_ife, w_chain, w_isN, w_notN, w_tup, w_lst, w_ix, w_sl, w_call, w_blt, w_fld, w_new, w_app, w_dget, w_dict, w_oix, w_olen, w_lc, w_esN, w_esC, w_oN, w_oS, seq_tup, seq_lst, w_iseq, w_r1, w_r2, w_enum, w_zip, w_zip3, lst_lst, w_add, w_sub, w_mul, w_fdiv, w_mod, w_pow, w_shr, w_lcat, w_tcat, w_neg, w_lt, w_le, w_gt, w_ge, w_eq, w_ne, w_ixt, w_ixl, w_len, w_lenT, w_abs, w_toint, w_totup, w_totupT, w_tolst, w_tolstT, w_divmod, w_min, w_max, w_isInt, w_isBool, w_isTup, w_lcm, w_set, w_bld, w_par, slot_f, slot_t, w_unp, w_appd, w_put, w_dput, w_dput2, w_frz, w_if, w_ret, w_retN, w_brk, w_cnt, w_pas, w_never, w_exp, w_init, w_nil, w_cons, w_for, w_forF, w_whl, wp_ok, wp_bad, tst_bl, asI_int, asV_val, asO_own, opt_some, get_0, get_s, Sl.put, begins, List.replicate, List.map_cons, List.map_nil, List.cons_append, List.nil_append, List.append_nil, List.length_cons, List.length_nil, Nat.reduceAdd, Nat.reduceSub, Nat.reduceLeDiff, List.replicate_succ, List.replicate_zero, true_and, and_true, decide_eq_true_eq, if_true, if_false, Bool.false_eq_true, ite_true, ite_false, decide_true, decide_false, Bool.not_true, Bool.not_false, Bool.not_eq_true', decide_eq_false_iff_not]
  exact h
theorem w_needF {k : Nat} {n : Int} {μ : Mu} {Q : D → Mu → Prop} (hn : n ≤ 4096) (h : Q .non μ) : (run P fds (k + 1) n_need_few [.int n] μ).wp Q := by
  refine wp_run rfl rfl ?_
  show (exss P _ b_need_few [.val (.int n)] _).wp _ _ _ _
  have e : P.con 0 = some 4096 := rfl
  simp only [b_need_few, w_esS, w_lc2, w_lc2S, w_r3, w_meth, methW_obj, w_stat, w_appE, appW_o, w_isObj, w_all, w_oo, w_oi, w_oinv, w_oneg, w_olt, w_ole, w_ogt, w_oge, w_oeq, w_rev, tgo_nm, tgo_tp2, tgo_tp3, Sl.wipe, w_var, w_int, w_bl, w_non, w_str, w_con, w_bin, w_un, w_cmp, w_and, w_or, w_one, w_not, w_ife, w_chain, w_isN, w_notN, w_tup, w_lst, w_ix, w_sl, w_call, w_blt, w_fld, w_new, w_app, w_dget, w_dict, w_oix, w_olen, w_lc, w_esN, w_esC, w_oN, w_oS, seq_tup, seq_lst, w_iseq, w_r1, w_r2, w_enum, w_zip, w_zip3, lst_lst, w_add, w_sub, w_mul, w_fdiv, w_mod, w_pow, w_shr, w_lcat, w_tcat, w_neg, w_lt, w_le, w_gt, w_ge, w_eq, w_ne, w_ixt, w_ixl, w_len, w_lenT, w_abs, w_toint, w_totup, w_totupT, w_tolst, w_tolstT, w_divmod, w_min, w_max, w_isInt, w_isBool, w_isTup, w_lcm, w_set, w_bld, w_par, slot_f, slot_t, w_unp, w_appd, w_put, w_dput, w_dput2, w_frz, w_if, w_ret, w_retN, w_brk, w_cnt, w_pas, w_never, w_exp, w_init, w_nil, w_cons, w_for, w_forF, w_whl, wp_ok, wp_bad, tst_bl, asI_int, asV_val, asO_own, opt_some, get_0, get_s, Sl.put, begins, List.replicate, List.map_cons, List.map_nil, List.cons_append, List.nil_append, List.append_nil, List.length_cons, List.length_nil, Nat.reduceAdd, Nat.reduceSub, Nat.reduceLeDiff, List.replicate_succ, List.replicate_zero, true_and, and_true, decide_eq_true_eq, if_true, if_false, Bool.false_eq_true, ite_true, ite_false, decide_true, decide_false, Bool.not_true, Bool.not_false, Bool.not_eq_true', decide_eq_false_iff_not, e]
  rw [if_neg (by omega)]
  exact h
theorem w_many {k : Nat} {p L : Int} {n : Nat} {l : List (Int × Int)} {μ : Mu} {Q : D → Mu → Prop} (hp : 0 < p) (hp2 : p < 2 ^ 190) (hL : L / p = (n : Int)) (hn : n < 2 ^ 190) (hl : l.length ≤ 4096) (h : Q (.int ((n * l.length : Nat) : Int)) μ) : (run P fds (k + 2) n_many_within [obj p l, .int L] μ).wp Q := by
  refine wp_run rfl rfl ?_
  show (exss P _ b_many_within [.val (.obj 0 [.int p, tp l]), .val (.int L)] _).wp _ _ _ _
  simp only [b_many_within, w_esS, w_lc2, w_lc2S, w_r3, w_meth, methW_obj, w_stat, w_appE, appW_o, w_isObj, w_all, w_oo, w_oi, w_oinv, w_oneg, w_olt, w_ole, w_ogt, w_oge, w_oeq, w_rev, tgo_nm, tgo_tp2, tgo_tp3, Sl.wipe, w_var, w_int, w_bl, w_non, w_str, w_con, w_bin, w_un, w_cmp, w_and, w_or, w_one, w_not, w_ife, w_chain, w_isN, w_notN, w_tup, w_lst, w_ix, w_sl, w_call, w_blt, w_fld, w_new, w_app, w_dget, w_dict, w_oix, w_olen, w_lc, w_esN, w_esC, w_oN, w_oS, seq_tup, seq_lst, w_iseq, w_r1, w_r2, w_enum, w_zip, w_zip3, lst_lst, w_add, w_sub, w_mul, w_fdiv, w_mod, w_pow, w_shr, w_lcat, w_tcat, w_neg, w_lt, w_le, w_gt, w_ge, w_eq, w_ne, w_ixt, w_ixl, w_len, w_lenT, w_abs, w_toint, w_totup, w_totupT, w_tolst, w_tolstT, w_divmod, w_min, w_max, w_isInt, w_isBool, w_isTup, w_lcm, w_set, w_bld, w_par, slot_f, slot_t, w_unp, w_appd, w_put, w_dput, w_dput2, w_frz, w_if, w_ret, w_retN, w_brk, w_cnt, w_pas, w_never, w_exp, w_init, w_nil, w_cons, w_for, w_forF, w_whl, wp_ok, wp_bad, tst_bl, asI_int, asV_val, asO_own, opt_some, get_0, get_s, Sl.put, begins, List.replicate, List.map_cons, List.map_nil, List.cons_append, List.nil_append, List.append_nil, List.length_cons, List.length_nil, Nat.reduceAdd, Nat.reduceSub, Nat.reduceLeDiff, List.replicate_succ, List.replicate_zero, true_and, and_true, decide_eq_true_eq, if_true, if_false, Bool.false_eq_true, ite_true, ite_false, decide_true, decide_false, Bool.not_true, Bool.not_false, Bool.not_eq_true', decide_eq_false_iff_not, w_fld, f_per, f_stps, hL, List.length_map]
  refine ⟨⟨hp, lg9 (by omega) (by omega)⟩, lg2 (by omega) (by omega) (by omega) (by omega), ?_⟩
  rw [Int.mul_comm, ← Int.natCast_mul]
  exact h
theorem w_unr {k : Nat} {p L : Int} {n : Nat} {l : List (Int × Int)} {μ : Mu} {Q : D → Mu → Prop} (hp : 0 < p) (hp2 : p < 2 ^ 190) (hL : L / p = (n : Int)) (hl : l ≠ []) (hn : n * l.length ≤ 4096) (h : Q (.lst ((rowsF p l n).map pr)) μ) : (run P fds (k + 2) n_unrolled [obj p l, .int L] μ).wp Q := by
  have hl0 : 0 < l.length := List.length_pos_iff.mpr hl
  have hn2 : n ≤ 4096 := by
    have := Nat.le_mul_of_pos_right n hl0
    omega
  refine wp_run rfl rfl ?_
  show (exss P _ b_unrolled [.val (.obj 0 [.int p, tp l]), .val (.int L), .und, .und, .und, .und, .und] _).wp _ _ _ _
  simp only [b_unrolled, w_esS, w_lc2, w_lc2S, w_r3, w_meth, methW_obj, w_stat, w_appE, appW_o, w_isObj, w_all, w_oo, w_oi, w_oinv, w_oneg, w_olt, w_ole, w_ogt, w_oge, w_oeq, w_rev, tgo_nm, tgo_tp2, tgo_tp3, Sl.wipe, w_var, w_int, w_bl, w_non, w_str, w_con, w_bin, w_un, w_cmp, w_and, w_or, w_one, w_not, w_ife, w_chain, w_isN, w_notN, w_tup, w_lst, w_ix, w_sl, w_call, w_blt, w_fld, w_new, w_app, w_dget, w_dict, w_oix, w_olen, w_lc, w_esN, w_esC, w_oN, w_oS, seq_tup, seq_lst, w_iseq, w_r1, w_r2, w_enum, w_zip, w_zip3, lst_lst, w_add, w_sub, w_mul, w_fdiv, w_mod, w_pow, w_shr, w_lcat, w_tcat, w_neg, w_lt, w_le, w_gt, w_ge, w_eq, w_ne, w_ixt, w_ixl, w_len, w_lenT, w_abs, w_toint, w_totup, w_totupT, w_tolst, w_tolstT, w_divmod, w_min, w_max, w_isInt, w_isBool, w_isTup, w_lcm, w_set, w_bld, w_par, slot_f, slot_t, w_unp, w_appd, w_put, w_dput, w_dput2, w_frz, w_if, w_ret, w_retN, w_brk, w_cnt, w_pas, w_never, w_exp, w_init, w_nil, w_cons, w_for, w_forF, w_whl, wp_ok, wp_bad, tst_bl, asI_int, asV_val, asO_own, opt_some, get_0, get_s, Sl.put, begins, List.replicate, List.map_cons, List.map_nil, List.cons_append, List.nil_append, List.append_nil, List.length_cons, List.length_nil, Nat.reduceAdd, Nat.reduceSub, Nat.reduceLeDiff, List.replicate_succ, List.replicate_zero, true_and, and_true, decide_eq_true_eq, if_true, if_false, Bool.false_eq_true, ite_true, ite_false, decide_true, decide_false, Bool.not_true, Bool.not_false, Bool.not_eq_true', decide_eq_false_iff_not, w_fld, f_per, f_stps, hL]
  refine ⟨⟨hp, lg9 (by omega) (by omega)⟩, ?_⟩
  refine lcgo_inv (fun acc rest μ' => ∃ j : Nat, μ' = μ ∧ j + rest.length = n ∧ rest = (List.range' j rest.length).map (fun (i : Nat) => D.int (i : Int)) ∧ acc.flatMap unl = (rowsF p l j).map pr) ?step ?done ?init
  case init =>
    refine ⟨0, rfl, by rw [rngs_len]; omega, ?_, by simp [rowsF]⟩
    rw [rngs_len, rngs_eq]
    exact List.map_congr_left fun i _ => by rw [Int.zero_add]
  case step =>
    rintro acc d ds μ' ⟨j, rfl, e1, e2, e3⟩
    rw [List.length_cons, List.range'_succ, List.map_cons] at e2
    obtain ⟨rfl, e4⟩ := List.cons.inj e2
    rw [List.length_cons] at e1
    simp only [w_esS, w_lc2, w_lc2S, w_r3, w_meth, methW_obj, w_stat, w_appE, appW_o, w_isObj, w_all, w_oo, w_oi, w_oinv, w_oneg, w_olt, w_ole, w_ogt, w_oge, w_oeq, w_rev, tgo_nm, tgo_tp2, tgo_tp3, Sl.wipe, w_var, w_int, w_bl, w_non, w_str, w_con, w_bin, w_un, w_cmp, w_and, w_or, w_one, w_not, w_ife, w_chain, w_isN, w_notN, w_tup, w_lst, w_ix, w_sl, w_call, w_blt, w_fld, w_new, w_app, w_dget, w_dict, w_oix, w_olen, w_lc, w_esN, w_esC, w_oN, w_oS, seq_tup, seq_lst, w_iseq, w_r1, w_r2, w_enum, w_zip, w_zip3, lst_lst, w_add, w_sub, w_mul, w_fdiv, w_mod, w_pow, w_shr, w_lcat, w_tcat, w_neg, w_lt, w_le, w_gt, w_ge, w_eq, w_ne, w_ixt, w_ixl, w_len, w_lenT, w_abs, w_toint, w_totup, w_totupT, w_tolst, w_tolstT, w_divmod, w_min, w_max, w_isInt, w_isBool, w_isTup, w_lcm, w_set, w_bld, w_par, slot_f, slot_t, w_unp, w_appd, w_put, w_dput, w_dput2, w_frz, w_if, w_ret, w_retN, w_brk, w_cnt, w_pas, w_never, w_exp, w_init, w_nil, w_cons, w_for, w_forF, w_whl, wp_ok, wp_bad, tst_bl, asI_int, asV_val, asO_own, opt_some, get_0, get_s, Sl.put, begins, List.replicate, List.map_cons, List.map_nil, List.cons_append, List.nil_append, List.append_nil, List.length_cons, List.length_nil, Nat.reduceAdd, Nat.reduceSub, Nat.reduceLeDiff, List.replicate_succ, List.replicate_zero, true_and, and_true, decide_eq_true_eq, if_true, if_false, Bool.false_eq_true, ite_true, ite_false, decide_true, decide_false, Bool.not_true, Bool.not_false, Bool.not_eq_true', decide_eq_false_iff_not]
    have hj : (j : Int).natAbs.log2 + p.natAbs.log2 < 1000000 := lg2 (by omega) (by omega) (by omega) (by omega)
    refine Out.wp_of (lc_prs (g := fun q => pr (q.1 + (j : Int) * p, q.2 + (j : Int) * p)) fun q _ => ?_) ?_
    · obtain ⟨d, μ', e, h⟩ := Out.wp_iff.mp (show (lcStep P (run P fds (k + 1)) [5, 6] (.tp [5, 6]) .none (.tup (.cons (.bin .Add (.var 5) (.bin .Mult (.var 4) (.var 2))) (.cons (.bin .Add (.var 6) (.bin .Mult (.var 4) (.var 2))) .nil))) [.val (.obj 0 [.int p, tp l]), .val (.int L), .val (.int p), .val (tp l), .val (.int (j : Int)), .und, .und] (pr q) μ').wp fun o μ2 => o = some (pr (q.1 + (j : Int) * p, q.2 + (j : Int) * p)) ∧ μ2 = μ' by
        simp only [w_lcN, w_esS, w_lc2, w_lc2S, w_r3, w_meth, methW_obj, w_stat, w_appE, appW_o, w_isObj, w_all, w_oo, w_oi, w_oinv, w_oneg, w_olt, w_ole, w_ogt, w_oge, w_oeq, w_rev, tgo_nm, tgo_tp2, tgo_tp3, Sl.wipe, w_var, w_int, w_bl, w_non, w_str, w_con, w_bin, w_un, w_cmp, w_and, w_or, w_one, w_not, w_ife, w_chain, w_isN, w_notN, w_tup, w_lst, w_ix, w_sl, w_call, w_blt, w_fld, w_new, w_app, w_dget, w_dict, w_oix, w_olen, w_lc, w_esN, w_esC, w_oN, w_oS, seq_tup, seq_lst, w_iseq, w_r1, w_r2, w_enum, w_zip, w_zip3, lst_lst, w_add, w_sub, w_mul, w_fdiv, w_mod, w_pow, w_shr, w_lcat, w_tcat, w_neg, w_lt, w_le, w_gt, w_ge, w_eq, w_ne, w_ixt, w_ixl, w_len, w_lenT, w_abs, w_toint, w_totup, w_totupT, w_tolst, w_tolstT, w_divmod, w_min, w_max, w_isInt, w_isBool, w_isTup, w_lcm, w_set, w_bld, w_par, slot_f, slot_t, w_unp, w_appd, w_put, w_dput, w_dput2, w_frz, w_if, w_ret, w_retN, w_brk, w_cnt, w_pas, w_never, w_exp, w_init, w_nil, w_cons, w_for, w_forF, w_whl, wp_ok, wp_bad, tst_bl, asI_int, asV_val, asO_own, opt_some, get_0, get_s, Sl.put, begins, List.replicate, List.map_cons, List.map_nil, List.cons_append, List.nil_append, List.append_nil, List.length_cons, List.length_nil, Nat.reduceAdd, Nat.reduceSub, Nat.reduceLeDiff, List.replicate_succ, List.replicate_zero, true_and, and_true, decide_eq_true_eq, if_true, if_false, Bool.false_eq_true, ite_true, ite_false, decide_true, decide_false, Bool.not_true, Bool.not_false, Bool.not_eq_true', decide_eq_false_iff_not]
        exact ⟨hj, hj⟩)
      rw [e, h.1, h.2]
    · refine ⟨j + 1, rfl, by omega, e4, ?_⟩
      rw [rowsF, List.map_append, ← e3]
      simp [unl]
  case done =>
    rintro acc μ' ⟨j, rfl, e1, e2, e3⟩
    simp only [List.length_nil, Nat.add_zero] at e1
    subst e1
    rw [e3, List.length_map, rows_len]
    exact ⟨by omega, h⟩
theorem rows_get {p : Int} {l : List (Int × Int)} : ∀ {n j r : Nat} (hr : r < l.length) (hj : j < n), (rowsF p l n)[j * l.length + r]? = some ((l[r]).1 + (j : Int) * p, (l[r]).2 + (j : Int) * p)
  | 0, _, _, _, hj => by omega
  | n + 1, j, r, hr, hj => by
    rw [rowsF]
    by_cases h : j < n
    · have : j * l.length + r < (rowsF p l n).length := by
        rw [rows_len]
        have := Nat.mul_le_mul_right l.length (show j + 1 ≤ n by omega)
        rw [Nat.succ_mul] at this
        omega
      rw [List.getElem?_append_left this]
      exact rows_get hr h
    · have e : j = n := by omega
      subst e
      rw [List.getElem?_append_right (by rw [rows_len]; omega), rows_len, Nat.add_sub_cancel_left, List.getElem?_map, List.getElem?_eq_getElem hr]
      rfl
theorem rows_fst {p : Int} {l : List (Int × Int)} (A : Ats p l) {n : Nat} {L t : Int} (hL : (n : Int) * p = L) (hn : 0 < n) (h : t % L ∉ (rowsF p l n).map (·.1)) : t % p ∉ l.map (·.1) := by
  intro hm
  apply h
  obtain ⟨r, hr, e⟩ := List.mem_iff_getElem.mp hm
  rw [List.length_map] at hr
  rw [List.getElem_map] at e
  have hp := A.pos
  have hL0 : 0 < L := by rw [← hL]; exact Int.mul_pos (by omega) hp
  have m0 := Int.emod_nonneg t (show L ≠ 0 by omega)
  have m1 := Int.emod_lt_of_pos t hL0
  have d1 : t % L % p = t % p := Int.emod_emod_of_dvd t ⟨n, by rw [← hL, Int.mul_comm]⟩
  have d2 := Int.emod_add_mul_ediv (t % L) p
  have q0 : 0 ≤ t % L / p := Int.ediv_nonneg m0 (by omega)
  have q1 : t % L / p < (n : Int) := Int.ediv_lt_of_lt_mul hp (by rw [hL]; exact m1)
  have hj : (t % L / p).toNat < n := by omega
  have g := rows_get (p := p) (n := n) hr hj
  rw [Int.toNat_of_nonneg q0] at g
  refine List.mem_map.mpr ⟨_, List.mem_of_getElem? g, ?_⟩
  dsimp only
  rw [e, ← d1]
  rw [Int.mul_comm] at d2
  omega
theorem rows_bd {p : Int} {l : List (Int × Int)} (T : Tel p l) {n : Nat} (q : Int × Int) (h : q ∈ rowsF p l n) : val p l q.1 = q.2 := by
  obtain ⟨j, s, h1, h2, rfl⟩ := rows_mem h
  dsimp only
  rw [val_pers T.tells.ats]
  congr 1
  obtain ⟨r, hr, rfl⟩ := List.mem_iff_getElem.mp h2
  obtain ⟨i, g1, g2, g3⟩ := val_idx (t := (l[r]).1) T.tells.ats
  have u := stp_at (p := p) (T := 0) hr
  rw [show (0 : Int) * (l.length : Int) + (r : Int) = r by simp] at u
  have e : i = (r : Int) := idx_one T.tells.ats g1 g2 (by rw [u]; simp) (by
    have := stp_next T.tells.ats (r : Int)
    rw [u] at this
    dsimp only at this
    omega)
  rw [g3, e, u]
  simp
end Lw
set_option Elab.async false
set_option linter.all false
set_option maxRecDepth 100000
set_option maxHeartbeats 4000000
namespace Lw
open PySem L2 Vw
theorem w_valAt {k : Nat} {μ : Mu} {p t : Int} {l : List (Int × Int)} {Q : D → Mu → Prop} (A : Ats p l) (hf : l.length ≤ 4096) (hp : p < 2 ^ 190) (h1 : -(2 ^ 190) < t) (h2 : t < 2 ^ 190) (h : Q (.int (val p l t)) μ) : (run P fds (k + 3) n__value_at [obj p l, .int t] μ).wp Q := by
  have hn : 0 < l.length := List.length_pos_iff.mpr A.ne
  have hp0 := A.pos
  obtain ⟨d1, d2⟩ := div_bd A.pos h1 h2
  refine Out.wp_of (r_value hn A.pos (lg9 (by omega) (by omega)) (by omega) (asc_of A) ?_ fun r hr => ?_) h
  · exact Nat.lt_trans (lg (by omega) (by omega)) (by decide)
  · generalize hT : t / p = T at d1 d2
    have e : (T * (l.length : Int) + (r : Int) - 1) / (l.length : Int) = T + ((r : Int) - 1) / (l.length : Int) := by
      rw [show T * (l.length : Int) + (r : Int) - 1 = ((r : Int) - 1) + T * (l.length : Int) by omega, Int.add_mul_ediv_right _ _ (by omega)]
      omega
    rw [e]
    have q1 : -1 ≤ ((r : Int) - 1) / (l.length : Int) := by
      rw [show (-1 : Int) = (-1 : Int) * (l.length : Int) / (l.length : Int) by rw [Int.mul_ediv_cancel _ (by omega)]]
      exact Int.ediv_le_ediv (by omega) (by omega)
    have q2 : ((r : Int) - 1) / (l.length : Int) ≤ 0 := by
      have : ((r : Int) - 1) / (l.length : Int) < 1 := Int.ediv_lt_of_lt_mul (by omega) (by omega)
      omega
    exact lg2 (by omega) (by omega) (by omega) (by omega)
structure Cm (p q L : Int) (m n : Nat) : Prop where
  m0 : 0 < m
  n0 : 0 < n
  hm : (m : Int) * p = L
  hn : (n : Int) * q = L
theorem cm_lcm {p q : Int} (hp : 0 < p) (hq : 0 < q) : ∃ m n, Cm p q ((Nat.lcm p.natAbs q.natAbs : Nat) : Int) m n := by
  obtain ⟨m, hm⟩ := Nat.dvd_lcm_left p.natAbs q.natAbs
  obtain ⟨n, hn⟩ := Nat.dvd_lcm_right p.natAbs q.natAbs
  have hL : 0 < Nat.lcm p.natAbs q.natAbs := Nat.lcm_pos (by omega) (by omega)
  have ep : (p.natAbs : Int) = p := by omega
  have eq : (q.natAbs : Int) = q := by omega
  refine ⟨m, n, Nat.pos_of_ne_zero fun e => ?_, Nat.pos_of_ne_zero fun e => ?_, ?_, ?_⟩
  · rw [e, Nat.mul_zero] at hm; omega
  · rw [e, Nat.mul_zero] at hn; omega
  · rw [hm, Int.natCast_mul, ep, Int.mul_comm]
  · rw [hn, Int.natCast_mul, eq, Int.mul_comm]
theorem Cm.div {p q L : Int} {m n : Nat} (C : Cm p q L m n) (hq : 0 < q) : L / q = (n : Int) := by
  rw [← C.hn, Int.mul_ediv_cancel _ (by omega)]
theorem Cm.swap {p q L : Int} {m n : Nat} (C : Cm p q L m n) : Cm q p L n m := ⟨C.n0, C.m0, C.hn, C.hm⟩
theorem Cm.pos {p q L : Int} {m n : Nat} (C : Cm p q L m n) (hp : 0 < p) : 0 < L := by
  rw [← C.hm]; exact Int.mul_pos (by have := C.m0; omega) hp
end Lw
set_option Elab.async false
set_option linter.all false
set_option maxRecDepth 100000
set_option maxHeartbeats 4000000
namespace Lw
open PySem L2 Vw
theorem gd_comp {p q L : Int} {m n : Nat} {l k : List (Int × Int)} (C : Cm p q L m n) (Tf : Tel p l) (Tg : Tel q k) (hk : n * k.length ≤ 4096) : Gd L ((rowsF q k n).map (·.1)) fun t => val p l (val q k t) := by
  have T := rows_tel Tg C.n0 hk
  rw [Int.mul_comm, C.hn] at T
  refine ⟨C.pos Tf.pos, by simpa using T.ne, List.pairwise_map.mpr (T.pw.imp fun {a b} h => h.1), fun a ha => ?_, fun t => ?_, fun t => ?_, fun t ht => ?_⟩
  · obtain ⟨s, hs, rfl⟩ := List.mem_map.mp ha
    exact T.bd s hs
  · have e1 := val_pers (t := t) Tg.tells.ats n
    rw [C.hn] at e1
    have e2 := val_pers (t := val q k t) Tf.tells.ats m
    rw [C.hm] at e2
    show val p l (val q k (t + L)) = val p l (val q k t) + L
    rw [e1, e2]
  · exact val_mono Tf (val_mono Tg (by omega))
  · have := rows_fst Tg.tells.ats C.hn C.n0 ht
    show val p l (val q k t) = val p l (val q k (t - 1))
    rw [val_off Tg.tells.ats this]
theorem comp_steps {p q : Int} {n : Nat} {l k : List (Int × Int)} (Tg : Tel q k) : ((rowsF q k n).map fun s => pr (s.1, val p l s.2)) = (((rowsF q k n).map (·.1)).map fun a => (a, val p l (val q k a))).map pr := by
  rw [List.map_map, List.map_map]
  refine List.map_congr_left fun s hs => ?_
  show pr (s.1, val p l s.2) = pr (s.1, val p l (val q k s.1))
  rw [rows_bd Tg s hs]
theorem w_mulS {i : Nat} {μ : Mu} {p q : Int} {l k : List (Int × Int)} {m n : Nat} {L : Int} {Q : D → Mu → Prop} (hL : L = ((Nat.lcm p.natAbs q.natAbs : Nat) : Int)) (C : Cm p q L m n) (Pf : Pl p l) (Pg : Pl q k) (hfl : l.length ≤ 4096) (hk : n * k.length ≤ 4096) (hL2 : L < 2 ^ 180) (hv : ∀ s ∈ k, -(2 ^ 180) < s.2 ∧ s.2 < 2 ^ 180)
    (h : ∀ p' l', Pl p' l' → p' ≤ L → l'.length ≤ n * k.length → (∃ r : Nat, 0 < r ∧ (r : Int) * p' = L ∧ r * l'.length ≤ n * k.length) → (∀ t, val p' l' t = val p l (val q k t)) → Q (obj p' l') μ) : (run P fds (i + 6) n_Stair___mul__ [obj p l, obj q k] μ).wp Q := by
  have hkl : k.length ≤ 4096 := by
    have := Nat.le_mul_of_pos_left k.length C.n0
    omega
  have Tf := Pf.tel hfl
  have Tg := Pg.tel hkl
  have hp0 := Pf.ats.pos
  have hq0 := Pg.ats.pos
  have hp2 : p ≤ L := by
    rw [← C.hm]
    have := Int.mul_le_mul_of_nonneg_right (show (1 : Int) ≤ (m : Int) by have := C.m0; omega) (show 0 ≤ p by omega)
    omega
  have hq2 : q ≤ L := by
    rw [← C.hn]
    have := Int.mul_le_mul_of_nonneg_right (show (1 : Int) ≤ (n : Int) by have := C.n0; omega) (show 0 ≤ q by omega)
    omega
  have hd := C.div hq0
  have hk0 : 0 < k.length := List.length_pos_iff.mpr Pg.ats.ne
  have hn2 : n ≤ 4096 := by
    have := Nat.le_mul_of_pos_right n hk0
    omega
  have G := gd_comp C Tf Tg hk
  refine wp_run rfl rfl ?_
  show (exss P _ b_Stair___mul__ [.val (.obj 0 [.int p, tp l]), .val (.obj 0 [.int q, tp k]), .und, .und, .und] _).wp _ _ _ _
  simp only [b_Stair___mul__, w_esS, w_lc2, w_lc2S, w_r3, w_meth, methW_obj, w_stat, w_appE, appW_o, w_isObj, w_all, w_oo, w_oi, w_oinv, w_oneg, w_olt, w_ole, w_ogt, w_oge, w_oeq, w_rev, tgo_nm, tgo_tp2, tgo_tp3, Sl.wipe, w_var, w_int, w_bl, w_non, w_str, w_con, w_bin, w_un, w_cmp, w_and, w_or, w_one, w_not, w_ife, w_chain, w_isN, w_notN, w_tup, w_lst, w_ix, w_sl, w_call, w_blt, w_fld, w_new, w_app, w_dget, w_dict, w_oix, w_olen, w_lc, w_esN, w_esC, w_oN, w_oS, seq_tup, seq_lst, w_iseq, w_r1, w_r2, w_enum, w_zip, w_zip3, lst_lst, w_add, w_sub, w_mul, w_fdiv, w_mod, w_pow, w_shr, w_lcat, w_tcat, w_neg, w_lt, w_le, w_gt, w_ge, w_eq, w_ne, w_ixt, w_ixl, w_len, w_lenT, w_abs, w_toint, w_totup, w_totupT, w_tolst, w_tolstT, w_divmod, w_min, w_max, w_isInt, w_isBool, w_isTup, w_lcm, w_set, w_bld, w_par, slot_f, slot_t, w_unp, w_appd, w_put, w_dput, w_dput2, w_frz, w_if, w_ret, w_retN, w_brk, w_cnt, w_pas, w_never, w_exp, w_init, w_nil, w_cons, w_for, w_forF, w_whl, wp_ok, wp_bad, tst_bl, asI_int, asV_val, asO_own, opt_some, get_0, get_s, Sl.put, begins, List.replicate, List.map_cons, List.map_nil, List.cons_append, List.nil_append, List.append_nil, List.length_cons, List.length_nil, Nat.reduceAdd, Nat.reduceSub, Nat.reduceLeDiff, List.replicate_succ, List.replicate_zero, true_and, and_true, decide_eq_true_eq, if_true, if_false, Bool.false_eq_true, ite_true, ite_false, decide_true, decide_false, Bool.not_true, Bool.not_false, Bool.not_eq_true', decide_eq_false_iff_not]
  refine w_needS ?_
  simp only [w_esS, w_lc2, w_lc2S, w_r3, w_meth, methW_obj, w_stat, w_appE, appW_o, w_isObj, w_all, w_oo, w_oi, w_oinv, w_oneg, w_olt, w_ole, w_ogt, w_oge, w_oeq, w_rev, tgo_nm, tgo_tp2, tgo_tp3, Sl.wipe, w_var, w_int, w_bl, w_non, w_str, w_con, w_bin, w_un, w_cmp, w_and, w_or, w_one, w_not, w_ife, w_chain, w_isN, w_notN, w_tup, w_lst, w_ix, w_sl, w_call, w_blt, w_fld, w_new, w_app, w_dget, w_dict, w_oix, w_olen, w_lc, w_esN, w_esC, w_oN, w_oS, seq_tup, seq_lst, w_iseq, w_r1, w_r2, w_enum, w_zip, w_zip3, lst_lst, w_add, w_sub, w_mul, w_fdiv, w_mod, w_pow, w_shr, w_lcat, w_tcat, w_neg, w_lt, w_le, w_gt, w_ge, w_eq, w_ne, w_ixt, w_ixl, w_len, w_lenT, w_abs, w_toint, w_totup, w_totupT, w_tolst, w_tolstT, w_divmod, w_min, w_max, w_isInt, w_isBool, w_isTup, w_lcm, w_set, w_bld, w_par, slot_f, slot_t, w_unp, w_appd, w_put, w_dput, w_dput2, w_frz, w_if, w_ret, w_retN, w_brk, w_cnt, w_pas, w_never, w_exp, w_init, w_nil, w_cons, w_for, w_forF, w_whl, wp_ok, wp_bad, tst_bl, asI_int, asV_val, asO_own, opt_some, get_0, get_s, Sl.put, begins, List.replicate, List.map_cons, List.map_nil, List.cons_append, List.nil_append, List.append_nil, List.length_cons, List.length_nil, Nat.reduceAdd, Nat.reduceSub, Nat.reduceLeDiff, List.replicate_succ, List.replicate_zero, true_and, and_true, decide_eq_true_eq, if_true, if_false, Bool.false_eq_true, ite_true, ite_false, decide_true, decide_false, Bool.not_true, Bool.not_false, Bool.not_eq_true', decide_eq_false_iff_not, w_fld, f_per, f_stps]
  refine ⟨⟨Nat.lt_trans (lg (by omega) (by omega)) (by decide), Nat.lt_trans (lg (by omega) (by omega)) (by decide)⟩, ?_⟩
  rw [← hL]
  refine w_many hq0 (by omega) hd (by omega) hkl ?_
  refine w_needF (by omega) ?_
  refine w_unr hq0 (by omega) hd Pg.ats.ne hk ?_
  simp only [w_esS, w_lc2, w_lc2S, w_r3, w_meth, methW_obj, w_stat, w_appE, appW_o, w_isObj, w_all, w_oo, w_oi, w_oinv, w_oneg, w_olt, w_ole, w_ogt, w_oge, w_oeq, w_rev, tgo_nm, tgo_tp2, tgo_tp3, Sl.wipe, w_var, w_int, w_bl, w_non, w_str, w_con, w_bin, w_un, w_cmp, w_and, w_or, w_one, w_not, w_ife, w_chain, w_isN, w_notN, w_tup, w_lst, w_ix, w_sl, w_call, w_blt, w_fld, w_new, w_app, w_dget, w_dict, w_oix, w_olen, w_lc, w_esN, w_esC, w_oN, w_oS, seq_tup, seq_lst, w_iseq, w_r1, w_r2, w_enum, w_zip, w_zip3, lst_lst, w_add, w_sub, w_mul, w_fdiv, w_mod, w_pow, w_shr, w_lcat, w_tcat, w_neg, w_lt, w_le, w_gt, w_ge, w_eq, w_ne, w_ixt, w_ixl, w_len, w_lenT, w_abs, w_toint, w_totup, w_totupT, w_tolst, w_tolstT, w_divmod, w_min, w_max, w_isInt, w_isBool, w_isTup, w_lcm, w_set, w_bld, w_par, slot_f, slot_t, w_unp, w_appd, w_put, w_dput, w_dput2, w_frz, w_if, w_ret, w_retN, w_brk, w_cnt, w_pas, w_never, w_exp, w_init, w_nil, w_cons, w_for, w_forF, w_whl, wp_ok, wp_bad, tst_bl, asI_int, asV_val, asO_own, opt_some, get_0, get_s, Sl.put, begins, List.replicate, List.map_cons, List.map_nil, List.cons_append, List.nil_append, List.append_nil, List.length_cons, List.length_nil, Nat.reduceAdd, Nat.reduceSub, Nat.reduceLeDiff, List.replicate_succ, List.replicate_zero, true_and, and_true, decide_eq_true_eq, if_true, if_false, Bool.false_eq_true, ite_true, ite_false, decide_true, decide_false, Bool.not_true, Bool.not_false, Bool.not_eq_true', decide_eq_false_iff_not]
  refine Out.wp_of (lc_prs (g := fun s => pr (s.1, val p l s.2)) fun s hs => ?_) ?_
  · obtain ⟨d, μ', e, h⟩ := Out.wp_iff.mp (show (lcStep P (run P fds (i + 5)) [3, 4] (.tp [3, 4]) .none (.tup (.cons (.var 3) (.cons (.call n__value_at (.cons (.var 0) (.cons (.var 4) .nil))) .nil))) [.val (.obj 0 [.int p, tp l]), .val (.obj 0 [.int q, tp k]), .val (.int L), .und, .und] (pr s) μ).wp fun o μ2 => o = some (pr (s.1, val p l s.2)) ∧ μ2 = μ by
      simp only [w_lcN, w_esS, w_lc2, w_lc2S, w_r3, w_meth, methW_obj, w_stat, w_appE, appW_o, w_isObj, w_all, w_oo, w_oi, w_oinv, w_oneg, w_olt, w_ole, w_ogt, w_oge, w_oeq, w_rev, tgo_nm, tgo_tp2, tgo_tp3, Sl.wipe, w_var, w_int, w_bl, w_non, w_str, w_con, w_bin, w_un, w_cmp, w_and, w_or, w_one, w_not, w_ife, w_chain, w_isN, w_notN, w_tup, w_lst, w_ix, w_sl, w_call, w_blt, w_fld, w_new, w_app, w_dget, w_dict, w_oix, w_olen, w_lc, w_esN, w_esC, w_oN, w_oS, seq_tup, seq_lst, w_iseq, w_r1, w_r2, w_enum, w_zip, w_zip3, lst_lst, w_add, w_sub, w_mul, w_fdiv, w_mod, w_pow, w_shr, w_lcat, w_tcat, w_neg, w_lt, w_le, w_gt, w_ge, w_eq, w_ne, w_ixt, w_ixl, w_len, w_lenT, w_abs, w_toint, w_totup, w_totupT, w_tolst, w_tolstT, w_divmod, w_min, w_max, w_isInt, w_isBool, w_isTup, w_lcm, w_set, w_bld, w_par, slot_f, slot_t, w_unp, w_appd, w_put, w_dput, w_dput2, w_frz, w_if, w_ret, w_retN, w_brk, w_cnt, w_pas, w_never, w_exp, w_init, w_nil, w_cons, w_for, w_forF, w_whl, wp_ok, wp_bad, tst_bl, asI_int, asV_val, asO_own, opt_some, get_0, get_s, Sl.put, begins, List.replicate, List.map_cons, List.map_nil, List.cons_append, List.nil_append, List.append_nil, List.length_cons, List.length_nil, Nat.reduceAdd, Nat.reduceSub, Nat.reduceLeDiff, List.replicate_succ, List.replicate_zero, true_and, and_true, decide_eq_true_eq, if_true, if_false, Bool.false_eq_true, ite_true, ite_false, decide_true, decide_false, Bool.not_true, Bool.not_false, Bool.not_eq_true', decide_eq_false_iff_not]
      obtain ⟨j, s', j1, j2, rfl⟩ := rows_mem hs
      have v := hv s' j2
      have m1 := mul_mono hq0 (show j ≤ n by omega)
      have m0 := mul_mono hq0 (Nat.zero_le j)
      rw [C.hn] at m1
      simp only [Int.natCast_zero, Int.zero_mul] at m0
      refine w_valAt Pf.ats hfl (by omega) (by dsimp only; omega) (by dsimp only; omega) ?_
      simp only [w_esS, w_lc2, w_lc2S, w_r3, w_meth, methW_obj, w_stat, w_appE, appW_o, w_isObj, w_all, w_oo, w_oi, w_oinv, w_oneg, w_olt, w_ole, w_ogt, w_oge, w_oeq, w_rev, tgo_nm, tgo_tp2, tgo_tp3, Sl.wipe, w_var, w_int, w_bl, w_non, w_str, w_con, w_bin, w_un, w_cmp, w_and, w_or, w_one, w_not, w_ife, w_chain, w_isN, w_notN, w_tup, w_lst, w_ix, w_sl, w_call, w_blt, w_fld, w_new, w_app, w_dget, w_dict, w_oix, w_olen, w_lc, w_esN, w_esC, w_oN, w_oS, seq_tup, seq_lst, w_iseq, w_r1, w_r2, w_enum, w_zip, w_zip3, lst_lst, w_add, w_sub, w_mul, w_fdiv, w_mod, w_pow, w_shr, w_lcat, w_tcat, w_neg, w_lt, w_le, w_gt, w_ge, w_eq, w_ne, w_ixt, w_ixl, w_len, w_lenT, w_abs, w_toint, w_totup, w_totupT, w_tolst, w_tolstT, w_divmod, w_min, w_max, w_isInt, w_isBool, w_isTup, w_lcm, w_set, w_bld, w_par, slot_f, slot_t, w_unp, w_appd, w_put, w_dput, w_dput2, w_frz, w_if, w_ret, w_retN, w_brk, w_cnt, w_pas, w_never, w_exp, w_init, w_nil, w_cons, w_for, w_forF, w_whl, wp_ok, wp_bad, tst_bl, asI_int, asV_val, asO_own, opt_some, get_0, get_s, Sl.put, begins, List.replicate, List.map_cons, List.map_nil, List.cons_append, List.nil_append, List.append_nil, List.length_cons, List.length_nil, Nat.reduceAdd, Nat.reduceSub, Nat.reduceLeDiff, List.replicate_succ, List.replicate_zero, true_and, and_true, decide_eq_true_eq, if_true, if_false, Bool.false_eq_true, ite_true, ite_false, decide_true, decide_false, Bool.not_true, Bool.not_false, Bool.not_eq_true', decide_eq_false_iff_not])
    rw [e, h.1, h.2]
  · rw [comp_steps Tg]
    simp only [w_esS, w_lc2, w_lc2S, w_r3, w_meth, methW_obj, w_stat, w_appE, appW_o, w_isObj, w_all, w_oo, w_oi, w_oinv, w_oneg, w_olt, w_ole, w_ogt, w_oge, w_oeq, w_rev, tgo_nm, tgo_tp2, tgo_tp3, Sl.wipe, w_var, w_int, w_bl, w_non, w_str, w_con, w_bin, w_un, w_cmp, w_and, w_or, w_one, w_not, w_ife, w_chain, w_isN, w_notN, w_tup, w_lst, w_ix, w_sl, w_call, w_blt, w_fld, w_new, w_app, w_dget, w_dict, w_oix, w_olen, w_lc, w_esN, w_esC, w_oN, w_oS, seq_tup, seq_lst, w_iseq, w_r1, w_r2, w_enum, w_zip, w_zip3, lst_lst, w_add, w_sub, w_mul, w_fdiv, w_mod, w_pow, w_shr, w_lcat, w_tcat, w_neg, w_lt, w_le, w_gt, w_ge, w_eq, w_ne, w_ixt, w_ixl, w_len, w_lenT, w_abs, w_toint, w_totup, w_totupT, w_tolst, w_tolstT, w_divmod, w_min, w_max, w_isInt, w_isBool, w_isTup, w_lcm, w_set, w_bld, w_par, slot_f, slot_t, w_unp, w_appd, w_put, w_dput, w_dput2, w_frz, w_if, w_ret, w_retN, w_brk, w_cnt, w_pas, w_never, w_exp, w_init, w_nil, w_cons, w_for, w_forF, w_whl, wp_ok, wp_bad, tst_bl, asI_int, asV_val, asO_own, opt_some, get_0, get_s, Sl.put, begins, List.replicate, List.map_cons, List.map_nil, List.cons_append, List.nil_append, List.append_nil, List.length_cons, List.length_nil, Nat.reduceAdd, Nat.reduceSub, Nat.reduceLeDiff, List.replicate_succ, List.replicate_zero, true_and, and_true, decide_eq_true_eq, if_true, if_false, Bool.false_eq_true, ite_true, ite_false, decide_true, decide_false, Bool.not_true, Bool.not_false, Bool.not_eq_true', decide_eq_false_iff_not, List.length_map, rows_len, p_init]
    refine ⟨by omega, ?_⟩
    refine w_newG G (by rw [List.length_map, rows_len]; exact hk) fun p' l' h1 h2 h3 h4 h5 => ?_
    simp only [newW_obj]
    exact ⟨trivial, h p' l' h1 h2 (by rw [List.length_map, rows_len] at h3; exact h3) (by rw [List.length_map, rows_len] at h4; exact h4) h5⟩
end Lw
set_option Elab.async false
set_option linter.all false
set_option maxRecDepth 100000
set_option maxHeartbeats 4000000
namespace Lw
open PySem L2 Vw
theorem asc_same : ∀ {A B : List Int}, A.Pairwise (· < ·) → B.Pairwise (· < ·) → (∀ x, x ∈ A ↔ x ∈ B) → A = B
  | [], [], _, _, _ => rfl
  | [], b :: B, _, _, h => absurd ((h b).mpr List.mem_cons_self) (by simp)
  | a :: A, [], _, _, h => absurd ((h a).mp List.mem_cons_self) (by simp)
  | a :: A, b :: B, pa, pb, h => by
    rw [List.pairwise_cons] at pa pb
    have e : a = b := by
      have h1 := (h a).mp List.mem_cons_self
      have h2 := (h b).mpr List.mem_cons_self
      rcases List.mem_cons.mp h1 with q | q
      · exact q
      · rcases List.mem_cons.mp h2 with r | r
        · exact r.symm
        · have := pa.1 b r
          have := pb.1 a q
          omega
    subst e
    rw [asc_same pa.2 pb.2 fun x => ⟨fun hx => ?_, fun hx => ?_⟩]
    · rcases List.mem_cons.mp ((h x).mp (List.mem_cons_of_mem _ hx)) with q | q
      · have := pa.1 x hx
        omega
      · exact q
    · rcases List.mem_cons.mp ((h x).mpr (List.mem_cons_of_mem _ hx)) with q | q
      · have := pb.1 x hx
        omega
      · exact q
theorem rise_least {p : Int} {l : List (Int × Int)} {F : Int → Int} (P : Pl p l) (hF : ∀ t, val p l t = F t) {d : Int} (hd : 0 < d) (per : ∀ t, F (t + d) = F t + d) : p ≤ d := by
  have perm : ∀ t, F (t - d) = F t - d := fun t => by
    have := per (t - d)
    rw [Int.sub_add_cancel] at this
    omega
  have J : ∀ i, F ((stp p l i).1 - 1) ≠ F (stp p l i).1 ∧ F (stp p l i).1 = (stp p l i).2 := fun i => by
    have := idx_jump P i
    rw [hF, hF] at this
    exact this
  have jump : ∀ t, F (t - 1) ≠ F t → ∃ i, t = (stp p l i).1 := fun t h => jump_idx P.ats (by rw [hF, hF]; exact h)
  have up : ∀ i, ∃ j, (stp p l i).1 + d = (stp p l j).1 := fun i => jump _ (by
    have h := (J i).1
    rw [show (stp p l i).1 + d - 1 = (stp p l i).1 - 1 + d by omega, per, per]
    omega)
  have down : ∀ i, ∃ j, (stp p l i).1 = (stp p l j).1 + d := fun i => by
    obtain ⟨j, hj⟩ := jump ((stp p l i).1 - d) (by
      have h := (J i).1
      rw [show (stp p l i).1 - d - 1 = (stp p l i).1 - 1 - d by omega, perm, perm]
      omega)
    exact ⟨j, by omega⟩
  obtain ⟨m, hm⟩ := up 0
  have hm0 : 0 < m := by
    refine Int.not_le.mp fun hle => ?_
    have := stp_mono P.ats m (0 - m).toNat
    rw [Int.toNat_of_nonneg (by omega), show m + (0 - m) = 0 by omega] at this
    omega
  have e1 := rows_same (a := fun i => (stp p l (i + m)).1) (b := fun i => (stp p l i).1 + d) (fun i => by
      have := stp_next P.ats (i + m)
      rw [show i + m + 1 = i + 1 + m by omega] at this
      exact this) (fun i => by have := stp_next P.ats i; omega) (fun i => down (i + m)) (fun i => by
      obtain ⟨j, hj⟩ := up i
      exact ⟨j - m, by rw [hj, Int.sub_add_cancel]⟩) (by rw [Int.zero_add]; exact hm.symm)
  have e2 : ∀ i, stp p l (i + (m.toNat : Int)) = ((stp p l i).1 + d, (stp p l i).2 + d) := fun i => by
    rw [Int.toNat_of_nonneg (Int.le_of_lt hm0)]
    have x := e1 i
    refine Prod.ext x ?_
    dsimp only
    rw [← (J (i + m)).2, x, per, (J i).2]
  have le := P.least m.toNat d (by omega) e2
  have s1 := stp_per (p := p) P.ats.ne 0
  have s2 := stp_mono P.ats (0 + (l.length : Int)) (m.toNat - l.length)
  rw [s1, show 0 + (l.length : Int) + ((m.toNat - l.length : Nat) : Int) = m by omega, ← hm] at s2
  dsimp only at s2
  omega
theorem pers_int {F : Int → Int} {L : Int} (per : ∀ t, F (t + L) = F t + L) (T : Int) (t : Int) : F (t + T * L) = F t + T * L := by
  have nat : ∀ (n : Nat) (t : Int), F (t + (n : Int) * L) = F t + (n : Int) * L := fun n => by
    induction n with
    | zero => intro t; simp
    | succ n ih =>
      intro t
      rw [show ((n + 1 : Nat) : Int) = (n : Int) + 1 by omega, Int.add_mul, Int.one_mul, ← Int.add_assoc, per, ih]
      omega
  rcases Int.le_total 0 T with h | h
  · have := nat T.toNat t
    rw [Int.toNat_of_nonneg h] at this
    exact this
  · have := nat (0 - T).toNat (t + T * L)
    rw [Int.toNat_of_nonneg (by omega), show t + T * L + (0 - T) * L = t by rw [Int.sub_mul]; omega, Int.sub_mul] at this
    omega
theorem per_rises {F : Int → Int} {n d : Nat} (hn : 0 < n) (hd : 0 < d) (per : ∀ t, F (t + (n : Int)) = F t + (n : Int)) (hdn : n % d = 0) (h : ∀ t : Nat, t < n → F (t : Int) - F ((t : Int) - 1) = F ((t % d : Nat) : Int) - F (((t % d : Nat) : Int) - 1)) : ∀ t, F (t + (d : Int)) = F t + (d : Int) := by
  have pers : ∀ T t : Int, F (t + T * (n : Int)) = F t + T * (n : Int) := fun T t => pers_int per T t
  have R : ∀ t : Int, F (t + d) - F (t + d - 1) = F t - F (t - 1) := fun t => by
    obtain ⟨T, r, hr, rfl⟩ := idx_split n hn t
    have k1 := pers T (r : Int)
    have k2 := pers T ((r : Int) - 1)
    have k3 := pers T ((r : Int) + d)
    have k4 := pers T ((r : Int) + d - 1)
    have hh := h r hr
    rw [show T * (n : Int) + (r : Int) = (r : Int) + T * (n : Int) by omega, show (r : Int) + T * (n : Int) + (d : Int) = (r : Int) + d + T * (n : Int) by omega, show (r : Int) + d + T * (n : Int) - 1 = (r : Int) + d - 1 + T * (n : Int) by omega, show (r : Int) + T * (n : Int) - 1 = (r : Int) - 1 + T * (n : Int) by omega, k1, k2, k3, k4]
    suffices z : F ((r : Int) + d) - F ((r : Int) + d - 1) = F (r : Int) - F ((r : Int) - 1) by omega
    by_cases hlt : r + d < n
    · have h2 := h (r + d) hlt
      rw [Nat.add_mod_right] at h2
      rw [show ((r : Int) + d) = ((r + d : Nat) : Int) by omega]
      omega
    · have dn : d ≤ n := Nat.le_of_dvd hn (Nat.dvd_of_mod_eq_zero hdn)
      have h2 := h (r + d - n) (by omega)
      have e : (r + d - n) % d = r % d := by
        have : (r + d - n + n) % d = (r + d - n) % d := by rw [Nat.add_mod, hdn, Nat.add_zero, Nat.mod_mod]
        rw [← this, Nat.sub_add_cancel (by omega), Nat.add_mod_right]
      rw [e] at h2
      have q1 := per ((r + d - n : Nat) : Int)
      have q2 := per (((r + d - n : Nat) : Int) - 1)
      rw [show ((r + d - n : Nat) : Int) + n = (r : Int) + d by omega] at q1
      rw [show ((r + d - n : Nat) : Int) - 1 + n = (r : Int) + d - 1 by omega] at q2
      omega
  have up : ∀ (k : Nat) (t : Int), F (t + k + d) - F (t + k) = F (t + d) - F t := fun k => by
    induction k with
    | zero => intro t; rw [show t + ((0 : Nat) : Int) = t by omega]
    | succ k ih =>
      intro t
      have := R (t + k + 1)
      have := ih t
      rw [show t + k + 1 - 1 = t + (k : Int) by omega, show t + k + 1 + d - 1 = t + k + (d : Int) by omega] at *
      rw [show t + ((k + 1 : Nat) : Int) = t + k + 1 by omega]
      omega
  obtain ⟨q, hq⟩ := Nat.dvd_of_mod_eq_zero hdn
  have C : ∀ s t : Int, F (t + d) - F t = F (s + d) - F s := fun s t => by
    rcases Int.le_total s t with z | z
    · have := up (t - s).toNat s
      rw [Int.toNat_of_nonneg (by omega), show s + (t - s) = t by omega] at this
      exact this
    · have := up (s - t).toNat t
      rw [Int.toNat_of_nonneg (by omega), show t + (s - t) = s by omega] at this
      exact this.symm
  intro t
  have many : ∀ k : Nat, F (t + (k : Int) * d) = F t + (k : Int) * (F (t + d) - F t) := fun k => by
    induction k with
    | zero => simp
    | succ k ih =>
      have c := C t (t + (k : Int) * d)
      rw [show ((k + 1 : Nat) : Int) = (k : Int) + 1 by omega, Int.add_mul, Int.add_mul, Int.one_mul, Int.one_mul, ← Int.add_assoc]
      omega
  have m := many q
  rw [show (q : Int) * (d : Int) = (n : Int) by rw [hq, Int.natCast_mul, Int.mul_comm], per] at m
  have q0 : 0 < q := Nat.pos_of_ne_zero fun e => by rw [e, Nat.mul_zero] at hq; omega
  have e : (q : Int) * (F (t + d) - F t) = (q : Int) * (d : Int) := by
    rw [show (q : Int) * (d : Int) = (n : Int) by rw [hq, Int.natCast_mul, Int.mul_comm]]
    omega
  have := Int.eq_of_mul_eq_mul_left (show (q : Int) ≠ 0 by omega) e
  omega
theorem row_val {p : Int} {l : List (Int × Int)} (Q : Pl p l) {s : Int × Int} (h : s ∈ l) : val p l s.1 = s.2 ∧ val p l (s.1 - 1) ≠ val p l s.1 := by
  obtain ⟨r, hr, rfl⟩ := List.mem_iff_getElem.mp h
  have e := stp_at (p := p) (T := 0) hr
  simp only [Int.zero_mul, Int.zero_add, Int.add_zero] at e
  have := idx_jump Q (r : Int)
  rw [e] at this
  exact ⟨this.2, this.1⟩
theorem steps_rises {p : Int} {l : List (Int × Int)} {F : Int → Int} (P : Pl p l) (hF : ∀ t, val p l t = F t) : ((List.range p.toNat).filter fun (t : Nat) => decide (F (t : Int) - F ((t : Int) - 1) ≠ 0)).map (fun (t : Nat) => ((t : Int), F (t : Int))) = l := by
  have hp := P.ats.pos
  have e1 : ((List.range p.toNat).filter fun (t : Nat) => decide (F (t : Int) - F ((t : Int) - 1) ≠ 0)).map (fun (t : Nat) => (t : Int)) = l.map (·.1) := by
    refine asc_same ?_ (List.pairwise_map.mpr (asc_pw P.ats.up)) fun x => ?_
    · refine List.pairwise_map.mpr ((List.pairwise_lt_range.filter _).imp fun {a b} h => ?_)
      omega
    · simp only [List.mem_map, List.mem_filter, List.mem_range, decide_eq_true_eq]
      constructor
      · rintro ⟨t, ⟨h1, h2⟩, rfl⟩
        obtain ⟨i, hi⟩ := jump_idx P.ats (t := (t : Int)) (by rw [hF, hF]; omega)
        have m := stp_mod P.ats i
        rw [← hi, Int.emod_eq_of_lt (by omega) (by omega)] at m
        exact List.mem_map.mp m
      · rintro ⟨q, hq, rfl⟩
        obtain ⟨r, hr, e⟩ := List.mem_iff_getElem.mp hq
        have lo := P.ats.low r hr
        have hi := P.ats.high r hr
        rw [e] at lo hi
        have j := (row_val P hq).2
        rw [hF, hF] at j
        refine ⟨q.1.toNat, ⟨by omega, ?_⟩, by omega⟩
        rw [Int.toNat_of_nonneg lo]
        omega
  have e2 : l = (l.map (·.1)).map fun a => (a, F a) := by
    rw [List.map_map]
    refine (List.map_id _).symm.trans (List.map_congr_left fun q hq => ?_)
    have := (row_val P hq).1
    rw [hF] at this
    exact Prod.ext rfl this.symm
  rw [e2, ← e1, List.map_map]
  rfl
section
variable {μ : Mu} {Q : List D → Mu → Prop} {f : D → Mu → Out (Option D)}
theorem lc_X {α : Type} {it : α → D} {g : α → Option D} : ∀ {l : List α}, (∀ a ∈ l, (f (it a) μ).wp fun o μ' => o = g a ∧ μ' = μ) → lcgo f (l.map it) μ = .ok (l.filterMap g) μ
  | [], _ => rfl
  | a :: l, hs => by
    obtain ⟨o, μ', e, h1, h2⟩ := Out.wp_iff.mp (hs a List.mem_cons_self)
    rw [h1, h2] at e
    have ih := lc_X (it := it) (g := g) (l := l) fun b hb => hs b (List.mem_cons_of_mem _ hb)
    rw [List.map_cons]
    unfold lcgo
    rw [e, Out.bind_ok, ih, Out.bind_ok, List.filterMap_cons]
    cases g a <;> rfl
theorem w_lcX {α : Type} {it : α → D} {g : α → Option D} {l : List α} (hs : ∀ a ∈ l, (f (it a) μ).wp fun o μ' => o = g a ∧ μ' = μ) (q : Q (l.filterMap g) μ) : (lcgo f (l.map it) μ).wp Q := Out.wp_of (lc_X hs) q
theorem fm_if {α β : Type} {c : α → Bool} {g : α → β} : ∀ l : List α, l.filterMap (fun a => if c a then some (g a) else none) = (l.filter c).map g
  | [] => rfl
  | a :: l => by
    rw [List.filterMap_cons, List.filter_cons]
    by_cases h : c a = true
    · rw [if_pos h, if_pos h, List.map_cons, fm_if l]
    · rw [if_neg h, if_neg h, fm_if l]
theorem w_lcM {α : Type} {it : α → D} {g : α → D} {l : List α} (hs : ∀ a ∈ l, (f (it a) μ).wp fun o μ' => o = some (g a) ∧ μ' = μ) (q : Q (l.map g) μ) : (lcgo f (l.map it) μ).wp Q :=
  w_lcX (g := fun a => some (g a)) hs (by rw [← List.filterMap_eq_map] at q; exact q)
theorem w_lcF {α : Type} {it : α → D} {c : α → Bool} {g : α → D} {l : List α} (hs : ∀ a ∈ l, (f (it a) μ).wp fun o μ' => o = (if c a then some (g a) else none) ∧ μ' = μ) (q : Q ((l.filter c).map g) μ) : (lcgo f (l.map it) μ).wp Q :=
  w_lcX (g := fun a => if c a then some (g a) else none) hs (by rw [fm_if]; exact q)
theorem w_lcR {lo : Int} {n : Nat} {g : Nat → D} (hs : ∀ i, i < n → (f (.int (lo + (i : Int))) μ).wp fun o μ' => o = some (g i) ∧ μ' = μ) (q : Q ((List.range n).map g) μ) : (lcgo f (rngs lo n 1) μ).wp Q :=
  w_lcM (it := fun (i : Nat) => D.int (lo + (i : Int) * 1)) (fun i hi => by rw [Int.mul_one]; exact hs i (List.mem_range.mp hi)) q
theorem w_lcRF {lo : Int} {n : Nat} {c : Nat → Bool} {g : Nat → D} (hs : ∀ i, i < n → (f (.int (lo + (i : Int))) μ).wp fun o μ' => o = (if c i then some (g i) else none) ∧ μ' = μ) (q : Q (((List.range n).filter c).map g) μ) : (lcgo f (rngs lo n 1) μ).wp Q :=
  w_lcF (it := fun (i : Nat) => D.int (lo + (i : Int) * 1)) (fun i hi => by rw [Int.mul_one]; exact hs i (List.mem_range.mp hi)) q
end
section
variable {Γ : Gam} {μ : Mu} {Q : D → Mu → Prop}
theorem w_eqI {x y : List Int} : (cop Lw.P Γ .Eq (.lst (x.map D.int)) (.lst (y.map D.int)) μ).wp Q ↔ Q (.bl (decide (x = y))) μ := by
  show Out.wp (match deq (.lst (x.map .int)) (.lst (y.map .int)) with | some k => .ok (.bl k) μ | none => .bad) Q ↔ _
  rw [deq_ints]; exact Iff.rfl
end
end Lw
set_option Elab.async false
set_option linter.all false
set_option maxRecDepth 100000
set_option maxHeartbeats 4000000
namespace Lw
open PySem L2 Vw
theorem w_told {k : Nat} {μ : Mu} {p : Int} {l : List (Int × Int)} {Q : D → Mu → Prop} (h : Q (.tup [.int p, tp l]) μ) : (run Lw.P fds (k + 2) n__law_told [obj p l] μ).wp Q := by
  refine wp_run rfl rfl ?_
  show (exss Lw.P _ b__law_told [.val (obj p l)] _).wp _ _ _ _
  simp only [b__law_told, w_esS, w_lc2, w_lc2S, w_r3, w_meth, methW_obj, w_stat, w_appE, appW_o, w_isObj, w_all, w_oo, w_oi, w_oinv, w_oneg, w_olt, w_ole, w_ogt, w_oge, w_oeq, w_rev, tgo_nm, tgo_tp2, tgo_tp3, Sl.wipe, w_var, w_int, w_bl, w_non, w_str, w_con, w_bin, w_un, w_cmp, w_and, w_or, w_one, w_not, w_ife, w_chain, w_isN, w_notN, w_tup, w_lst, w_ix, w_sl, w_call, w_blt, w_fld, w_new, w_app, w_dget, w_dict, w_oix, w_olen, w_lc, w_esN, w_esC, w_oN, w_oS, seq_tup, seq_lst, w_iseq, w_r1, w_r2, w_enum, w_zip, w_zip3, lst_lst, w_add, w_sub, w_mul, w_fdiv, w_mod, w_pow, w_shr, w_lcat, w_tcat, w_neg, w_lt, w_le, w_gt, w_ge, w_eq, w_ne, w_ixt, w_ixl, w_len, w_lenT, w_abs, w_toint, w_totup, w_totupT, w_tolst, w_tolstT, w_divmod, w_min, w_max, w_isInt, w_isBool, w_isTup, w_lcm, w_set, w_bld, w_par, slot_f, slot_t, w_unp, w_appd, w_put, w_dput, w_dput2, w_frz, w_if, w_ret, w_retN, w_brk, w_cnt, w_pas, w_never, w_exp, w_init, w_nil, w_cons, w_for, w_forF, w_whl, wp_ok, wp_bad, tst_bl, asI_int, asV_val, asO_own, opt_some, get_0, get_s, Sl.put, begins, List.replicate, List.map_cons, List.map_nil, List.cons_append, List.nil_append, List.append_nil, List.length_cons, List.length_nil, Nat.reduceAdd, Nat.reduceSub, Nat.reduceLeDiff, List.replicate_succ, List.replicate_zero, true_and, and_true, decide_eq_true_eq, if_true, if_false, Bool.false_eq_true, ite_true, ite_false, decide_true, decide_false, Bool.not_true, Bool.not_false, Bool.not_eq_true', decide_eq_false_iff_not, f_per, f_stps]
  exact h
theorem rng_at {F : Int → Int} {n : Nat} {i : Int} (h0 : 0 ≤ i) (h : i < n) : at? ((List.range n).map fun (t : Nat) => D.int (F t)) i = some (.int (F i)) := by
  have e := at_nat (l := (List.range n).map fun (t : Nat) => D.int (F t)) (i := i.toNat) (by simp; omega)
  rw [Int.toNat_of_nonneg h0] at e
  rw [e]
  simp only [List.getElem_map, List.getElem_range]
  rw [Int.toNat_of_nonneg h0]
theorem rng_last {F : Int → Int} {n : Nat} (h : 0 < n) : at? ((List.range n).map fun (t : Nat) => D.int (F t)) (-1) = some (.int (F ((n : Int) - 1))) := by
  have hne : ((List.range n).map fun (t : Nat) => D.int (F t)) ≠ [] := by
    intro e
    have := congrArg List.length e
    simp at this
    omega
  rw [last_at hne, List.getLast_eq_getElem]
  simp only [List.getElem_map, List.getElem_range, List.length_map, List.length_range]
  rw [show ((n - 1 : Nat) : Int) = (n : Int) - 1 by omega]
theorem flat_get {α : Type} {x : List α} (hx : 0 < x.length) : ∀ (k t : Nat), t < k * x.length → (List.replicate k x).flatten[t]? = x[t % x.length]?
  | 0, t, h => by simp at h
  | k + 1, t, h => by
    rw [List.replicate_succ, List.flatten_cons]
    by_cases ht : t < x.length
    · rw [List.getElem?_append_left ht, Nat.mod_eq_of_lt ht]
    · rw [List.getElem?_append_right (by omega), flat_get hx k (t - x.length) (by rw [Nat.succ_mul] at h; omega), ← Nat.mod_eq_sub_mod (by omega)]
theorem flat_len {α : Type} {x : List α} : ∀ k : Nat, (List.replicate k x).flatten.length = k * x.length
  | 0 => by simp
  | k + 1 => by rw [List.replicate_succ, List.flatten_cons, List.length_append, flat_len k, Nat.succ_mul]; omega
theorem flat_map {x : List Int} : ∀ k : Nat, (List.replicate k (x.map D.int)).flatten = ((List.replicate k x).flatten).map D.int
  | 0 => rfl
  | k + 1 => by rw [List.replicate_succ, List.replicate_succ, List.flatten_cons, List.flatten_cons, List.map_append, flat_map k]
theorem rep_iff {x : List Int} {d : Nat} (hd : 0 < d) (hx : 0 < x.length) (hm : x.length % d = 0) : x = (List.replicate (x.length / d) (x.take d)).flatten ↔ ∀ t, t < x.length → x[t]? = x[t % d]? := by
  have dn : d ≤ x.length := Nat.le_of_dvd hx (Nat.dvd_of_mod_eq_zero hm)
  have tl : (x.take d).length = d := by rw [List.length_take]; omega
  have hk : x.length / d * d = x.length := Nat.div_mul_cancel (Nat.dvd_of_mod_eq_zero hm)
  have G : ∀ t, t < x.length → (List.replicate (x.length / d) (x.take d)).flatten[t]? = x[t % d]? := fun t ht => by
    rw [flat_get (by rw [tl]; exact hd) _ _ (by rw [tl, hk]; exact ht), tl, List.getElem?_take_of_lt (Nat.mod_lt _ hd)]
  constructor
  · intro e t ht
    have := G t ht
    rw [← e] at this
    exact this
  · intro e
    refine List.ext_getElem? fun t => ?_
    by_cases ht : t < x.length
    · rw [e t ht, G t ht]
    · rw [List.getElem?_eq_none (by omega), List.getElem?_eq_none (by rw [flat_len, tl, hk]; omega)]
section
variable {Γ : Gam} {μ : Mu} {Q : D → Mu → Prop}
theorem w_ltimes {x : List D} {k : Int} : (bop Lw.P Γ .Mult (.lst x) (.int k) μ).wp Q ↔ (0 ≤ k ∧ k < 2 ^ 62 ∧ x.length * k.toNat ≤ cap) ∧ Q (.lst (List.replicate k.toNat x).flatten) μ := by
  simp only [bop, wp_if, wp_ok, true_and]
theorem w_cutT {x : List D} {d : Nat} (h : d ≤ x.length) : (slop (.lst x) none (some (.int (d : Int))) μ).wp Q ↔ Q (.lst (x.take d)) μ := by
  show Q (.lst (cut x none (some (d : Int)))) μ ↔ _
  rw [cut_take h]
end
theorem w_lawplain {k : Nat} {μ : Mu} {p : Int} {l : List (Int × Int)} {F : Int → Int} {n r : Nat} {Q : D → Mu → Prop} (P0 : Pl p l) (hF : ∀ t, val p l t = F t) (hr : 0 < r) (hn : (r : Int) * p = (n : Int)) (hn2 : n ≤ 100000) (h : Q (.tup [.int p, tp l]) μ) :
    (run Lw.P fds (k + 1) n__law_plain [.lst ((List.range n).map fun (t : Nat) => .int (F t))] μ).wp Q := by
  have hp := P0.ats.pos
  have n0 : 0 < n := by
    have := Int.mul_pos (show (0 : Int) < r by omega) hp
    omega
  have per : ∀ t, F (t + (n : Int)) = F t + (n : Int) := fun t => by
    have := val_pers (t := t) P0.ats r
    rw [hn, hF, hF] at this
    exact this
  refine wp_run rfl rfl ?_
  show (exss Lw.P _ b__law_plain [.val (.lst ((List.range n).map fun (t : Nat) => .int (F t))), .und, .und, .und, .und] _).wp _ _ _ _
  simp only [b__law_plain, w_esS, w_lc2, w_lc2S, w_r3, w_meth, methW_obj, w_stat, w_appE, appW_o, w_isObj, w_all, w_oo, w_oi, w_oinv, w_oneg, w_olt, w_ole, w_ogt, w_oge, w_oeq, w_rev, tgo_nm, tgo_tp2, tgo_tp3, Sl.wipe, w_var, w_int, w_bl, w_non, w_str, w_con, w_bin, w_un, w_cmp, w_and, w_or, w_one, w_not, w_ife, w_chain, w_isN, w_notN, w_tup, w_lst, w_ix, w_sl, w_call, w_blt, w_fld, w_new, w_app, w_dget, w_dict, w_oix, w_olen, w_lc, w_esN, w_esC, w_oN, w_oS, seq_tup, seq_lst, w_iseq, w_r1, w_r2, w_enum, w_zip, w_zip3, lst_lst, w_add, w_sub, w_mul, w_fdiv, w_mod, w_pow, w_shr, w_lcat, w_tcat, w_neg, w_lt, w_le, w_gt, w_ge, w_eq, w_ne, w_ixt, w_ixl, w_len, w_lenT, w_abs, w_toint, w_totup, w_totupT, w_tolst, w_tolstT, w_divmod, w_min, w_max, w_isInt, w_isBool, w_isTup, w_lcm, w_set, w_bld, w_par, slot_f, slot_t, w_unp, w_appd, w_put, w_dput, w_dput2, w_frz, w_if, w_ret, w_retN, w_brk, w_cnt, w_pas, w_never, w_exp, w_init, w_nil, w_cons, w_for, w_forF, w_whl, wp_ok, wp_bad, tst_bl, asI_int, asV_val, asO_own, opt_some, get_0, get_s, Sl.put, begins, List.replicate, List.map_cons, List.map_nil, List.cons_append, List.nil_append, List.append_nil, List.length_cons, List.length_nil, Nat.reduceAdd, Nat.reduceSub, Nat.reduceLeDiff, List.replicate_succ, List.replicate_zero, true_and, and_true, decide_eq_true_eq, if_true, if_false, Bool.false_eq_true, ite_true, ite_false, decide_true, decide_false, Bool.not_true, Bool.not_false, Bool.not_eq_true', decide_eq_false_iff_not, List.length_map, List.length_range, Int.toNat_natCast]
  refine w_lcR (g := fun (i : Nat) => D.int (F i - F ((i : Int) - 1))) (fun i hi => ?_) ?_
  · have i0 : (0 : Int) ≤ (i : Int) := by omega
    simp only [w_lcN, w_esS, w_lc2, w_lc2S, w_r3, w_meth, methW_obj, w_stat, w_appE, appW_o, w_isObj, w_all, w_oo, w_oi, w_oinv, w_oneg, w_olt, w_ole, w_ogt, w_oge, w_oeq, w_rev, tgo_nm, tgo_tp2, tgo_tp3, Sl.wipe, w_var, w_int, w_bl, w_non, w_str, w_con, w_bin, w_un, w_cmp, w_and, w_or, w_one, w_not, w_ife, w_chain, w_isN, w_notN, w_tup, w_lst, w_ix, w_sl, w_call, w_blt, w_fld, w_new, w_app, w_dget, w_dict, w_oix, w_olen, w_lc, w_esN, w_esC, w_oN, w_oS, seq_tup, seq_lst, w_iseq, w_r1, w_r2, w_enum, w_zip, w_zip3, lst_lst, w_add, w_sub, w_mul, w_fdiv, w_mod, w_pow, w_shr, w_lcat, w_tcat, w_neg, w_lt, w_le, w_gt, w_ge, w_eq, w_ne, w_ixt, w_ixl, w_len, w_lenT, w_abs, w_toint, w_totup, w_totupT, w_tolst, w_tolstT, w_divmod, w_min, w_max, w_isInt, w_isBool, w_isTup, w_lcm, w_set, w_bld, w_par, slot_f, slot_t, w_unp, w_appd, w_put, w_dput, w_dput2, w_frz, w_if, w_ret, w_retN, w_brk, w_cnt, w_pas, w_never, w_exp, w_init, w_nil, w_cons, w_for, w_forF, w_whl, wp_ok, wp_bad, tst_bl, asI_int, asV_val, asO_own, opt_some, get_0, get_s, Sl.put, begins, List.replicate, List.map_cons, List.map_nil, List.cons_append, List.nil_append, List.append_nil, List.length_cons, List.length_nil, Nat.reduceAdd, Nat.reduceSub, Nat.reduceLeDiff, List.replicate_succ, List.replicate_zero, true_and, and_true, decide_eq_true_eq, if_true, if_false, Bool.false_eq_true, ite_true, ite_false, decide_true, decide_false, Bool.not_true, Bool.not_false, Bool.not_eq_true', decide_eq_false_iff_not, Int.zero_add, rng_at i0 (show (i : Int) < n by omega)]
    by_cases hz : 0 < (i : Int)
    · rw [if_pos hz]
      simp only [w_esS, w_lc2, w_lc2S, w_r3, w_meth, methW_obj, w_stat, w_appE, appW_o, w_isObj, w_all, w_oo, w_oi, w_oinv, w_oneg, w_olt, w_ole, w_ogt, w_oge, w_oeq, w_rev, tgo_nm, tgo_tp2, tgo_tp3, Sl.wipe, w_var, w_int, w_bl, w_non, w_str, w_con, w_bin, w_un, w_cmp, w_and, w_or, w_one, w_not, w_ife, w_chain, w_isN, w_notN, w_tup, w_lst, w_ix, w_sl, w_call, w_blt, w_fld, w_new, w_app, w_dget, w_dict, w_oix, w_olen, w_lc, w_esN, w_esC, w_oN, w_oS, seq_tup, seq_lst, w_iseq, w_r1, w_r2, w_enum, w_zip, w_zip3, lst_lst, w_add, w_sub, w_mul, w_fdiv, w_mod, w_pow, w_shr, w_lcat, w_tcat, w_neg, w_lt, w_le, w_gt, w_ge, w_eq, w_ne, w_ixt, w_ixl, w_len, w_lenT, w_abs, w_toint, w_totup, w_totupT, w_tolst, w_tolstT, w_divmod, w_min, w_max, w_isInt, w_isBool, w_isTup, w_lcm, w_set, w_bld, w_par, slot_f, slot_t, w_unp, w_appd, w_put, w_dput, w_dput2, w_frz, w_if, w_ret, w_retN, w_brk, w_cnt, w_pas, w_never, w_exp, w_init, w_nil, w_cons, w_for, w_forF, w_whl, wp_ok, wp_bad, tst_bl, asI_int, asV_val, asO_own, opt_some, get_0, get_s, Sl.put, begins, List.replicate, List.map_cons, List.map_nil, List.cons_append, List.nil_append, List.append_nil, List.length_cons, List.length_nil, Nat.reduceAdd, Nat.reduceSub, Nat.reduceLeDiff, List.replicate_succ, List.replicate_zero, true_and, and_true, decide_eq_true_eq, if_true, if_false, Bool.false_eq_true, ite_true, ite_false, decide_true, decide_false, Bool.not_true, Bool.not_false, Bool.not_eq_true', decide_eq_false_iff_not, rng_at (show 0 ≤ (i : Int) - 1 by omega) (show (i : Int) - 1 < n by omega)]
    · rw [if_neg hz]
      simp only [w_esS, w_lc2, w_lc2S, w_r3, w_meth, methW_obj, w_stat, w_appE, appW_o, w_isObj, w_all, w_oo, w_oi, w_oinv, w_oneg, w_olt, w_ole, w_ogt, w_oge, w_oeq, w_rev, tgo_nm, tgo_tp2, tgo_tp3, Sl.wipe, w_var, w_int, w_bl, w_non, w_str, w_con, w_bin, w_un, w_cmp, w_and, w_or, w_one, w_not, w_ife, w_chain, w_isN, w_notN, w_tup, w_lst, w_ix, w_sl, w_call, w_blt, w_fld, w_new, w_app, w_dget, w_dict, w_oix, w_olen, w_lc, w_esN, w_esC, w_oN, w_oS, seq_tup, seq_lst, w_iseq, w_r1, w_r2, w_enum, w_zip, w_zip3, lst_lst, w_add, w_sub, w_mul, w_fdiv, w_mod, w_pow, w_shr, w_lcat, w_tcat, w_neg, w_lt, w_le, w_gt, w_ge, w_eq, w_ne, w_ixt, w_ixl, w_len, w_lenT, w_abs, w_toint, w_totup, w_totupT, w_tolst, w_tolstT, w_divmod, w_min, w_max, w_isInt, w_isBool, w_isTup, w_lcm, w_set, w_bld, w_par, slot_f, slot_t, w_unp, w_appd, w_put, w_dput, w_dput2, w_frz, w_if, w_ret, w_retN, w_brk, w_cnt, w_pas, w_never, w_exp, w_init, w_nil, w_cons, w_for, w_forF, w_whl, wp_ok, wp_bad, tst_bl, asI_int, asV_val, asO_own, opt_some, get_0, get_s, Sl.put, begins, List.replicate, List.map_cons, List.map_nil, List.cons_append, List.nil_append, List.append_nil, List.length_cons, List.length_nil, Nat.reduceAdd, Nat.reduceSub, Nat.reduceLeDiff, List.replicate_succ, List.replicate_zero, true_and, and_true, decide_eq_true_eq, if_true, if_false, Bool.false_eq_true, ite_true, ite_false, decide_true, decide_false, Bool.not_true, Bool.not_false, Bool.not_eq_true', decide_eq_false_iff_not, rng_last n0]
      have e : (i : Int) = 0 := by omega
      have := per (-1)
      rw [show (-1 : Int) + (n : Int) = (n : Int) - 1 by omega] at this
      rw [e, this]
      simp
  · rw [show ((n : Int) + 1 - 1).toNat = n by omega]
    have hx : ((List.range n).map fun (i : Nat) => D.int (F i - F ((i : Int) - 1))) = ((List.range n).map fun (i : Nat) => F i - F ((i : Int) - 1)).map D.int := by rw [List.map_map]; rfl
    rw [hx, List.length_map, List.length_map, List.length_range]
    generalize hX : ((List.range n).map fun (i : Nat) => F i - F ((i : Int) - 1)) = X
    have xl : X.length = n := by rw [← hX, List.length_map, List.length_range]
    have xa : ∀ t, t < n → X[t]? = some (F (t : Int) - F ((t : Int) - 1)) := fun t ht => by
      rw [← hX, List.getElem?_map, List.getElem?_range ht]; rfl
    refine ⟨by omega, ?_⟩
    refine for_inv (fun items ρ μ' => ∃ (j : Nat) (x y : Sl), j + items.length = n ∧ (j : Int) < p ∧ items = (List.range' j items.length).map (fun (i : Nat) => D.int (1 + (i : Int))) ∧ ρ = [.val (.lst ((List.range n).map fun (t : Nat) => .int (F t))), .val (.int n), .val (.lst (X.map D.int)), x, y] ∧ μ' = μ) ?step ?done ?init
    case init => exact ⟨0, .und, .und, by rw [rngs_len]; omega, by omega, by rw [rngs_len, rngs_eq], rfl, rfl⟩
    case done =>
      rintro ρ μ' ⟨j, x, y, e1, e2, e3, rfl, rfl⟩
      simp only [List.length_nil] at e1
      have : (1 : Int) * p ≤ (r : Int) * p := Int.mul_le_mul_of_nonneg_right (by omega) (by omega)
      omega
    case step =>
      rintro it ds ρ μ' ⟨j, x, y, e1, e2, e3, rfl, rfl⟩
      rw [List.length_cons] at e1
      rw [List.length_cons, List.range'_succ, List.map_cons] at e3
      obtain ⟨rfl, e4⟩ := List.cons.inj e3
      have ej : (1 : Int) + (j : Int) = ((j + 1 : Nat) : Int) := by omega
      rw [ej]
      have dl : j + 1 ≤ (X.map D.int).length := by rw [List.length_map, xl]; omega
      simp only [w_esS, w_lc2, w_lc2S, w_r3, w_meth, methW_obj, w_stat, w_appE, appW_o, w_isObj, w_all, w_oo, w_oi, w_oinv, w_oneg, w_olt, w_ole, w_ogt, w_oge, w_oeq, w_rev, tgo_nm, tgo_tp2, tgo_tp3, Sl.wipe, w_var, w_int, w_bl, w_non, w_str, w_con, w_bin, w_un, w_cmp, w_and, w_or, w_one, w_not, w_ife, w_chain, w_isN, w_notN, w_tup, w_lst, w_ix, w_sl, w_call, w_blt, w_fld, w_new, w_app, w_dget, w_dict, w_oix, w_olen, w_lc, w_esN, w_esC, w_oN, w_oS, seq_tup, seq_lst, w_iseq, w_r1, w_r2, w_enum, w_zip, w_zip3, lst_lst, w_add, w_sub, w_mul, w_fdiv, w_mod, w_pow, w_shr, w_lcat, w_tcat, w_neg, w_lt, w_le, w_gt, w_ge, w_eq, w_ne, w_ixt, w_ixl, w_len, w_lenT, w_abs, w_toint, w_totup, w_totupT, w_tolst, w_tolstT, w_divmod, w_min, w_max, w_isInt, w_isBool, w_isTup, w_lcm, w_set, w_bld, w_par, slot_f, slot_t, w_unp, w_appd, w_put, w_dput, w_dput2, w_frz, w_if, w_ret, w_retN, w_brk, w_cnt, w_pas, w_never, w_exp, w_init, w_nil, w_cons, w_for, w_forF, w_whl, wp_ok, wp_bad, tst_bl, asI_int, asV_val, asO_own, opt_some, get_0, get_s, Sl.put, begins, List.replicate, List.map_cons, List.map_nil, List.cons_append, List.nil_append, List.append_nil, List.length_cons, List.length_nil, Nat.reduceAdd, Nat.reduceSub, Nat.reduceLeDiff, List.replicate_succ, List.replicate_zero, true_and, and_true, decide_eq_true_eq, if_true, if_false, Bool.false_eq_true, ite_true, ite_false, decide_true, decide_false, Bool.not_true, Bool.not_false, Bool.not_eq_true', decide_eq_false_iff_not]
      refine ⟨by omega, ?_⟩
      have go : ¬ (((j + 1 : Nat) : Int) = p) → ¬ ((n % (j + 1) = 0) ∧ X = (List.replicate (n / (j + 1)) (X.take (j + 1))).flatten) := fun hne ⟨h1, h2⟩ => by
        rw [← xl] at h1 h2
        have h3 := (rep_iff (by omega) (by omega) h1).mp h2
        rw [xl] at h1 h3
        have le := rise_least P0 hF (d := ((j + 1 : Nat) : Int)) (by omega) (per_rises n0 (by omega) per h1 fun t ht => by
          have q := h3 t ht
          rw [xa t ht, xa _ (Nat.lt_of_le_of_lt (Nat.mod_le _ _) ht)] at q
          exact Option.some.inj q)
        omega
      have nx : ∀ y2 : Sl, ¬ (((j + 1 : Nat) : Int) = p) → ∃ (j' : Nat) (x' y' : Sl), j' + ds.length = n ∧ (j' : Int) < p ∧ ds = (List.range' j' ds.length).map (fun (i : Nat) => D.int (1 + (i : Int))) ∧ [Sl.val (.lst ((List.range n).map fun (t : Nat) => .int (F t))), .val (.int n), .val (.lst (X.map D.int)), .val (.int ((j + 1 : Nat) : Int)), y2] = [Sl.val (.lst ((List.range n).map fun (t : Nat) => .int (F t))), .val (.int n), .val (.lst (X.map D.int)), x', y'] ∧ True :=
        fun y2 hne => ⟨j + 1, _, _, by omega, by omega, e4, rfl, trivial⟩
      by_cases hm : n % (j + 1) = 0
      · rw [if_pos (by rw [← Int.natCast_emod, hm]; rfl), w_cutT dl, ← List.map_take]
        refine ⟨⟨by omega, small_log (by omega)⟩, ?_⟩
        rw [← Int.natCast_ediv, w_ltimes, flat_map, w_eqI, Int.toNat_natCast, List.length_map]
        have hk : n / (j + 1) * (j + 1) = n := Nat.div_mul_cancel (Nat.dvd_of_mod_eq_zero hm)
        have hle : n / (j + 1) ≤ n := Nat.div_le_self _ _
        refine ⟨⟨Int.natCast_nonneg _, Int.lt_of_le_of_lt (Int.ofNat_le.mpr hle) (by omega), ?_⟩, ?_⟩
        · rw [List.length_take, Nat.min_eq_left (by omega), Nat.mul_comm, hk]
          show n ≤ 16777216
          omega
        simp only [tst_bl, decide_eq_true_eq]
        by_cases hq : ((j + 1 : Nat) : Int) = p
        · have eX : X = (List.replicate (n / (j + 1)) (X.take (j + 1))).flatten := by
            have hh := (rep_iff (x := X) (d := j + 1) (by omega) (by omega) (by rw [xl]; exact hm)).mpr fun t ht => by
              rw [xl] at ht
              rw [xa t ht, xa _ (Nat.lt_of_le_of_lt (Nat.mod_le _ _) ht)]
              have md : ((t : Int)) = ((t % (j + 1) : Nat) : Int) + ((t / (j + 1) : Nat) : Int) * p := by
                rw [← hq, ← Int.natCast_mul, ← Int.natCast_add, Nat.mul_comm, Nat.mod_add_div]
              have v1 := val_pers (t := ((t % (j + 1) : Nat) : Int)) P0.ats (t / (j + 1))
              have v2 := val_pers (t := ((t % (j + 1) : Nat) : Int) - 1) P0.ats (t / (j + 1))
              rw [hF, hF] at v1 v2
              rw [← md] at v1
              rw [show ((t % (j + 1) : Nat) : Int) - 1 + ((t / (j + 1) : Nat) : Int) * p = (t : Int) - 1 by omega] at v2
              congr 1
              omega
            rw [xl] at hh
            exact hh
          rw [if_pos eX]
          have hp' : (((j + 1 : Nat) : Int)).toNat = p.toNat := by rw [hq]
          rw [hp']
          refine w_lcRF (c := fun (i : Nat) => decide (F (i : Int) - F ((i : Int) - 1) ≠ 0)) (g := fun (i : Nat) => pr ((i : Int), F (i : Int))) (fun i hi => ?_) ?_
          · have hin : i < n := by omega
            have a1 : at? (X.map D.int) (i : Int) = some (.int (F (i : Int) - F ((i : Int) - 1))) := by
              rw [at_nat (by rw [List.length_map, xl]; exact hin), List.getElem_map]
              have := xa i hin
              rw [List.getElem?_eq_getElem (by omega)] at this
              rw [Option.some.inj this]
            have a2 := rng_at (F := F) (n := n) (i := (i : Int)) (by omega) (by omega)
            simp only [w_lcC, w_esS, w_lc2, w_lc2S, w_r3, w_meth, methW_obj, w_stat, w_appE, appW_o, w_isObj, w_all, w_oo, w_oi, w_oinv, w_oneg, w_olt, w_ole, w_ogt, w_oge, w_oeq, w_rev, tgo_nm, tgo_tp2, tgo_tp3, Sl.wipe, w_var, w_int, w_bl, w_non, w_str, w_con, w_bin, w_un, w_cmp, w_and, w_or, w_one, w_not, w_ife, w_chain, w_isN, w_notN, w_tup, w_lst, w_ix, w_sl, w_call, w_blt, w_fld, w_new, w_app, w_dget, w_dict, w_oix, w_olen, w_lc, w_esN, w_esC, w_oN, w_oS, seq_tup, seq_lst, w_iseq, w_r1, w_r2, w_enum, w_zip, w_zip3, lst_lst, w_add, w_sub, w_mul, w_fdiv, w_mod, w_pow, w_shr, w_lcat, w_tcat, w_neg, w_lt, w_le, w_gt, w_ge, w_eq, w_ne, w_ixt, w_ixl, w_len, w_lenT, w_abs, w_toint, w_totup, w_totupT, w_tolst, w_tolstT, w_divmod, w_min, w_max, w_isInt, w_isBool, w_isTup, w_lcm, w_set, w_bld, w_par, slot_f, slot_t, w_unp, w_appd, w_put, w_dput, w_dput2, w_frz, w_if, w_ret, w_retN, w_brk, w_cnt, w_pas, w_never, w_exp, w_init, w_nil, w_cons, w_for, w_forF, w_whl, wp_ok, wp_bad, tst_bl, asI_int, asV_val, asO_own, opt_some, get_0, get_s, Sl.put, begins, List.replicate, List.map_cons, List.map_nil, List.cons_append, List.nil_append, List.append_nil, List.length_cons, List.length_nil, Nat.reduceAdd, Nat.reduceSub, Nat.reduceLeDiff, List.replicate_succ, List.replicate_zero, true_and, and_true, decide_eq_true_eq, if_true, if_false, Bool.false_eq_true, ite_true, ite_false, decide_true, decide_false, Bool.not_true, Bool.not_false, Bool.not_eq_true', decide_eq_false_iff_not, Int.zero_add, a1, a2]
            by_cases hz : F (i : Int) - F ((i : Int) - 1) = 0
            · simp [hz, w_esS, w_lc2, w_lc2S, w_r3, w_meth, methW_obj, w_stat, w_appE, appW_o, w_isObj, w_all, w_oo, w_oi, w_oinv, w_oneg, w_olt, w_ole, w_ogt, w_oge, w_oeq, w_rev, tgo_nm, tgo_tp2, tgo_tp3, Sl.wipe, w_var, w_int, w_bl, w_non, w_str, w_con, w_bin, w_un, w_cmp, w_and, w_or, w_one, w_not, w_ife, w_chain, w_isN, w_notN, w_tup, w_lst, w_ix, w_sl, w_call, w_blt, w_fld, w_new, w_app, w_dget, w_dict, w_oix, w_olen, w_lc, w_esN, w_esC, w_oN, w_oS, seq_tup, seq_lst, w_iseq, w_r1, w_r2, w_enum, w_zip, w_zip3, lst_lst, w_add, w_sub, w_mul, w_fdiv, w_mod, w_pow, w_shr, w_lcat, w_tcat, w_neg, w_lt, w_le, w_gt, w_ge, w_eq, w_ne, w_ixt, w_ixl, w_len, w_lenT, w_abs, w_toint, w_totup, w_totupT, w_tolst, w_tolstT, w_divmod, w_min, w_max, w_isInt, w_isBool, w_isTup, w_lcm, w_set, w_bld, w_par, slot_f, slot_t, w_unp, w_appd, w_put, w_dput, w_dput2, w_frz, w_if, w_ret, w_retN, w_brk, w_cnt, w_pas, w_never, w_exp, w_init, w_nil, w_cons, w_for, w_forF, w_whl, wp_ok, wp_bad, tst_bl, asI_int, asV_val, asO_own, opt_some, get_0, get_s, Sl.put, begins, List.replicate, List.map_cons, List.map_nil, List.cons_append, List.nil_append, List.append_nil, List.length_cons, List.length_nil, Nat.reduceAdd, Nat.reduceSub, Nat.reduceLeDiff, List.replicate_succ, List.replicate_zero, true_and, and_true, decide_eq_true_eq, if_true, if_false, Bool.false_eq_true, ite_true, ite_false, decide_true, decide_false, Bool.not_true, Bool.not_false, Bool.not_eq_true', decide_eq_false_iff_not]
            · simp [hz, w_esS, w_lc2, w_lc2S, w_r3, w_meth, methW_obj, w_stat, w_appE, appW_o, w_isObj, w_all, w_oo, w_oi, w_oinv, w_oneg, w_olt, w_ole, w_ogt, w_oge, w_oeq, w_rev, tgo_nm, tgo_tp2, tgo_tp3, Sl.wipe, w_var, w_int, w_bl, w_non, w_str, w_con, w_bin, w_un, w_cmp, w_and, w_or, w_one, w_not, w_ife, w_chain, w_isN, w_notN, w_tup, w_lst, w_ix, w_sl, w_call, w_blt, w_fld, w_new, w_app, w_dget, w_dict, w_oix, w_olen, w_lc, w_esN, w_esC, w_oN, w_oS, seq_tup, seq_lst, w_iseq, w_r1, w_r2, w_enum, w_zip, w_zip3, lst_lst, w_add, w_sub, w_mul, w_fdiv, w_mod, w_pow, w_shr, w_lcat, w_tcat, w_neg, w_lt, w_le, w_gt, w_ge, w_eq, w_ne, w_ixt, w_ixl, w_len, w_lenT, w_abs, w_toint, w_totup, w_totupT, w_tolst, w_tolstT, w_divmod, w_min, w_max, w_isInt, w_isBool, w_isTup, w_lcm, w_set, w_bld, w_par, slot_f, slot_t, w_unp, w_appd, w_put, w_dput, w_dput2, w_frz, w_if, w_ret, w_retN, w_brk, w_cnt, w_pas, w_never, w_exp, w_init, w_nil, w_cons, w_for, w_forF, w_whl, wp_ok, wp_bad, tst_bl, asI_int, asV_val, asO_own, opt_some, get_0, get_s, Sl.put, begins, List.replicate, List.map_cons, List.map_nil, List.cons_append, List.nil_append, List.append_nil, List.length_cons, List.length_nil, Nat.reduceAdd, Nat.reduceSub, Nat.reduceLeDiff, List.replicate_succ, List.replicate_zero, true_and, and_true, decide_eq_true_eq, if_true, if_false, Bool.false_eq_true, ite_true, ite_false, decide_true, decide_false, Bool.not_true, Bool.not_false, Bool.not_eq_true', decide_eq_false_iff_not, a2]
          · have e := steps_rises P0 hF
            have e' : (((List.range p.toNat).filter fun (i : Nat) => decide (F (i : Int) - F ((i : Int) - 1) ≠ 0)).map fun (i : Nat) => pr ((i : Int), F (i : Int))) = l.map pr := by
              rw [← e, List.map_map]
              rfl
            rw [e', List.length_map, hq]
            refine ⟨?_, h⟩
            have : l.length ≤ p.toNat := by
              have := congrArg List.length e
              rw [List.length_map] at this
              rw [← this]
              exact Nat.le_trans (List.length_filter_le _ _) (by rw [List.length_range]; exact Nat.le_refl _)
            omega
        · rw [if_neg fun e => go hq ⟨hm, e⟩]
          exact nx _ hq
      · rw [if_neg (fun e => hm (by rw [← Int.natCast_emod] at e; omega))]
        have hq : ¬ (((j + 1 : Nat) : Int) = p) := fun e => hm (by
          have : ((r * (j + 1) : Nat) : Int) = (n : Int) := by rw [Int.natCast_mul, e, hn]
          rw [← Int.ofNat.inj this]
          exact Nat.mul_mod_left _ _)
        exact ⟨j + 1, _, _, by omega, by omega, e4, rfl⟩
end Lw
set_option Elab.async false
set_option linter.all false
set_option maxRecDepth 100000
set_option maxHeartbeats 4000000
namespace Lw
open PySem L2 Vw
theorem w_draw {k r : Nat} {m : Int} {μ : Mu} {Q : D → Mu → Prop} (hr : Room (r + 1) μ) (hm : 0 < m) (hm2 : m < 2 ^ 200) (h : ∀ x μ', 0 ≤ x → x < m → Room r μ' → Q (.int x) μ') : (run P fds (k + 1) n__law_draw [.cel 0, .int m] μ).wp Q := by
  obtain ⟨cs, ls, a, tl, rfl, hc, hl, ha0, ha⟩ := hr
  refine wp_run rfl rfl ?_
  show (exss P _ b__law_draw [.val (.cel 0), .val (.int m), .und, .und, .und, .und, .und] _).wp _ _ _ _
  have L : ∀ ρ : Rho, ρ = [.val (.cel 0), .val (.int m), .und, .und, .und, .und, .und] → lcgo (lcStep P (run P fds k) [5] (.nm 5) (.some (.cmp .Gt (.var 5) (.int 0))) (.var 5) ρ) (ls.map .int) (mu cs ls a tl) = .ok ((ls.filter fun i => decide (0 < i)).map .int) (mu cs ls a tl) := fun ρ e => by
    subst e
    refine lc_fil fun i => ?_
    by_cases hi : 0 < i
    · have : decide (0 < i) = true := decide_eq_true hi
      simp only [this, if_true]
      simp [lcStep, tgo, Sl.wipe, Sl.put, evo, ev, Sl.get, cop, hi]
    · have : decide (0 < i) = false := decide_eq_false hi
      simp only [this, if_false]
      simp [lcStep, tgo, Sl.wipe, Sl.put, evo, ev, Sl.get, cop, hi]
  have hfl : (ls.filter fun i => decide (0 < i)).length ≤ 63 := Nat.le_trans (List.length_filter_le _ _) hl
  simp only [b__law_draw, w_esS, w_lc2, w_lc2S, w_r3, w_meth, methW_obj, w_stat, w_appE, appW_o, w_isObj, w_all, w_oo, w_oi, w_oinv, w_oneg, w_olt, w_ole, w_ogt, w_oge, w_oeq, w_rev, tgo_nm, tgo_tp2, tgo_tp3, Sl.wipe, w_var, w_int, w_bl, w_non, w_str, w_con, w_bin, w_un, w_cmp, w_and, w_or, w_one, w_not, w_ife, w_chain, w_isN, w_notN, w_tup, w_lst, w_ix, w_sl, w_call, w_blt, w_fld, w_new, w_app, w_dget, w_dict, w_oix, w_olen, w_lc, w_esN, w_esC, w_oN, w_oS, seq_tup, seq_lst, w_iseq, w_r1, w_r2, w_enum, w_zip, w_zip3, lst_lst, w_add, w_sub, w_mul, w_fdiv, w_mod, w_pow, w_shr, w_lcat, w_tcat, w_neg, w_lt, w_le, w_gt, w_ge, w_eq, w_ne, w_ixt, w_ixl, w_len, w_lenT, w_abs, w_toint, w_totup, w_totupT, w_tolst, w_tolstT, w_divmod, w_min, w_max, w_isInt, w_isBool, w_isTup, w_lcm, w_set, w_bld, w_par, slot_f, slot_t, w_unp, w_appd, w_put, w_dput, w_dput2, w_frz, w_if, w_ret, w_retN, w_brk, w_cnt, w_pas, w_never, w_exp, w_init, w_nil, w_cons, w_for, w_forF, w_whl, wp_ok, wp_bad, tst_bl, asI_int, asV_val, asO_own, opt_some, get_0, get_s, Sl.put, begins, List.replicate, List.map_cons, List.map_nil, List.cons_append, List.nil_append, List.append_nil, List.length_cons, List.length_nil, Nat.reduceAdd, Nat.reduceSub, Nat.reduceLeDiff, List.replicate_succ, List.replicate_zero, true_and, and_true, decide_eq_true_eq, if_true, if_false, Bool.false_eq_true, ite_true, ite_false, decide_true, decide_false, Bool.not_true, Bool.not_false, Bool.not_eq_true', decide_eq_false_iff_not, dget_left, dget_at, dget_cells, dput_at, dput_nil, L _ rfl, w_neI, List.length_map]
  refine ⟨by omega, ?_⟩
  generalize hf : (ls.filter fun i => decide (0 < i)) = fl at hfl
  cases fl with
  | cons z fl =>
    rw [if_pos (by simp)]
    have e1 : at? (D.int z :: fl.map D.int) 0 = some (.int z) := at_nat (i := 0) (l := D.int z :: fl.map D.int) (by simp)
    have e2 : cut ((z :: fl).map D.int) (some 1) none = fl.map .int := cut_drop (l := (z :: fl).map D.int) (m := 1) (by simp)
    have X : ∀ (μ : Mu) (Q : D → Mu → Prop), (slop (.lst (D.int z :: fl.map D.int)) (some (.int 1)) none μ).wp Q ↔ Q (.lst (fl.map .int)) μ := fun μ Q => by
      show Q (.lst (cut ((z :: fl).map D.int) (some 1) none)) μ ↔ _
      rw [e2]
    have hz : fl.length + 1 ≤ 63 := hfl
    have e3 : ∀ (y : Int), D.int y :: fl.map D.int = (y :: fl).map D.int := fun y => rfl
    simp only [w_esS, w_lc2, w_lc2S, w_r3, w_meth, methW_obj, w_stat, w_appE, appW_o, w_isObj, w_all, w_oo, w_oi, w_oinv, w_oneg, w_olt, w_ole, w_ogt, w_oge, w_oeq, w_rev, tgo_nm, tgo_tp2, tgo_tp3, Sl.wipe, w_var, w_int, w_bl, w_non, w_str, w_con, w_bin, w_un, w_cmp, w_and, w_or, w_one, w_not, w_ife, w_chain, w_isN, w_notN, w_tup, w_lst, w_ix, w_sl, w_call, w_blt, w_fld, w_new, w_app, w_dget, w_dict, w_oix, w_olen, w_lc, w_esN, w_esC, w_oN, w_oS, seq_tup, seq_lst, w_iseq, w_r1, w_r2, w_enum, w_zip, w_zip3, lst_lst, w_add, w_sub, w_mul, w_fdiv, w_mod, w_pow, w_shr, w_lcat, w_tcat, w_neg, w_lt, w_le, w_gt, w_ge, w_eq, w_ne, w_ixt, w_ixl, w_len, w_lenT, w_abs, w_toint, w_totup, w_totupT, w_tolst, w_tolstT, w_divmod, w_min, w_max, w_isInt, w_isBool, w_isTup, w_lcm, w_set, w_bld, w_par, slot_f, slot_t, w_unp, w_appd, w_put, w_dput, w_dput2, w_frz, w_if, w_ret, w_retN, w_brk, w_cnt, w_pas, w_never, w_exp, w_init, w_nil, w_cons, w_for, w_forF, w_whl, wp_ok, wp_bad, tst_bl, asI_int, asV_val, asO_own, opt_some, get_0, get_s, Sl.put, begins, List.replicate, List.map_cons, List.map_nil, List.cons_append, List.nil_append, List.append_nil, List.length_cons, List.length_nil, Nat.reduceAdd, Nat.reduceSub, Nat.reduceLeDiff, List.replicate_succ, List.replicate_zero, true_and, and_true, decide_eq_true_eq, if_true, if_false, Bool.false_eq_true, ite_true, ite_false, decide_true, decide_false, Bool.not_true, Bool.not_false, Bool.not_eq_true', decide_eq_false_iff_not, e1, X, List.length_map]
    refine ⟨⟨hm, lg9 (by omega) hm2⟩, by omega, ?_⟩
    rw [e3, dput_left]
    exact ⟨hm, h _ _ (Int.emod_nonneg _ (by omega)) (Int.emod_lt_of_pos _ hm) ⟨cs, z / m :: fl, a, tl, rfl, hc, by simpa using hz, ha0, by omega⟩⟩
  | nil =>
    rw [if_neg (by simp)]
    generalize hc2 : mu cs [] (a + 1) tl = μ2
    have R : Room r μ2 := ⟨cs, [], a + 1, tl, hc2.symm, hc, by simp, by omega, by omega⟩
    have hk0 : 0 ≤ a + 1 := by omega
    have hk : a + 1 < 2 ^ 65 := by omega
    generalize a + 1 = b at hk hk0 ⊢
    have bb1 : b * b < 2 ^ 130 := by
      have := mulb hk0 hk hk0 hk
      omega
    have b0 : 0 ≤ b * b := Int.mul_nonneg hk0 hk0
    have F : ∀ c : Int, (0 : Int) < 2147483629 ∧ (Int.natAbs 7907).log2 + b.natAbs.log2 < 1000000 ∧ (Int.natAbs 17).log2 + b.natAbs.log2 < 1000000 ∧ (17 * b).natAbs.log2 + b.natAbs.log2 < 1000000 ∧
        (c % 2147483629 + 7907 * b + 17 * b * b).natAbs.log2 + (Int.natAbs 48271).log2 < 1000000 ∧ (0 : Int) < 2147483647 ∧
        ((c % 2147483629 + 7907 * b + 17 * b * b) * 48271 % 2147483647).natAbs.log2 + ((c % 2147483629 + 7907 * b + 17 * b * b) * 48271 % 2147483647).natAbs.log2 < 1000000 ∧
        (Int.natAbs 104711).log2 + b.natAbs.log2 < 1000000 ∧ (0 : Int) < 2147483587 ∧
        (((c % 2147483629 + 7907 * b + 17 * b * b) * 48271 % 2147483647 * ((c % 2147483629 + 7907 * b + 17 * b * b) * 48271 % 2147483647) + 104711 * b + 12345) % 2147483587).natAbs.log2 + (Int.natAbs 69621).log2 < 1000000 ∧
        (0 : Int) < 2147483629 ∧ ((0 : Int) < 13 ∧ (Int.natAbs 13).log2 < 9000) ∧ 0 < m ∧
        Q (.int (((c % 2147483629 + 7907 * b + 17 * b * b) * 48271 % 2147483647 * ((c % 2147483629 + 7907 * b + 17 * b * b) * 48271 % 2147483647) + 104711 * b + 12345) % 2147483587 * 69621 % 2147483629 / 13 % m)) μ2 := fun c => by
      have e : 17 * b * b = 17 * (b * b) := Int.mul_assoc _ _ _
      rw [e]
      generalize b * b = bb at b0 bb1 ⊢
      have c0 := Int.emod_nonneg c (show (2147483629 : Int) ≠ 0 by decide)
      have c1 := Int.emod_lt_of_pos c (show (0 : Int) < 2147483629 by decide)
      generalize c % 2147483629 = d at c0 c1 ⊢
      have v0 : 0 ≤ d + 7907 * b + 17 * bb := by omega
      have v1 : d + 7907 * b + 17 * bb < 2 ^ 180 := by omega
      generalize d + 7907 * b + 17 * bb = v at v0 v1 ⊢
      have x0 := Int.emod_nonneg (v * 48271) (show (2147483647 : Int) ≠ 0 by decide)
      have x1 := Int.emod_lt_of_pos (v * 48271) (show (0 : Int) < 2147483647 by decide)
      generalize v * 48271 % 2147483647 = x at x0 x1 ⊢
      generalize x * x + 104711 * b + 12345 = w
      have w0 := Int.emod_nonneg w (show (2147483587 : Int) ≠ 0 by decide)
      have w1 := Int.emod_lt_of_pos w (show (0 : Int) < 2147483587 by decide)
      generalize w % 2147483587 = y at w0 w1 ⊢
      generalize y * 69621 % 2147483629 / 13 = u
      exact ⟨by decide, lg2 (by omega) (by omega) (by omega) (by omega), lg2 (by omega) (by omega) (by omega) (by omega), lg2 (by omega) (by omega) (by omega) (by omega), lg2 (by omega) (by omega) (by omega) (by omega), by decide, lg2 (by omega) (by omega) (by omega) (by omega), lg2 (by omega) (by omega) (by omega) (by omega), by decide, lg2 (by omega) (by omega) (by omega) (by omega), by decide, ⟨by decide, by decide⟩, hm, h _ _ (Int.emod_nonneg _ (by omega)) (Int.emod_lt_of_pos _ hm) R⟩
    by_cases hcs : cs = []
    · rw [if_neg (by simpa using hcs)]
      exact F 5
    · rw [if_pos hcs]
      have hp : 0 < cs.length := List.length_pos_iff.mpr hcs
      have i0 := Int.emod_nonneg b (show (cs.length : Int) ≠ 0 by omega)
      have i1 := Int.emod_lt_of_pos b (show (0 : Int) < (cs.length : Int) by omega)
      rw [at_int i0 (by omega)]
      simp only [w_esS, w_lc2, w_lc2S, w_r3, w_meth, methW_obj, w_stat, w_appE, appW_o, w_isObj, w_all, w_oo, w_oi, w_oinv, w_oneg, w_olt, w_ole, w_ogt, w_oge, w_oeq, w_rev, tgo_nm, tgo_tp2, tgo_tp3, Sl.wipe, w_var, w_int, w_bl, w_non, w_str, w_con, w_bin, w_un, w_cmp, w_and, w_or, w_one, w_not, w_ife, w_chain, w_isN, w_notN, w_tup, w_lst, w_ix, w_sl, w_call, w_blt, w_fld, w_new, w_app, w_dget, w_dict, w_oix, w_olen, w_lc, w_esN, w_esC, w_oN, w_oS, seq_tup, seq_lst, w_iseq, w_r1, w_r2, w_enum, w_zip, w_zip3, lst_lst, w_add, w_sub, w_mul, w_fdiv, w_mod, w_pow, w_shr, w_lcat, w_tcat, w_neg, w_lt, w_le, w_gt, w_ge, w_eq, w_ne, w_ixt, w_ixl, w_len, w_lenT, w_abs, w_toint, w_totup, w_totupT, w_tolst, w_tolstT, w_divmod, w_min, w_max, w_isInt, w_isBool, w_isTup, w_lcm, w_set, w_bld, w_par, slot_f, slot_t, w_unp, w_appd, w_put, w_dput, w_dput2, w_frz, w_if, w_ret, w_retN, w_brk, w_cnt, w_pas, w_never, w_exp, w_init, w_nil, w_cons, w_for, w_forF, w_whl, wp_ok, wp_bad, tst_bl, asI_int, asV_val, asO_own, opt_some, get_0, get_s, Sl.put, begins, List.replicate, List.map_cons, List.map_nil, List.cons_append, List.nil_append, List.append_nil, List.length_cons, List.length_nil, Nat.reduceAdd, Nat.reduceSub, Nat.reduceLeDiff, List.replicate_succ, List.replicate_zero, true_and, and_true, decide_eq_true_eq, if_true, if_false, Bool.false_eq_true, ite_true, ite_false, decide_true, decide_false, Bool.not_true, Bool.not_false, Bool.not_eq_true', decide_eq_false_iff_not]
      exact ⟨by omega, F _⟩
theorem w_begin {k : Nat} {ns : List Int} {Q : D → Mu → Prop} (h : ns.length ≤ 63) (hq : ∀ μ, Room (2 ^ 63) μ → Q (.cel 0) μ) : (run P fds (k + 1) n__law_begin [.lst (ns.map .int)] []).wp Q := by
  refine wp_run rfl rfl ?_
  show (exss P _ b__law_begin [.val (.lst (ns.map .int)), .und, .und] _).wp _ _ _ _
  have L1 : lcgo (lcStep P (run P fds k) [2] (.nm 2) .none (.blt .int (.cons (.var 2) .nil)) [.val (.lst (ns.map .int)), .und, .und]) (ns.map .int) ([] : Mu) = .ok (ns.map .int) [] := lc_mp fun i _ => rfl
  have L2 : lcgo (lcStep P (run P fds k) [2] (.nm 2) (.some (.cmp .GtE (.var 2) (.bin .Pow (.int 10) (.int 18)))) (.var 2) [.val (.lst (ns.map .int)), .val (.lst (ns.map .int)), .und]) (ns.map .int) ([] : Mu) = .ok ((ns.filter fun i => decide (10 ^ 18 ≤ i)).map .int) [] := lc_fil fun i => by
    by_cases hi : 1000000000000000000 ≤ i
    · simp [lcStep, tgo, Sl.wipe, Sl.put, evo, ev, Sl.get, cop, bop, hi]
    · simp [lcStep, tgo, Sl.wipe, Sl.put, evo, ev, Sl.get, cop, bop, hi]
  simp only [b__law_begin, w_esS, w_lc2, w_lc2S, w_r3, w_meth, methW_obj, w_stat, w_appE, appW_o, w_isObj, w_all, w_oo, w_oi, w_oinv, w_oneg, w_olt, w_ole, w_ogt, w_oge, w_oeq, w_rev, tgo_nm, tgo_tp2, tgo_tp3, Sl.wipe, w_var, w_int, w_bl, w_non, w_str, w_con, w_bin, w_un, w_cmp, w_and, w_or, w_one, w_not, w_ife, w_chain, w_isN, w_notN, w_tup, w_lst, w_ix, w_sl, w_call, w_blt, w_fld, w_new, w_app, w_dget, w_dict, w_oix, w_olen, w_lc, w_esN, w_esC, w_oN, w_oS, seq_tup, seq_lst, w_iseq, w_r1, w_r2, w_enum, w_zip, w_zip3, lst_lst, w_add, w_sub, w_mul, w_fdiv, w_mod, w_pow, w_shr, w_lcat, w_tcat, w_neg, w_lt, w_le, w_gt, w_ge, w_eq, w_ne, w_ixt, w_ixl, w_len, w_lenT, w_abs, w_toint, w_totup, w_totupT, w_tolst, w_tolstT, w_divmod, w_min, w_max, w_isInt, w_isBool, w_isTup, w_lcm, w_set, w_bld, w_par, slot_f, slot_t, w_unp, w_appd, w_put, w_dput, w_dput2, w_frz, w_if, w_ret, w_retN, w_brk, w_cnt, w_pas, w_never, w_exp, w_init, w_nil, w_cons, w_for, w_forF, w_whl, wp_ok, wp_bad, tst_bl, asI_int, asV_val, asO_own, opt_some, get_0, get_s, Sl.put, begins, List.replicate, List.map_cons, List.map_nil, List.cons_append, List.nil_append, List.append_nil, List.length_cons, List.length_nil, Nat.reduceAdd, Nat.reduceSub, Nat.reduceLeDiff, List.replicate_succ, List.replicate_zero, true_and, and_true, decide_eq_true_eq, if_true, if_false, Bool.false_eq_true, ite_true, ite_false, decide_true, decide_false, Bool.not_true, Bool.not_false, Bool.not_eq_true', decide_eq_false_iff_not, L1, L2, List.length_map]
  refine ⟨by omega, Nat.le_trans (List.length_filter_le _ _) (by omega), by first | decide +kernel | exact ⟨by decide, by decide +kernel⟩ | exact ⟨by decide +kernel, by simp⟩ | exact ⟨by decide, by decide +kernel, by simp⟩, ?_⟩
  exact hq _ ⟨ns, _, 0, [], rfl, h, Nat.le_trans (List.length_filter_le _ _) h, by omega, by omega⟩
end Lw
set_option Elab.async false
set_option linter.all false
set_option maxRecDepth 100000
set_option maxHeartbeats 4000000
namespace Lw
open PySem L2 Vw
theorem zip_sum : ∀ (A R : List Int), A.length = R.length → ((A.zip R).map (·.2)).sum = R.sum
  | [], [], _ => rfl
  | [], _ :: _, h => by simp at h
  | _ :: _, [], h => by simp at h
  | a :: A, r :: R, h => by
    simp only [List.zip_cons_cons, List.map_cons, List.sum_cons]
    rw [zip_sum A R (by simpa using h)]
theorem zip_fst : ∀ (A R : List Int), A.length = R.length → (A.zip R).map (·.1) = A
  | [], [], _ => rfl
  | [], _ :: _, h => by simp at h
  | _ :: _, [], h => by simp at h
  | a :: A, r :: R, h => by
    simp only [List.zip_cons_cons, List.map_cons]
    rw [zip_fst A R (by simpa using h)]
theorem zip_snd : ∀ (A R : List Int) (q : Int × Int), q ∈ A.zip R → q.2 ∈ R
  | [], _, q, h => by simp at h
  | _ :: _, [], q, h => by simp at h
  | a :: A, r :: R, q, h => by
    simp only [List.zip_cons_cons] at h
    rcases List.mem_cons.mp h with e | h
    · subst e; exact List.mem_cons_self
    · exact List.mem_cons_of_mem _ (zip_snd A R q h)
theorem tel_steps {p0 v : Int} {A R : List Int} (hp : 0 < p0) (hA : A ≠ []) (hl : A.length ≤ 100) (pw : A.Pairwise (· < ·)) (bd : ∀ a ∈ A, 0 ≤ a ∧ a < p0) (hR : R.length = A.length) (h0 : ∀ q ∈ R, 0 ≤ q) (hs : R.sum = p0) : Tel p0 (stepsF v (A.zip R)) ∧ ∀ q ∈ stepsF v (A.zip R), v ≤ q.2 ∧ q.2 ≤ v + p0 := by
  have hz : ∀ q ∈ A.zip R, 0 ≤ q.2 := fun q hq => h0 _ (zip_snd A R q hq)
  have hb := steps_bd (A.zip R) v hz
  rw [zip_sum A R hR.symm, hs] at hb
  have hm := steps_map (A.zip R) v
  rw [zip_fst A R hR.symm] at hm
  have hlen : (stepsF v (A.zip R)).length = A.length := by
    have := congrArg List.length hm
    simpa using this
  refine ⟨⟨hp, fun e => ?_, by omega, fun q hq => ?_, steps_pw _ _ hz (by rw [zip_fst A R hR.symm]; exact pw), fun a ha b hb' => ?_⟩, hb⟩
  · rw [e] at hlen
    exact hA (List.length_eq_zero_iff.mp hlen.symm)
  · have : q.1 ∈ A := by
      rw [← hm]
      exact List.mem_map.mpr ⟨q, hq, rfl⟩
    exact bd _ this
  · have := hb a ha
    have := hb b hb'
    omega
theorem w_stair_rest {k r : Nat} {size p0 : Int} {A : List Int} {μ : Mu} {Q : D → Mu → Prop} (hp1 : 1 ≤ p0) (hp2 : p0 ≤ size) (hs2 : size ≤ 100) (hA : A ≠ []) (pw : A.Pairwise (· < ·)) (bd : ∀ a ∈ A, 0 ≤ a ∧ a < p0) (hl : A.length ≤ 100) (hr : Room (r + 500) μ)
    (h : ∀ p l μ', Tel p l → p ≤ 3 * size → (∀ q ∈ l, -12 ≤ q.2 ∧ q.2 ≤ 12 + p) → Room r μ' → (∃ (p0 : Int) (j : Nat), 1 ≤ p0 ∧ p0 ≤ size ∧ 1 ≤ j ∧ j ≤ 3 ∧ p = p0 * (j : Int) ∧ ∃ S, Tel p0 S ∧ l = rowsF p0 S j ∧ ∀ s ∈ S, -12 ≤ s.2 ∧ s.2 ≤ 12 + p0) → Q (.tup [.int p, tp l]) μ') :
    (exss P (run P fds (k + 1)) (Ss.drop 3 b__law_stair) [.val (.cel 0), .val (.int size), .val (.int p0), .val (.lst (A.map .int)), .und, .und, .und, .und, .und, .und, .und, .und, .und, .und] μ).wp (fun _ μ1 => Q .non μ1) Q (fun _ _ => False) (fun _ _ => False) := by
  have hA0 : 0 < A.length := List.length_pos_iff.mpr hA
  have L1 : lcgo (lcStep P (run P fds (k + 1)) [8] (.nm 8) .none (.int 0) [.val (.cel 0), .val (.int size), .val (.int p0), .val (.lst (A.map .int)), .und, .und, .und, .und, .und, .und, .und, .und, .und, .und]) (A.map .int) μ = .ok (A.map fun _ => .int 0) μ := lc_mp fun i _ => rfl
  simp only [b__law_stair, Ss.drop, w_esS, w_lc2, w_lc2S, w_r3, w_meth, methW_obj, w_stat, w_appE, appW_o, w_isObj, w_all, w_oo, w_oi, w_oinv, w_oneg, w_olt, w_ole, w_ogt, w_oge, w_oeq, w_rev, tgo_nm, tgo_tp2, tgo_tp3, Sl.wipe, w_var, w_int, w_bl, w_non, w_str, w_con, w_bin, w_un, w_cmp, w_and, w_or, w_one, w_not, w_ife, w_chain, w_isN, w_notN, w_tup, w_lst, w_ix, w_sl, w_call, w_blt, w_fld, w_new, w_app, w_dget, w_dict, w_oix, w_olen, w_lc, w_esN, w_esC, w_oN, w_oS, seq_tup, seq_lst, w_iseq, w_r1, w_r2, w_enum, w_zip, w_zip3, lst_lst, w_add, w_sub, w_mul, w_fdiv, w_mod, w_pow, w_shr, w_lcat, w_tcat, w_neg, w_lt, w_le, w_gt, w_ge, w_eq, w_ne, w_ixt, w_ixl, w_len, w_lenT, w_abs, w_toint, w_totup, w_totupT, w_tolst, w_tolstT, w_divmod, w_min, w_max, w_isInt, w_isBool, w_isTup, w_lcm, w_set, w_bld, w_par, slot_f, slot_t, w_unp, w_appd, w_put, w_dput, w_dput2, w_frz, w_if, w_ret, w_retN, w_brk, w_cnt, w_pas, w_never, w_exp, w_init, w_nil, w_cons, w_for, w_forF, w_whl, wp_ok, wp_bad, tst_bl, asI_int, asV_val, asO_own, opt_some, get_0, get_s, Sl.put, begins, List.replicate, List.map_cons, List.map_nil, List.cons_append, List.nil_append, List.append_nil, List.length_cons, List.length_nil, Nat.reduceAdd, Nat.reduceSub, Nat.reduceLeDiff, List.replicate_succ, List.replicate_zero, true_and, and_true, decide_eq_true_eq, if_true, if_false, Bool.false_eq_true, ite_true, ite_false, decide_true, decide_false, Bool.not_true, Bool.not_false, Bool.not_eq_true', decide_eq_false_iff_not, L1, List.length_map]
  refine ⟨by omega, ?_⟩
  refine for_inv (fun items ρ μ => ∃ (R : List Int) (x y : Sl), ρ = [.val (.cel 0), .val (.int size), .val (.int p0), .val (.lst (A.map .int)), .own (R.map .int), x, .und, .und, .und, .und, .und, .und, .und, y] ∧ R.length = A.length ∧ (∀ q ∈ R, 0 ≤ q) ∧ R.sum + (items.length : Int) = p0 ∧ Room (r + 300 + items.length) μ) ?step1 ?done1 ?init1
  case init1 =>
    refine ⟨A.map fun _ => 0, .und, .und, by simp, by simp, fun q hq => ?_, ?_, hr.mono (by rw [rngs_len]; omega)⟩
    · obtain ⟨_, _, rfl⟩ := List.mem_map.mp hq
      exact Int.le_refl _
    · have : ∀ A : List Int, (A.map fun _ => (0 : Int)).sum = 0 := fun A => by
        induction A with
        | nil => rfl
        | cons a A ih => simp only [List.map_cons, List.sum_cons, ih]; rfl
      rw [this, rngs_len]
      omega
  case step1 =>
    rintro d ds ρ μ ⟨R, x, y, rfl, e1, e2, e3, Ro⟩
    rw [List.length_cons] at e3 Ro
    simp only [w_esS, w_lc2, w_lc2S, w_r3, w_meth, methW_obj, w_stat, w_appE, appW_o, w_isObj, w_all, w_oo, w_oi, w_oinv, w_oneg, w_olt, w_ole, w_ogt, w_oge, w_oeq, w_rev, tgo_nm, tgo_tp2, tgo_tp3, Sl.wipe, w_var, w_int, w_bl, w_non, w_str, w_con, w_bin, w_un, w_cmp, w_and, w_or, w_one, w_not, w_ife, w_chain, w_isN, w_notN, w_tup, w_lst, w_ix, w_sl, w_call, w_blt, w_fld, w_new, w_app, w_dget, w_dict, w_oix, w_olen, w_lc, w_esN, w_esC, w_oN, w_oS, seq_tup, seq_lst, w_iseq, w_r1, w_r2, w_enum, w_zip, w_zip3, lst_lst, w_add, w_sub, w_mul, w_fdiv, w_mod, w_pow, w_shr, w_lcat, w_tcat, w_neg, w_lt, w_le, w_gt, w_ge, w_eq, w_ne, w_ixt, w_ixl, w_len, w_lenT, w_abs, w_toint, w_totup, w_totupT, w_tolst, w_tolstT, w_divmod, w_min, w_max, w_isInt, w_isBool, w_isTup, w_lcm, w_set, w_bld, w_par, slot_f, slot_t, w_unp, w_appd, w_put, w_dput, w_dput2, w_frz, w_if, w_ret, w_retN, w_brk, w_cnt, w_pas, w_never, w_exp, w_init, w_nil, w_cons, w_for, w_forF, w_whl, wp_ok, wp_bad, tst_bl, asI_int, asV_val, asO_own, opt_some, get_0, get_s, Sl.put, begins, List.replicate, List.map_cons, List.map_nil, List.cons_append, List.nil_append, List.append_nil, List.length_cons, List.length_nil, Nat.reduceAdd, Nat.reduceSub, Nat.reduceLeDiff, List.replicate_succ, List.replicate_zero, true_and, and_true, decide_eq_true_eq, if_true, if_false, Bool.false_eq_true, ite_true, ite_false, decide_true, decide_false, Bool.not_true, Bool.not_false, Bool.not_eq_true', decide_eq_false_iff_not, List.length_map]
    refine w_draw (r := r + 300 + ds.length) Ro (by omega) (by omega) fun z μ1 z0 z1 R1 => ?_
    have hz : z.toNat < R.length := by omega
    simp only [w_esS, w_lc2, w_lc2S, w_r3, w_meth, methW_obj, w_stat, w_appE, appW_o, w_isObj, w_all, w_oo, w_oi, w_oinv, w_oneg, w_olt, w_ole, w_ogt, w_oge, w_oeq, w_rev, tgo_nm, tgo_tp2, tgo_tp3, Sl.wipe, w_var, w_int, w_bl, w_non, w_str, w_con, w_bin, w_un, w_cmp, w_and, w_or, w_one, w_not, w_ife, w_chain, w_isN, w_notN, w_tup, w_lst, w_ix, w_sl, w_call, w_blt, w_fld, w_new, w_app, w_dget, w_dict, w_oix, w_olen, w_lc, w_esN, w_esC, w_oN, w_oS, seq_tup, seq_lst, w_iseq, w_r1, w_r2, w_enum, w_zip, w_zip3, lst_lst, w_add, w_sub, w_mul, w_fdiv, w_mod, w_pow, w_shr, w_lcat, w_tcat, w_neg, w_lt, w_le, w_gt, w_ge, w_eq, w_ne, w_ixt, w_ixl, w_len, w_lenT, w_abs, w_toint, w_totup, w_totupT, w_tolst, w_tolstT, w_divmod, w_min, w_max, w_isInt, w_isBool, w_isTup, w_lcm, w_set, w_bld, w_par, slot_f, slot_t, w_unp, w_appd, w_put, w_dput, w_dput2, w_frz, w_if, w_ret, w_retN, w_brk, w_cnt, w_pas, w_never, w_exp, w_init, w_nil, w_cons, w_for, w_forF, w_whl, wp_ok, wp_bad, tst_bl, asI_int, asV_val, asO_own, opt_some, get_0, get_s, Sl.put, begins, List.replicate, List.map_cons, List.map_nil, List.cons_append, List.nil_append, List.append_nil, List.length_cons, List.length_nil, Nat.reduceAdd, Nat.reduceSub, Nat.reduceLeDiff, List.replicate_succ, List.replicate_zero, true_and, and_true, decide_eq_true_eq, if_true, if_false, Bool.false_eq_true, ite_true, ite_false, decide_true, decide_false, Bool.not_true, Bool.not_false, Bool.not_eq_true', decide_eq_false_iff_not, at_int z0 hz, List.length_map, ix_nat (n := R.length) z0 (by omega)]
    refine ⟨R.set z.toNat (R[z.toNat] + 1), .val d, .val (.int z), by rw [List.map_set], by rw [List.length_set]; exact e1, fun q hq => ?_, by rw [sum_set]; omega, R1⟩
    rcases List.mem_or_eq_of_mem_set hq with hq | hq
    · exact e2 q hq
    · have := e2 _ (List.getElem_mem hz)
      omega
  case done1 =>
    rintro ρ μ ⟨R, x, y, rfl, e1, e2, e3, Ro⟩
    simp only [List.length_nil] at e3 Ro
    simp only [w_esS, w_lc2, w_lc2S, w_r3, w_meth, methW_obj, w_stat, w_appE, appW_o, w_isObj, w_all, w_oo, w_oi, w_oinv, w_oneg, w_olt, w_ole, w_ogt, w_oge, w_oeq, w_rev, tgo_nm, tgo_tp2, tgo_tp3, Sl.wipe, w_var, w_int, w_bl, w_non, w_str, w_con, w_bin, w_un, w_cmp, w_and, w_or, w_one, w_not, w_ife, w_chain, w_isN, w_notN, w_tup, w_lst, w_ix, w_sl, w_call, w_blt, w_fld, w_new, w_app, w_dget, w_dict, w_oix, w_olen, w_lc, w_esN, w_esC, w_oN, w_oS, seq_tup, seq_lst, w_iseq, w_r1, w_r2, w_enum, w_zip, w_zip3, lst_lst, w_add, w_sub, w_mul, w_fdiv, w_mod, w_pow, w_shr, w_lcat, w_tcat, w_neg, w_lt, w_le, w_gt, w_ge, w_eq, w_ne, w_ixt, w_ixl, w_len, w_lenT, w_abs, w_toint, w_totup, w_totupT, w_tolst, w_tolstT, w_divmod, w_min, w_max, w_isInt, w_isBool, w_isTup, w_lcm, w_set, w_bld, w_par, slot_f, slot_t, w_unp, w_appd, w_put, w_dput, w_dput2, w_frz, w_if, w_ret, w_retN, w_brk, w_cnt, w_pas, w_never, w_exp, w_init, w_nil, w_cons, w_for, w_forF, w_whl, wp_ok, wp_bad, tst_bl, asI_int, asV_val, asO_own, opt_some, get_0, get_s, Sl.put, begins, List.replicate, List.map_cons, List.map_nil, List.cons_append, List.nil_append, List.append_nil, List.length_cons, List.length_nil, Nat.reduceAdd, Nat.reduceSub, Nat.reduceLeDiff, List.replicate_succ, List.replicate_zero, true_and, and_true, decide_eq_true_eq, if_true, if_false, Bool.false_eq_true, ite_true, ite_false, decide_true, decide_false, Bool.not_true, Bool.not_false, Bool.not_eq_true', decide_eq_false_iff_not]
    refine w_draw (r := r + 200) (Ro.mono (by omega)) (by decide) (by decide) fun v μ1 v0 v1 R1 => ?_
    simp only [w_esS, w_lc2, w_lc2S, w_r3, w_meth, methW_obj, w_stat, w_appE, appW_o, w_isObj, w_all, w_oo, w_oi, w_oinv, w_oneg, w_olt, w_ole, w_ogt, w_oge, w_oeq, w_rev, tgo_nm, tgo_tp2, tgo_tp3, Sl.wipe, w_var, w_int, w_bl, w_non, w_str, w_con, w_bin, w_un, w_cmp, w_and, w_or, w_one, w_not, w_ife, w_chain, w_isN, w_notN, w_tup, w_lst, w_ix, w_sl, w_call, w_blt, w_fld, w_new, w_app, w_dget, w_dict, w_oix, w_olen, w_lc, w_esN, w_esC, w_oN, w_oS, seq_tup, seq_lst, w_iseq, w_r1, w_r2, w_enum, w_zip, w_zip3, lst_lst, w_add, w_sub, w_mul, w_fdiv, w_mod, w_pow, w_shr, w_lcat, w_tcat, w_neg, w_lt, w_le, w_gt, w_ge, w_eq, w_ne, w_ixt, w_ixl, w_len, w_lenT, w_abs, w_toint, w_totup, w_totupT, w_tolst, w_tolstT, w_divmod, w_min, w_max, w_isInt, w_isBool, w_isTup, w_lcm, w_set, w_bld, w_par, slot_f, slot_t, w_unp, w_appd, w_put, w_dput, w_dput2, w_frz, w_if, w_ret, w_retN, w_brk, w_cnt, w_pas, w_never, w_exp, w_init, w_nil, w_cons, w_for, w_forF, w_whl, wp_ok, wp_bad, tst_bl, asI_int, asV_val, asO_own, opt_some, get_0, get_s, Sl.put, begins, List.replicate, List.map_cons, List.map_nil, List.cons_append, List.nil_append, List.append_nil, List.length_cons, List.length_nil, Nat.reduceAdd, Nat.reduceSub, Nat.reduceLeDiff, List.replicate_succ, List.replicate_zero, true_and, and_true, decide_eq_true_eq, if_true, if_false, Bool.false_eq_true, ite_true, ite_false, decide_true, decide_false, Bool.not_true, Bool.not_false, Bool.not_eq_true', decide_eq_false_iff_not, zip_pr]
    obtain ⟨T, bv⟩ := tel_steps (v := v - 12) (by omega) hA hl pw bd e1 e2 (by omega : R.sum = p0)
    refine for_inv (fun items ρ μ => ∃ (S rest : List (Int × Int)) (w : Int) (x' y' : Sl), items = rest.map pr ∧ ρ = [.val (.cel 0), .val (.int size), .val (.int p0), .val (.lst (A.map .int)), .val (.lst (R.map .int)), x, .val (.int w), .own (S.map pr), x', y', .und, .und, .und, y] ∧ S ++ stepsF w rest = stepsF (v - 12) (A.zip R) ∧ Room (r + 200) μ) ?step2 ?done2 ?init2
    case init2 => exact ⟨[], A.zip R, v - 12, .und, .und, rfl, rfl, rfl, R1⟩
    case step2 =>
      rintro d ds ρ μ ⟨S, rest, w, x', y', e4, rfl, e5, R2⟩
      cases rest with
      | nil => cases e4
      | cons q rest =>
        obtain ⟨rfl, rfl⟩ := List.cons.inj e4
        obtain ⟨a, b⟩ := q
        simp only [w_esS, w_lc2, w_lc2S, w_r3, w_meth, methW_obj, w_stat, w_appE, appW_o, w_isObj, w_all, w_oo, w_oi, w_oinv, w_oneg, w_olt, w_ole, w_ogt, w_oge, w_oeq, w_rev, tgo_nm, tgo_tp2, tgo_tp3, Sl.wipe, w_var, w_int, w_bl, w_non, w_str, w_con, w_bin, w_un, w_cmp, w_and, w_or, w_one, w_not, w_ife, w_chain, w_isN, w_notN, w_tup, w_lst, w_ix, w_sl, w_call, w_blt, w_fld, w_new, w_app, w_dget, w_dict, w_oix, w_olen, w_lc, w_esN, w_esC, w_oN, w_oS, seq_tup, seq_lst, w_iseq, w_r1, w_r2, w_enum, w_zip, w_zip3, lst_lst, w_add, w_sub, w_mul, w_fdiv, w_mod, w_pow, w_shr, w_lcat, w_tcat, w_neg, w_lt, w_le, w_gt, w_ge, w_eq, w_ne, w_ixt, w_ixl, w_len, w_lenT, w_abs, w_toint, w_totup, w_totupT, w_tolst, w_tolstT, w_divmod, w_min, w_max, w_isInt, w_isBool, w_isTup, w_lcm, w_set, w_bld, w_par, slot_f, slot_t, w_unp, w_appd, w_put, w_dput, w_dput2, w_frz, w_if, w_ret, w_retN, w_brk, w_cnt, w_pas, w_never, w_exp, w_init, w_nil, w_cons, w_for, w_forF, w_whl, wp_ok, wp_bad, tst_bl, asI_int, asV_val, asO_own, opt_some, get_0, get_s, Sl.put, begins, List.replicate, List.map_cons, List.map_nil, List.cons_append, List.nil_append, List.append_nil, List.length_cons, List.length_nil, Nat.reduceAdd, Nat.reduceSub, Nat.reduceLeDiff, List.replicate_succ, List.replicate_zero, true_and, and_true, decide_eq_true_eq, if_true, if_false, Bool.false_eq_true, ite_true, ite_false, decide_true, decide_false, Bool.not_true, Bool.not_false, Bool.not_eq_true', decide_eq_false_iff_not, List.length_map]
        have : (S ++ stepsF w ((a, b) :: rest)).length ≤ 4096 := by rw [e5]; exact T.few
        rw [List.length_append] at this
        refine ⟨by omega, S ++ [(a, w + b)], rest, w + b, .val (.int a), .val (.int b), rfl, by simp, ?_, R2⟩
        rw [List.append_assoc]
        exact e5
    case done2 =>
      rintro ρ μ ⟨S, rest, w, x', y', e4, rfl, e5, R2⟩
      have : rest = [] := by
        cases rest with
        | nil => rfl
        | cons => cases e4
      subst this
      rw [stepsF, List.append_nil] at e5
      rw [← e5] at T bv
      simp only [w_esS, w_lc2, w_lc2S, w_r3, w_meth, methW_obj, w_stat, w_appE, appW_o, w_isObj, w_all, w_oo, w_oi, w_oinv, w_oneg, w_olt, w_ole, w_ogt, w_oge, w_oeq, w_rev, tgo_nm, tgo_tp2, tgo_tp3, Sl.wipe, w_var, w_int, w_bl, w_non, w_str, w_con, w_bin, w_un, w_cmp, w_and, w_or, w_one, w_not, w_ife, w_chain, w_isN, w_notN, w_tup, w_lst, w_ix, w_sl, w_call, w_blt, w_fld, w_new, w_app, w_dget, w_dict, w_oix, w_olen, w_lc, w_esN, w_esC, w_oN, w_oS, seq_tup, seq_lst, w_iseq, w_r1, w_r2, w_enum, w_zip, w_zip3, lst_lst, w_add, w_sub, w_mul, w_fdiv, w_mod, w_pow, w_shr, w_lcat, w_tcat, w_neg, w_lt, w_le, w_gt, w_ge, w_eq, w_ne, w_ixt, w_ixl, w_len, w_lenT, w_abs, w_toint, w_totup, w_totupT, w_tolst, w_tolstT, w_divmod, w_min, w_max, w_isInt, w_isBool, w_isTup, w_lcm, w_set, w_bld, w_par, slot_f, slot_t, w_unp, w_appd, w_put, w_dput, w_dput2, w_frz, w_if, w_ret, w_retN, w_brk, w_cnt, w_pas, w_never, w_exp, w_init, w_nil, w_cons, w_for, w_forF, w_whl, wp_ok, wp_bad, tst_bl, asI_int, asV_val, asO_own, opt_some, get_0, get_s, Sl.put, begins, List.replicate, List.map_cons, List.map_nil, List.cons_append, List.nil_append, List.append_nil, List.length_cons, List.length_nil, Nat.reduceAdd, Nat.reduceSub, Nat.reduceLeDiff, List.replicate_succ, List.replicate_zero, true_and, and_true, decide_eq_true_eq, if_true, if_false, Bool.false_eq_true, ite_true, ite_false, decide_true, decide_false, Bool.not_true, Bool.not_false, Bool.not_eq_true', decide_eq_false_iff_not]
      refine w_draw (r := r + 100) (R2.mono (by omega)) (by decide) (by decide) fun i μ2 i0 i1 R3 => ?_
      have E : ∃ n : Nat, 1 ≤ n ∧ n ≤ 3 ∧ at? [D.int 1, D.int 1, D.int 2, D.int 3] i = some (.int n) := by
        rcases (by omega : i = 0 ∨ i = 1 ∨ i = 2 ∨ i = 3) with rfl | rfl | rfl | rfl
        · exact ⟨1, by omega, by omega, rfl⟩
        · exact ⟨1, by omega, by omega, rfl⟩
        · exact ⟨2, by omega, by omega, rfl⟩
        · exact ⟨3, by omega, by omega, rfl⟩
      obtain ⟨n, n1, n2, en⟩ := E
      simp only [w_esS, w_lc2, w_lc2S, w_r3, w_meth, methW_obj, w_stat, w_appE, appW_o, w_isObj, w_all, w_oo, w_oi, w_oinv, w_oneg, w_olt, w_ole, w_ogt, w_oge, w_oeq, w_rev, tgo_nm, tgo_tp2, tgo_tp3, Sl.wipe, w_var, w_int, w_bl, w_non, w_str, w_con, w_bin, w_un, w_cmp, w_and, w_or, w_one, w_not, w_ife, w_chain, w_isN, w_notN, w_tup, w_lst, w_ix, w_sl, w_call, w_blt, w_fld, w_new, w_app, w_dget, w_dict, w_oix, w_olen, w_lc, w_esN, w_esC, w_oN, w_oS, seq_tup, seq_lst, w_iseq, w_r1, w_r2, w_enum, w_zip, w_zip3, lst_lst, w_add, w_sub, w_mul, w_fdiv, w_mod, w_pow, w_shr, w_lcat, w_tcat, w_neg, w_lt, w_le, w_gt, w_ge, w_eq, w_ne, w_ixt, w_ixl, w_len, w_lenT, w_abs, w_toint, w_totup, w_totupT, w_tolst, w_tolstT, w_divmod, w_min, w_max, w_isInt, w_isBool, w_isTup, w_lcm, w_set, w_bld, w_par, slot_f, slot_t, w_unp, w_appd, w_put, w_dput, w_dput2, w_frz, w_if, w_ret, w_retN, w_brk, w_cnt, w_pas, w_never, w_exp, w_init, w_nil, w_cons, w_for, w_forF, w_whl, wp_ok, wp_bad, tst_bl, asI_int, asV_val, asO_own, opt_some, get_0, get_s, Sl.put, begins, List.replicate, List.map_cons, List.map_nil, List.cons_append, List.nil_append, List.append_nil, List.length_cons, List.length_nil, Nat.reduceAdd, Nat.reduceSub, Nat.reduceLeDiff, List.replicate_succ, List.replicate_zero, true_and, and_true, decide_eq_true_eq, if_true, if_false, Bool.false_eq_true, ite_true, ite_false, decide_true, decide_false, Bool.not_true, Bool.not_false, Bool.not_eq_true', decide_eq_false_iff_not, en]
      refine for_inv (fun items ρ μ => ∃ (j : Nat) (x'' : Sl), j + items.length = n ∧ items = (List.range' j items.length).map (fun (i : Nat) => D.int (i : Int)) ∧ ρ = [.val (.cel 0), .val (.int size), .val (.int p0), .val (.lst (A.map .int)), .val (.lst (R.map .int)), x, .val (.int w), .val (.lst (S.map pr)), x', y', .val (.lst ((rowsF p0 S j).map pr)), .val (.int n), x'', y] ∧ Room (r + 100) μ) ?step3 ?done3 ?init3
      case init3 =>
        refine ⟨0, .und, by rw [rngs_len]; omega, ?_, by simp [rowsF], R3⟩
        rw [rngs_len, rngs_eq]
        exact List.map_congr_left fun i _ => by rw [Int.zero_add]
      case step3 =>
        rintro d ds ρ μ ⟨j, x'', e6, e7, rfl, R4⟩
        rw [List.length_cons, List.range'_succ, List.map_cons] at e7
        obtain ⟨rfl, e8⟩ := List.cons.inj e7
        rw [List.length_cons] at e6
        have hj : (j : Int).natAbs.log2 + p0.natAbs.log2 < 1000000 := lg2 (by omega) (by omega) (by omega) (by omega)
        have L2 : lcgo (lcStep P (run P fds (k + 1)) [8, 6] (.tp [8, 6]) .none (.tup (.cons (.bin .Add (.var 8) (.bin .Mult (.var 12) (.var 2))) (.cons (.bin .Add (.var 6) (.bin .Mult (.var 12) (.var 2))) .nil))) [.val (.cel 0), .val (.int size), .val (.int p0), .val (.lst (A.map .int)), .val (.lst (R.map .int)), x, .val (.int w), .val (.lst (S.map pr)), x', y', .val (.lst ((rowsF p0 S j).map pr)), .val (.int n), .val (.int (j : Int)), y]) (S.map pr) μ = .ok (S.map fun q => pr (q.1 + (j : Int) * p0, q.2 + (j : Int) * p0)) μ := lc_prs fun q _ => by
          obtain ⟨d, μ', e, h⟩ := Out.wp_iff.mp (show (lcStep P (run P fds (k + 1)) [8, 6] (.tp [8, 6]) .none (.tup (.cons (.bin .Add (.var 8) (.bin .Mult (.var 12) (.var 2))) (.cons (.bin .Add (.var 6) (.bin .Mult (.var 12) (.var 2))) .nil))) [.val (.cel 0), .val (.int size), .val (.int p0), .val (.lst (A.map .int)), .val (.lst (R.map .int)), x, .val (.int w), .val (.lst (S.map pr)), x', y', .val (.lst ((rowsF p0 S j).map pr)), .val (.int n), .val (.int (j : Int)), y] (pr q) μ).wp fun o μ' => o = some (pr (q.1 + (j : Int) * p0, q.2 + (j : Int) * p0)) ∧ μ' = μ by
            simp only [w_lcN, w_esS, w_lc2, w_lc2S, w_r3, w_meth, methW_obj, w_stat, w_appE, appW_o, w_isObj, w_all, w_oo, w_oi, w_oinv, w_oneg, w_olt, w_ole, w_ogt, w_oge, w_oeq, w_rev, tgo_nm, tgo_tp2, tgo_tp3, Sl.wipe, w_var, w_int, w_bl, w_non, w_str, w_con, w_bin, w_un, w_cmp, w_and, w_or, w_one, w_not, w_ife, w_chain, w_isN, w_notN, w_tup, w_lst, w_ix, w_sl, w_call, w_blt, w_fld, w_new, w_app, w_dget, w_dict, w_oix, w_olen, w_lc, w_esN, w_esC, w_oN, w_oS, seq_tup, seq_lst, w_iseq, w_r1, w_r2, w_enum, w_zip, w_zip3, lst_lst, w_add, w_sub, w_mul, w_fdiv, w_mod, w_pow, w_shr, w_lcat, w_tcat, w_neg, w_lt, w_le, w_gt, w_ge, w_eq, w_ne, w_ixt, w_ixl, w_len, w_lenT, w_abs, w_toint, w_totup, w_totupT, w_tolst, w_tolstT, w_divmod, w_min, w_max, w_isInt, w_isBool, w_isTup, w_lcm, w_set, w_bld, w_par, slot_f, slot_t, w_unp, w_appd, w_put, w_dput, w_dput2, w_frz, w_if, w_ret, w_retN, w_brk, w_cnt, w_pas, w_never, w_exp, w_init, w_nil, w_cons, w_for, w_forF, w_whl, wp_ok, wp_bad, tst_bl, asI_int, asV_val, asO_own, opt_some, get_0, get_s, Sl.put, begins, List.replicate, List.map_cons, List.map_nil, List.cons_append, List.nil_append, List.append_nil, List.length_cons, List.length_nil, Nat.reduceAdd, Nat.reduceSub, Nat.reduceLeDiff, List.replicate_succ, List.replicate_zero, true_and, and_true, decide_eq_true_eq, if_true, if_false, Bool.false_eq_true, ite_true, ite_false, decide_true, decide_false, Bool.not_true, Bool.not_false, Bool.not_eq_true', decide_eq_false_iff_not]
            exact ⟨hj, hj⟩)
          rw [e, h.1, h.2]
        have hlen : (rowsF p0 S (j + 1)).length ≤ 16777216 := by
          rw [rows_len]
          have := T.few
          have := Nat.mul_le_mul (show j + 1 ≤ 3 by omega) this
          omega
        have e9 : (rowsF p0 S j).map pr ++ (S.map fun q => pr (q.1 + (j : Int) * p0, q.2 + (j : Int) * p0)) = (rowsF p0 S (j + 1)).map pr := by
          rw [rowsF, List.map_append, List.map_map]; rfl
        simp only [w_esS, w_lc2, w_lc2S, w_r3, w_meth, methW_obj, w_stat, w_appE, appW_o, w_isObj, w_all, w_oo, w_oi, w_oinv, w_oneg, w_olt, w_ole, w_ogt, w_oge, w_oeq, w_rev, tgo_nm, tgo_tp2, tgo_tp3, Sl.wipe, w_var, w_int, w_bl, w_non, w_str, w_con, w_bin, w_un, w_cmp, w_and, w_or, w_one, w_not, w_ife, w_chain, w_isN, w_notN, w_tup, w_lst, w_ix, w_sl, w_call, w_blt, w_fld, w_new, w_app, w_dget, w_dict, w_oix, w_olen, w_lc, w_esN, w_esC, w_oN, w_oS, seq_tup, seq_lst, w_iseq, w_r1, w_r2, w_enum, w_zip, w_zip3, lst_lst, w_add, w_sub, w_mul, w_fdiv, w_mod, w_pow, w_shr, w_lcat, w_tcat, w_neg, w_lt, w_le, w_gt, w_ge, w_eq, w_ne, w_ixt, w_ixl, w_len, w_lenT, w_abs, w_toint, w_totup, w_totupT, w_tolst, w_tolstT, w_divmod, w_min, w_max, w_isInt, w_isBool, w_isTup, w_lcm, w_set, w_bld, w_par, slot_f, slot_t, w_unp, w_appd, w_put, w_dput, w_dput2, w_frz, w_if, w_ret, w_retN, w_brk, w_cnt, w_pas, w_never, w_exp, w_init, w_nil, w_cons, w_for, w_forF, w_whl, wp_ok, wp_bad, tst_bl, asI_int, asV_val, asO_own, opt_some, get_0, get_s, Sl.put, begins, List.replicate, List.map_cons, List.map_nil, List.cons_append, List.nil_append, List.append_nil, List.length_cons, List.length_nil, Nat.reduceAdd, Nat.reduceSub, Nat.reduceLeDiff, List.replicate_succ, List.replicate_zero, true_and, and_true, decide_eq_true_eq, if_true, if_false, Bool.false_eq_true, ite_true, ite_false, decide_true, decide_false, Bool.not_true, Bool.not_false, Bool.not_eq_true', decide_eq_false_iff_not, L2, e9, List.length_map]
        refine ⟨by have := T.few; omega, hlen, j + 1, .val (.int (j : Int)), by omega, e8, rfl, R4⟩
      case done3 =>
        rintro ρ μ ⟨j, x'', e6, e7, rfl, R4⟩
        simp only [List.length_nil, Nat.add_zero] at e6
        subst e6
        simp only [w_esS, w_lc2, w_lc2S, w_r3, w_meth, methW_obj, w_stat, w_appE, appW_o, w_isObj, w_all, w_oo, w_oi, w_oinv, w_oneg, w_olt, w_ole, w_ogt, w_oge, w_oeq, w_rev, tgo_nm, tgo_tp2, tgo_tp3, Sl.wipe, w_var, w_int, w_bl, w_non, w_str, w_con, w_bin, w_un, w_cmp, w_and, w_or, w_one, w_not, w_ife, w_chain, w_isN, w_notN, w_tup, w_lst, w_ix, w_sl, w_call, w_blt, w_fld, w_new, w_app, w_dget, w_dict, w_oix, w_olen, w_lc, w_esN, w_esC, w_oN, w_oS, seq_tup, seq_lst, w_iseq, w_r1, w_r2, w_enum, w_zip, w_zip3, lst_lst, w_add, w_sub, w_mul, w_fdiv, w_mod, w_pow, w_shr, w_lcat, w_tcat, w_neg, w_lt, w_le, w_gt, w_ge, w_eq, w_ne, w_ixt, w_ixl, w_len, w_lenT, w_abs, w_toint, w_totup, w_totupT, w_tolst, w_tolstT, w_divmod, w_min, w_max, w_isInt, w_isBool, w_isTup, w_lcm, w_set, w_bld, w_par, slot_f, slot_t, w_unp, w_appd, w_put, w_dput, w_dput2, w_frz, w_if, w_ret, w_retN, w_brk, w_cnt, w_pas, w_never, w_exp, w_init, w_nil, w_cons, w_for, w_forF, w_whl, wp_ok, wp_bad, tst_bl, asI_int, asV_val, asO_own, opt_some, get_0, get_s, Sl.put, begins, List.replicate, List.map_cons, List.map_nil, List.cons_append, List.nil_append, List.append_nil, List.length_cons, List.length_nil, Nat.reduceAdd, Nat.reduceSub, Nat.reduceLeDiff, List.replicate_succ, List.replicate_zero, true_and, and_true, decide_eq_true_eq, if_true, if_false, Bool.false_eq_true, ite_true, ite_false, decide_true, decide_false, Bool.not_true, Bool.not_false, Bool.not_eq_true', decide_eq_false_iff_not]
        have hS : S.length ≤ 100 := by
          have := congrArg List.length e5
          rw [steps_len, List.length_zip] at this
          omega
        refine ⟨lg2 (by omega) (by omega) (by omega) (by omega), ?_⟩
        refine h _ _ _ (rows_tel T (by omega) (by have := Nat.mul_le_mul n2 hS; omega)) ?_ (fun q hq => ?_) (R4.mono (by omega)) ⟨p0, j, hp1, hp2, n1, n2, rfl, S, T, rfl, fun s hs => by have := bv s hs; omega⟩
        · have := Int.mul_le_mul_of_nonneg_left (show (j : Int) ≤ 3 by omega) (show 0 ≤ p0 by omega)
          omega
        · obtain ⟨i', s, g1, g2, rfl⟩ := rows_mem hq
          have := bv s g2
          have m := mul_mono (show 0 < p0 by omega) (show i' + 1 ≤ j by omega)
          have m0 := mul_mono (show 0 < p0 by omega) (Nat.zero_le i')
          rw [show ((i' + 1 : Nat) : Int) = (i' : Int) + 1 by omega, Int.add_mul, Int.one_mul, Int.mul_comm (j : Int)] at m
          simp only [Int.natCast_zero, Int.zero_mul] at m0
          dsimp only
          exact ⟨by omega, by omega⟩
theorem w_stairB {k r : Nat} {size : Int} {μ : Mu} {Q : D → Mu → Prop} (hs : 0 < size) (hs2 : size ≤ 100) (hr : Room (r + 1000) μ) (h : ∀ p l μ', Tel p l → p ≤ 3 * size → (∀ q ∈ l, -12 ≤ q.2 ∧ q.2 ≤ 12 + p) → Room r μ' → (∃ (p0 : Int) (j : Nat), 1 ≤ p0 ∧ p0 ≤ size ∧ 1 ≤ j ∧ j ≤ 3 ∧ p = p0 * (j : Int) ∧ ∃ S, Tel p0 S ∧ l = rowsF p0 S j ∧ ∀ s ∈ S, -12 ≤ s.2 ∧ s.2 ≤ 12 + p0) → Q (.tup [.int p, tp l]) μ') :
    (run P fds (k + 2) n__law_stair [.cel 0, .int size] μ).wp Q := by
  refine wp_run rfl rfl ?_
  show (exss P _ b__law_stair [.val (.cel 0), .val (.int size), .und, .und, .und, .und, .und, .und, .und, .und, .und, .und, .und, .und] _).wp _ _ _ _
  simp only [b__law_stair, w_esS, w_lc2, w_lc2S, w_r3, w_meth, methW_obj, w_stat, w_appE, appW_o, w_isObj, w_all, w_oo, w_oi, w_oinv, w_oneg, w_olt, w_ole, w_ogt, w_oge, w_oeq, w_rev, tgo_nm, tgo_tp2, tgo_tp3, Sl.wipe, w_var, w_int, w_bl, w_non, w_str, w_con, w_bin, w_un, w_cmp, w_and, w_or, w_one, w_not, w_ife, w_chain, w_isN, w_notN, w_tup, w_lst, w_ix, w_sl, w_call, w_blt, w_fld, w_new, w_app, w_dget, w_dict, w_oix, w_olen, w_lc, w_esN, w_esC, w_oN, w_oS, seq_tup, seq_lst, w_iseq, w_r1, w_r2, w_enum, w_zip, w_zip3, lst_lst, w_add, w_sub, w_mul, w_fdiv, w_mod, w_pow, w_shr, w_lcat, w_tcat, w_neg, w_lt, w_le, w_gt, w_ge, w_eq, w_ne, w_ixt, w_ixl, w_len, w_lenT, w_abs, w_toint, w_totup, w_totupT, w_tolst, w_tolstT, w_divmod, w_min, w_max, w_isInt, w_isBool, w_isTup, w_lcm, w_set, w_bld, w_par, slot_f, slot_t, w_unp, w_appd, w_put, w_dput, w_dput2, w_frz, w_if, w_ret, w_retN, w_brk, w_cnt, w_pas, w_never, w_exp, w_init, w_nil, w_cons, w_for, w_forF, w_whl, wp_ok, wp_bad, tst_bl, asI_int, asV_val, asO_own, opt_some, get_0, get_s, Sl.put, begins, List.replicate, List.map_cons, List.map_nil, List.cons_append, List.nil_append, List.append_nil, List.length_cons, List.length_nil, Nat.reduceAdd, Nat.reduceSub, Nat.reduceLeDiff, List.replicate_succ, List.replicate_zero, true_and, and_true, decide_eq_true_eq, if_true, if_false, Bool.false_eq_true, ite_true, ite_false, decide_true, decide_false, Bool.not_true, Bool.not_false, Bool.not_eq_true', decide_eq_false_iff_not]
  refine w_draw (r := r + 999) hr hs (by omega) fun x μ1 x0 x1 R1 => ?_
  simp only [w_esS, w_lc2, w_lc2S, w_r3, w_meth, methW_obj, w_stat, w_appE, appW_o, w_isObj, w_all, w_oo, w_oi, w_oinv, w_oneg, w_olt, w_ole, w_ogt, w_oge, w_oeq, w_rev, tgo_nm, tgo_tp2, tgo_tp3, Sl.wipe, w_var, w_int, w_bl, w_non, w_str, w_con, w_bin, w_un, w_cmp, w_and, w_or, w_one, w_not, w_ife, w_chain, w_isN, w_notN, w_tup, w_lst, w_ix, w_sl, w_call, w_blt, w_fld, w_new, w_app, w_dget, w_dict, w_oix, w_olen, w_lc, w_esN, w_esC, w_oN, w_oS, seq_tup, seq_lst, w_iseq, w_r1, w_r2, w_enum, w_zip, w_zip3, lst_lst, w_add, w_sub, w_mul, w_fdiv, w_mod, w_pow, w_shr, w_lcat, w_tcat, w_neg, w_lt, w_le, w_gt, w_ge, w_eq, w_ne, w_ixt, w_ixl, w_len, w_lenT, w_abs, w_toint, w_totup, w_totupT, w_tolst, w_tolstT, w_divmod, w_min, w_max, w_isInt, w_isBool, w_isTup, w_lcm, w_set, w_bld, w_par, slot_f, slot_t, w_unp, w_appd, w_put, w_dput, w_dput2, w_frz, w_if, w_ret, w_retN, w_brk, w_cnt, w_pas, w_never, w_exp, w_init, w_nil, w_cons, w_for, w_forF, w_whl, wp_ok, wp_bad, tst_bl, asI_int, asV_val, asO_own, opt_some, get_0, get_s, Sl.put, begins, List.replicate, List.map_cons, List.map_nil, List.cons_append, List.nil_append, List.append_nil, List.length_cons, List.length_nil, Nat.reduceAdd, Nat.reduceSub, Nat.reduceLeDiff, List.replicate_succ, List.replicate_zero, true_and, and_true, decide_eq_true_eq, if_true, if_false, Bool.false_eq_true, ite_true, ite_false, decide_true, decide_false, Bool.not_true, Bool.not_false, Bool.not_eq_true', decide_eq_false_iff_not]
  generalize hp0 : 1 + x = p0
  have hp1 : 1 ≤ p0 := by omega
  have hp2 : p0 ≤ size := by omega
  refine lcgo_inv (fun acc rest μ => ∃ (A : List Int) (j : Nat), acc = A.map .int ∧ (j : Int) + (rest.length : Int) = p0 ∧ rest = (List.range' j rest.length).map (fun (i : Nat) => D.int (i : Int)) ∧ A.Pairwise (· < ·) ∧ (∀ a ∈ A, 0 ≤ a ∧ a < (j : Int)) ∧ A.length ≤ j ∧ Room (r + 800 + rest.length) μ) ?step1 ?done1 ?init1
  case init1 =>
    refine ⟨[], 0, rfl, by rw [rngs_len]; omega, ?_, List.Pairwise.nil, ?_, Nat.le_refl _, by rw [rngs_len]; exact R1.mono (by omega)⟩
    rotate_left
    · intro a h; cases h
    rw [rngs_len, rngs_eq]
    exact List.map_congr_left fun i _ => by rw [Int.zero_add]
  case step1 =>
    rintro acc d ds μ ⟨A, j, rfl, e1, e2, pw, bd, al, R⟩
    rw [List.length_cons, List.range'_succ, List.map_cons] at e2
    obtain ⟨rfl, e3⟩ := List.cons.inj e2
    rw [List.length_cons] at e1 R
    simp only [w_lcC, w_esS, w_lc2, w_lc2S, w_r3, w_meth, methW_obj, w_stat, w_appE, appW_o, w_isObj, w_all, w_oo, w_oi, w_oinv, w_oneg, w_olt, w_ole, w_ogt, w_oge, w_oeq, w_rev, tgo_nm, tgo_tp2, tgo_tp3, Sl.wipe, w_var, w_int, w_bl, w_non, w_str, w_con, w_bin, w_un, w_cmp, w_and, w_or, w_one, w_not, w_ife, w_chain, w_isN, w_notN, w_tup, w_lst, w_ix, w_sl, w_call, w_blt, w_fld, w_new, w_app, w_dget, w_dict, w_oix, w_olen, w_lc, w_esN, w_esC, w_oN, w_oS, seq_tup, seq_lst, w_iseq, w_r1, w_r2, w_enum, w_zip, w_zip3, lst_lst, w_add, w_sub, w_mul, w_fdiv, w_mod, w_pow, w_shr, w_lcat, w_tcat, w_neg, w_lt, w_le, w_gt, w_ge, w_eq, w_ne, w_ixt, w_ixl, w_len, w_lenT, w_abs, w_toint, w_totup, w_totupT, w_tolst, w_tolstT, w_divmod, w_min, w_max, w_isInt, w_isBool, w_isTup, w_lcm, w_set, w_bld, w_par, slot_f, slot_t, w_unp, w_appd, w_put, w_dput, w_dput2, w_frz, w_if, w_ret, w_retN, w_brk, w_cnt, w_pas, w_never, w_exp, w_init, w_nil, w_cons, w_for, w_forF, w_whl, wp_ok, wp_bad, tst_bl, asI_int, asV_val, asO_own, opt_some, get_0, get_s, Sl.put, begins, List.replicate, List.map_cons, List.map_nil, List.cons_append, List.nil_append, List.append_nil, List.length_cons, List.length_nil, Nat.reduceAdd, Nat.reduceSub, Nat.reduceLeDiff, List.replicate_succ, List.replicate_zero, true_and, and_true, decide_eq_true_eq, if_true, if_false, Bool.false_eq_true, ite_true, ite_false, decide_true, decide_false, Bool.not_true, Bool.not_false, Bool.not_eq_true', decide_eq_false_iff_not]
    refine w_draw (r := r + 800 + ds.length) R (by decide) (by decide) fun x μ2 x0 x1 R2 => ?_
    simp only [w_esS, w_lc2, w_lc2S, w_r3, w_meth, methW_obj, w_stat, w_appE, appW_o, w_isObj, w_all, w_oo, w_oi, w_oinv, w_oneg, w_olt, w_ole, w_ogt, w_oge, w_oeq, w_rev, tgo_nm, tgo_tp2, tgo_tp3, Sl.wipe, w_var, w_int, w_bl, w_non, w_str, w_con, w_bin, w_un, w_cmp, w_and, w_or, w_one, w_not, w_ife, w_chain, w_isN, w_notN, w_tup, w_lst, w_ix, w_sl, w_call, w_blt, w_fld, w_new, w_app, w_dget, w_dict, w_oix, w_olen, w_lc, w_esN, w_esC, w_oN, w_oS, seq_tup, seq_lst, w_iseq, w_r1, w_r2, w_enum, w_zip, w_zip3, lst_lst, w_add, w_sub, w_mul, w_fdiv, w_mod, w_pow, w_shr, w_lcat, w_tcat, w_neg, w_lt, w_le, w_gt, w_ge, w_eq, w_ne, w_ixt, w_ixl, w_len, w_lenT, w_abs, w_toint, w_totup, w_totupT, w_tolst, w_tolstT, w_divmod, w_min, w_max, w_isInt, w_isBool, w_isTup, w_lcm, w_set, w_bld, w_par, slot_f, slot_t, w_unp, w_appd, w_put, w_dput, w_dput2, w_frz, w_if, w_ret, w_retN, w_brk, w_cnt, w_pas, w_never, w_exp, w_init, w_nil, w_cons, w_for, w_forF, w_whl, wp_ok, wp_bad, tst_bl, asI_int, asV_val, asO_own, opt_some, get_0, get_s, Sl.put, begins, List.replicate, List.map_cons, List.map_nil, List.cons_append, List.nil_append, List.append_nil, List.length_cons, List.length_nil, Nat.reduceAdd, Nat.reduceSub, Nat.reduceLeDiff, List.replicate_succ, List.replicate_zero, true_and, and_true, decide_eq_true_eq, if_true, if_false, Bool.false_eq_true, ite_true, ite_false, decide_true, decide_false, Bool.not_true, Bool.not_false, Bool.not_eq_true', decide_eq_false_iff_not]
    by_cases hx : x = 0
    · rw [if_pos hx]
      refine ⟨A ++ [(j : Int)], j + 1, by simp, by omega, e3, ?_, fun a ha => ?_, by simp; omega, R2⟩
      · refine List.pairwise_append.mpr ⟨pw, List.pairwise_singleton _ _, fun a ha b hb => ?_⟩
        have := bd a ha
        rw [List.mem_singleton] at hb
        omega
      · rcases List.mem_append.mp ha with ha | ha
        · have := bd a ha
          omega
        · rw [List.mem_singleton] at ha
          omega
    · rw [if_neg hx]
      refine ⟨A, j + 1, by simp, by omega, e3, pw, fun a ha => ?_, by omega, R2⟩
      have := bd a ha
      omega
  case done1 =>
    rintro acc μ2 ⟨A, j, rfl, e1, _, pw, bd, al, R2⟩
    simp only [List.length_nil] at e1 R2
    simp only [w_esS, w_lc2, w_lc2S, w_r3, w_meth, methW_obj, w_stat, w_appE, appW_o, w_isObj, w_all, w_oo, w_oi, w_oinv, w_oneg, w_olt, w_ole, w_ogt, w_oge, w_oeq, w_rev, tgo_nm, tgo_tp2, tgo_tp3, Sl.wipe, w_var, w_int, w_bl, w_non, w_str, w_con, w_bin, w_un, w_cmp, w_and, w_or, w_one, w_not, w_ife, w_chain, w_isN, w_notN, w_tup, w_lst, w_ix, w_sl, w_call, w_blt, w_fld, w_new, w_app, w_dget, w_dict, w_oix, w_olen, w_lc, w_esN, w_esC, w_oN, w_oS, seq_tup, seq_lst, w_iseq, w_r1, w_r2, w_enum, w_zip, w_zip3, lst_lst, w_add, w_sub, w_mul, w_fdiv, w_mod, w_pow, w_shr, w_lcat, w_tcat, w_neg, w_lt, w_le, w_gt, w_ge, w_eq, w_ne, w_ixt, w_ixl, w_len, w_lenT, w_abs, w_toint, w_totup, w_totupT, w_tolst, w_tolstT, w_divmod, w_min, w_max, w_isInt, w_isBool, w_isTup, w_lcm, w_set, w_bld, w_par, slot_f, slot_t, w_unp, w_appd, w_put, w_dput, w_dput2, w_frz, w_if, w_ret, w_retN, w_brk, w_cnt, w_pas, w_never, w_exp, w_init, w_nil, w_cons, w_for, w_forF, w_whl, wp_ok, wp_bad, tst_bl, asI_int, asV_val, asO_own, opt_some, get_0, get_s, Sl.put, begins, List.replicate, List.map_cons, List.map_nil, List.cons_append, List.nil_append, List.append_nil, List.length_cons, List.length_nil, Nat.reduceAdd, Nat.reduceSub, Nat.reduceLeDiff, List.replicate_succ, List.replicate_zero, true_and, and_true, decide_eq_true_eq, if_true, if_false, Bool.false_eq_true, ite_true, ite_false, decide_true, decide_false, Bool.not_true, Bool.not_false, Bool.not_eq_true', decide_eq_false_iff_not, w_neI, List.length_map]
    refine ⟨by omega, ?_⟩
    by_cases hA : A = []
    · rw [if_neg (by simpa using hA)]
      refine w_draw (r := r + 700) (R2.mono (by omega)) (by omega) (by omega) fun a μ3 a0 a1 R3 => ?_
      have z := w_stair_rest (k := k) (A := [a]) hp1 hp2 hs2 (by simp) (List.pairwise_singleton _ _) (fun b hb => by rw [List.mem_singleton] at hb; omega) (by simp) (R3.mono (by omega)) h
      simp only [b__law_stair, Ss.drop, w_esS, w_lc2, w_lc2S, w_r3, w_meth, methW_obj, w_stat, w_appE, appW_o, w_isObj, w_all, w_oo, w_oi, w_oinv, w_oneg, w_olt, w_ole, w_ogt, w_oge, w_oeq, w_rev, tgo_nm, tgo_tp2, tgo_tp3, Sl.wipe, w_var, w_int, w_bl, w_non, w_str, w_con, w_bin, w_un, w_cmp, w_and, w_or, w_one, w_not, w_ife, w_chain, w_isN, w_notN, w_tup, w_lst, w_ix, w_sl, w_call, w_blt, w_fld, w_new, w_app, w_dget, w_dict, w_oix, w_olen, w_lc, w_esN, w_esC, w_oN, w_oS, seq_tup, seq_lst, w_iseq, w_r1, w_r2, w_enum, w_zip, w_zip3, lst_lst, w_add, w_sub, w_mul, w_fdiv, w_mod, w_pow, w_shr, w_lcat, w_tcat, w_neg, w_lt, w_le, w_gt, w_ge, w_eq, w_ne, w_ixt, w_ixl, w_len, w_lenT, w_abs, w_toint, w_totup, w_totupT, w_tolst, w_tolstT, w_divmod, w_min, w_max, w_isInt, w_isBool, w_isTup, w_lcm, w_set, w_bld, w_par, slot_f, slot_t, w_unp, w_appd, w_put, w_dput, w_dput2, w_frz, w_if, w_ret, w_retN, w_brk, w_cnt, w_pas, w_never, w_exp, w_init, w_nil, w_cons, w_for, w_forF, w_whl, wp_ok, wp_bad, tst_bl, asI_int, asV_val, asO_own, opt_some, get_0, get_s, Sl.put, begins, List.replicate, List.map_cons, List.map_nil, List.cons_append, List.nil_append, List.append_nil, List.length_cons, List.length_nil, Nat.reduceAdd, Nat.reduceSub, Nat.reduceLeDiff, List.replicate_succ, List.replicate_zero, true_and, and_true, decide_eq_true_eq, if_true, if_false, Bool.false_eq_true, ite_true, ite_false, decide_true, decide_false, Bool.not_true, Bool.not_false, Bool.not_eq_true', decide_eq_false_iff_not] at z
      exact z
    · rw [if_pos hA]
      have z := w_stair_rest (k := k) (A := A) hp1 hp2 hs2 hA pw (fun b hb => by have := bd b hb; omega) (by omega) (R2.mono (by omega)) h
      simp only [b__law_stair, Ss.drop, w_esS, w_lc2, w_lc2S, w_r3, w_meth, methW_obj, w_stat, w_appE, appW_o, w_isObj, w_all, w_oo, w_oi, w_oinv, w_oneg, w_olt, w_ole, w_ogt, w_oge, w_oeq, w_rev, tgo_nm, tgo_tp2, tgo_tp3, Sl.wipe, w_var, w_int, w_bl, w_non, w_str, w_con, w_bin, w_un, w_cmp, w_and, w_or, w_one, w_not, w_ife, w_chain, w_isN, w_notN, w_tup, w_lst, w_ix, w_sl, w_call, w_blt, w_fld, w_new, w_app, w_dget, w_dict, w_oix, w_olen, w_lc, w_esN, w_esC, w_oN, w_oS, seq_tup, seq_lst, w_iseq, w_r1, w_r2, w_enum, w_zip, w_zip3, lst_lst, w_add, w_sub, w_mul, w_fdiv, w_mod, w_pow, w_shr, w_lcat, w_tcat, w_neg, w_lt, w_le, w_gt, w_ge, w_eq, w_ne, w_ixt, w_ixl, w_len, w_lenT, w_abs, w_toint, w_totup, w_totupT, w_tolst, w_tolstT, w_divmod, w_min, w_max, w_isInt, w_isBool, w_isTup, w_lcm, w_set, w_bld, w_par, slot_f, slot_t, w_unp, w_appd, w_put, w_dput, w_dput2, w_frz, w_if, w_ret, w_retN, w_brk, w_cnt, w_pas, w_never, w_exp, w_init, w_nil, w_cons, w_for, w_forF, w_whl, wp_ok, wp_bad, tst_bl, asI_int, asV_val, asO_own, opt_some, get_0, get_s, Sl.put, begins, List.replicate, List.map_cons, List.map_nil, List.cons_append, List.nil_append, List.append_nil, List.length_cons, List.length_nil, Nat.reduceAdd, Nat.reduceSub, Nat.reduceLeDiff, List.replicate_succ, List.replicate_zero, true_and, and_true, decide_eq_true_eq, if_true, if_false, Bool.false_eq_true, ite_true, ite_false, decide_true, decide_false, Bool.not_true, Bool.not_false, Bool.not_eq_true', decide_eq_false_iff_not] at z
      exact z
theorem w_stair {k r : Nat} {size : Int} {μ : Mu} {Q : D → Mu → Prop} (hs : 0 < size) (hs2 : size ≤ 100) (hr : Room (r + 1000) μ) (h : ∀ p l μ', Tel p l → p ≤ 3 * size → (∀ q ∈ l, -12 ≤ q.2 ∧ q.2 ≤ 12 + p) → Room r μ' → (∃ (p0 : Int) (j : Nat), 1 ≤ p0 ∧ p0 ≤ size ∧ 1 ≤ j ∧ j ≤ 3 ∧ p = p0 * (j : Int)) → Q (.tup [.int p, tp l]) μ') :
    (run P fds (k + 2) n__law_stair [.cel 0, .int size] μ).wp Q :=
  w_stairB hs hs2 hr fun p l μ' T a b R ⟨p0, j, c, d, e, f, g, _⟩ => h p l μ' T a b R ⟨p0, j, c, d, e, f, g⟩
end Lw
set_option Elab.async false
set_option linter.all false
set_option maxRecDepth 100000
set_option maxHeartbeats 4000000
namespace Lw
open PySem L2 Vw
theorem w_great {k r : Nat} {μ : Mu} {Q : D → Mu → Prop} (hr : Room (r + 20) μ) (h : ∀ z μ', 1 ≤ z → z < 2 ^ 91 → Room r μ' → Q (.int z) μ') : (run P fds (k + 2) n__law_great [.cel 0] μ).wp Q := by
  refine wp_run rfl rfl ?_
  show (exss P _ b__law_great [.val (.cel 0), .und, .und] _).wp _ _ _ _
  simp only [b__law_great, w_esS, w_lc2, w_lc2S, w_r3, w_meth, methW_obj, w_stat, w_appE, appW_o, w_isObj, w_all, w_oo, w_oi, w_oinv, w_oneg, w_olt, w_ole, w_ogt, w_oge, w_oeq, w_rev, tgo_nm, tgo_tp2, tgo_tp3, Sl.wipe, w_var, w_int, w_bl, w_non, w_str, w_con, w_bin, w_un, w_cmp, w_and, w_or, w_one, w_not, w_ife, w_chain, w_isN, w_notN, w_tup, w_lst, w_ix, w_sl, w_call, w_blt, w_fld, w_new, w_app, w_dget, w_dict, w_oix, w_olen, w_lc, w_esN, w_esC, w_oN, w_oS, seq_tup, seq_lst, w_iseq, w_r1, w_r2, w_enum, w_zip, w_zip3, lst_lst, w_add, w_sub, w_mul, w_fdiv, w_mod, w_pow, w_shr, w_lcat, w_tcat, w_neg, w_lt, w_le, w_gt, w_ge, w_eq, w_ne, w_ixt, w_ixl, w_len, w_lenT, w_abs, w_toint, w_totup, w_totupT, w_tolst, w_tolstT, w_divmod, w_min, w_max, w_isInt, w_isBool, w_isTup, w_lcm, w_set, w_bld, w_par, slot_f, slot_t, w_unp, w_appd, w_put, w_dput, w_dput2, w_frz, w_if, w_ret, w_retN, w_brk, w_cnt, w_pas, w_never, w_exp, w_init, w_nil, w_cons, w_for, w_forF, w_whl, wp_ok, wp_bad, tst_bl, asI_int, asV_val, asO_own, opt_some, get_0, get_s, Sl.put, begins, List.replicate, List.map_cons, List.map_nil, List.cons_append, List.nil_append, List.append_nil, List.length_cons, List.length_nil, Nat.reduceAdd, Nat.reduceSub, Nat.reduceLeDiff, List.replicate_succ, List.replicate_zero, true_and, and_true, decide_eq_true_eq, if_true, if_false, Bool.false_eq_true, ite_true, ite_false, decide_true, decide_false, Bool.not_true, Bool.not_false, Bool.not_eq_true', decide_eq_false_iff_not]
  refine w_draw (r := r + 19) hr (by decide) (by decide) fun x μ1 x0 x1 R1 => ?_
  simp only [w_esS, w_lc2, w_lc2S, w_r3, w_meth, methW_obj, w_stat, w_appE, appW_o, w_isObj, w_all, w_oo, w_oi, w_oinv, w_oneg, w_olt, w_ole, w_ogt, w_oge, w_oeq, w_rev, tgo_nm, tgo_tp2, tgo_tp3, Sl.wipe, w_var, w_int, w_bl, w_non, w_str, w_con, w_bin, w_un, w_cmp, w_and, w_or, w_one, w_not, w_ife, w_chain, w_isN, w_notN, w_tup, w_lst, w_ix, w_sl, w_call, w_blt, w_fld, w_new, w_app, w_dget, w_dict, w_oix, w_olen, w_lc, w_esN, w_esC, w_oN, w_oS, seq_tup, seq_lst, w_iseq, w_r1, w_r2, w_enum, w_zip, w_zip3, lst_lst, w_add, w_sub, w_mul, w_fdiv, w_mod, w_pow, w_shr, w_lcat, w_tcat, w_neg, w_lt, w_le, w_gt, w_ge, w_eq, w_ne, w_ixt, w_ixl, w_len, w_lenT, w_abs, w_toint, w_totup, w_totupT, w_tolst, w_tolstT, w_divmod, w_min, w_max, w_isInt, w_isBool, w_isTup, w_lcm, w_set, w_bld, w_par, slot_f, slot_t, w_unp, w_appd, w_put, w_dput, w_dput2, w_frz, w_if, w_ret, w_retN, w_brk, w_cnt, w_pas, w_never, w_exp, w_init, w_nil, w_cons, w_for, w_forF, w_whl, wp_ok, wp_bad, tst_bl, asI_int, asV_val, asO_own, opt_some, get_0, get_s, Sl.put, begins, List.replicate, List.map_cons, List.map_nil, List.cons_append, List.nil_append, List.append_nil, List.length_cons, List.length_nil, Nat.reduceAdd, Nat.reduceSub, Nat.reduceLeDiff, List.replicate_succ, List.replicate_zero, true_and, and_true, decide_eq_true_eq, if_true, if_false, Bool.false_eq_true, ite_true, ite_false, decide_true, decide_false, Bool.not_true, Bool.not_false, Bool.not_eq_true', decide_eq_false_iff_not]
  refine for_inv (fun items ρ μ => ∃ (z : Int) (y : Sl), ρ = [.val (.cel 0), .val (.int z), y] ∧ 1 ≤ z ∧ items.length ≤ 9 ∧ z * 1024 ^ items.length ≤ 1024 ^ 9 ∧ Room (r + items.length) μ) ?step ?done ?init
  case init =>
    refine ⟨1, .und, rfl, by omega, by rw [rngs_len]; omega, ?_, R1.mono (by rw [rngs_len]; omega)⟩
    rw [rngs_len, Int.one_mul]
    have : ∀ n : Nat, n ≤ 9 → (1024 : Int) ^ n ≤ 1024 ^ 9 := by decide
    exact this _ (by omega)
  case step =>
    rintro d ds ρ μ ⟨z, y, rfl, h1, h2, h3, R2⟩
    rw [List.length_cons] at h2 h3 R2
    simp only [w_esS, w_lc2, w_lc2S, w_r3, w_meth, methW_obj, w_stat, w_appE, appW_o, w_isObj, w_all, w_oo, w_oi, w_oinv, w_oneg, w_olt, w_ole, w_ogt, w_oge, w_oeq, w_rev, tgo_nm, tgo_tp2, tgo_tp3, Sl.wipe, w_var, w_int, w_bl, w_non, w_str, w_con, w_bin, w_un, w_cmp, w_and, w_or, w_one, w_not, w_ife, w_chain, w_isN, w_notN, w_tup, w_lst, w_ix, w_sl, w_call, w_blt, w_fld, w_new, w_app, w_dget, w_dict, w_oix, w_olen, w_lc, w_esN, w_esC, w_oN, w_oS, seq_tup, seq_lst, w_iseq, w_r1, w_r2, w_enum, w_zip, w_zip3, lst_lst, w_add, w_sub, w_mul, w_fdiv, w_mod, w_pow, w_shr, w_lcat, w_tcat, w_neg, w_lt, w_le, w_gt, w_ge, w_eq, w_ne, w_ixt, w_ixl, w_len, w_lenT, w_abs, w_toint, w_totup, w_totupT, w_tolst, w_tolstT, w_divmod, w_min, w_max, w_isInt, w_isBool, w_isTup, w_lcm, w_set, w_bld, w_par, slot_f, slot_t, w_unp, w_appd, w_put, w_dput, w_dput2, w_frz, w_if, w_ret, w_retN, w_brk, w_cnt, w_pas, w_never, w_exp, w_init, w_nil, w_cons, w_for, w_forF, w_whl, wp_ok, wp_bad, tst_bl, asI_int, asV_val, asO_own, opt_some, get_0, get_s, Sl.put, begins, List.replicate, List.map_cons, List.map_nil, List.cons_append, List.nil_append, List.append_nil, List.length_cons, List.length_nil, Nat.reduceAdd, Nat.reduceSub, Nat.reduceLeDiff, List.replicate_succ, List.replicate_zero, true_and, and_true, decide_eq_true_eq, if_true, if_false, Bool.false_eq_true, ite_true, ite_false, decide_true, decide_false, Bool.not_true, Bool.not_false, Bool.not_eq_true', decide_eq_false_iff_not]
    refine w_draw (r := r + ds.length) R2 (by decide) (by decide) fun x μ1 x0 x1 R3 => ?_
    have P0 : (0 : Int) < 1024 ^ ds.length := Int.pow_pos (by decide)
    have hz : z < 2 ^ 91 := by
      have : z * 1 ≤ z * 1024 ^ (ds.length + 1) := Int.mul_le_mul_of_nonneg_left (by rw [Int.pow_succ]; omega) (by omega)
      have e : (1024 : Int) ^ 9 = 2 ^ 90 := by decide
      omega
    simp only [w_esS, w_lc2, w_lc2S, w_r3, w_meth, methW_obj, w_stat, w_appE, appW_o, w_isObj, w_all, w_oo, w_oi, w_oinv, w_oneg, w_olt, w_ole, w_ogt, w_oge, w_oeq, w_rev, tgo_nm, tgo_tp2, tgo_tp3, Sl.wipe, w_var, w_int, w_bl, w_non, w_str, w_con, w_bin, w_un, w_cmp, w_and, w_or, w_one, w_not, w_ife, w_chain, w_isN, w_notN, w_tup, w_lst, w_ix, w_sl, w_call, w_blt, w_fld, w_new, w_app, w_dget, w_dict, w_oix, w_olen, w_lc, w_esN, w_esC, w_oN, w_oS, seq_tup, seq_lst, w_iseq, w_r1, w_r2, w_enum, w_zip, w_zip3, lst_lst, w_add, w_sub, w_mul, w_fdiv, w_mod, w_pow, w_shr, w_lcat, w_tcat, w_neg, w_lt, w_le, w_gt, w_ge, w_eq, w_ne, w_ixt, w_ixl, w_len, w_lenT, w_abs, w_toint, w_totup, w_totupT, w_tolst, w_tolstT, w_divmod, w_min, w_max, w_isInt, w_isBool, w_isTup, w_lcm, w_set, w_bld, w_par, slot_f, slot_t, w_unp, w_appd, w_put, w_dput, w_dput2, w_frz, w_if, w_ret, w_retN, w_brk, w_cnt, w_pas, w_never, w_exp, w_init, w_nil, w_cons, w_for, w_forF, w_whl, wp_ok, wp_bad, tst_bl, asI_int, asV_val, asO_own, opt_some, get_0, get_s, Sl.put, begins, List.replicate, List.map_cons, List.map_nil, List.cons_append, List.nil_append, List.append_nil, List.length_cons, List.length_nil, Nat.reduceAdd, Nat.reduceSub, Nat.reduceLeDiff, List.replicate_succ, List.replicate_zero, true_and, and_true, decide_eq_true_eq, if_true, if_false, Bool.false_eq_true, ite_true, ite_false, decide_true, decide_false, Bool.not_true, Bool.not_false, Bool.not_eq_true', decide_eq_false_iff_not]
    refine ⟨lg2 (by omega) (by omega) (by omega) (by omega), z * (7 + x), .val d, rfl, ?_, by omega, ?_, R3⟩
    · have := Int.mul_le_mul_of_nonneg_left (show 1 ≤ 7 + x by omega) (show 0 ≤ z by omega)
      omega
    · have e : z * (7 + x) * 1024 ^ ds.length ≤ z * 1024 * 1024 ^ ds.length := Int.mul_le_mul_of_nonneg_right (Int.mul_le_mul_of_nonneg_left (by omega) (by omega)) (by omega)
      rw [Int.pow_succ, Int.mul_comm (1024 ^ ds.length), ← Int.mul_assoc] at h3
      omega
  case done =>
    rintro ρ μ ⟨z, y, rfl, h1, h2, h3, R2⟩
    simp only [List.length_nil] at h3 R2
    simp only [w_esS, w_lc2, w_lc2S, w_r3, w_meth, methW_obj, w_stat, w_appE, appW_o, w_isObj, w_all, w_oo, w_oi, w_oinv, w_oneg, w_olt, w_ole, w_ogt, w_oge, w_oeq, w_rev, tgo_nm, tgo_tp2, tgo_tp3, Sl.wipe, w_var, w_int, w_bl, w_non, w_str, w_con, w_bin, w_un, w_cmp, w_and, w_or, w_one, w_not, w_ife, w_chain, w_isN, w_notN, w_tup, w_lst, w_ix, w_sl, w_call, w_blt, w_fld, w_new, w_app, w_dget, w_dict, w_oix, w_olen, w_lc, w_esN, w_esC, w_oN, w_oS, seq_tup, seq_lst, w_iseq, w_r1, w_r2, w_enum, w_zip, w_zip3, lst_lst, w_add, w_sub, w_mul, w_fdiv, w_mod, w_pow, w_shr, w_lcat, w_tcat, w_neg, w_lt, w_le, w_gt, w_ge, w_eq, w_ne, w_ixt, w_ixl, w_len, w_lenT, w_abs, w_toint, w_totup, w_totupT, w_tolst, w_tolstT, w_divmod, w_min, w_max, w_isInt, w_isBool, w_isTup, w_lcm, w_set, w_bld, w_par, slot_f, slot_t, w_unp, w_appd, w_put, w_dput, w_dput2, w_frz, w_if, w_ret, w_retN, w_brk, w_cnt, w_pas, w_never, w_exp, w_init, w_nil, w_cons, w_for, w_forF, w_whl, wp_ok, wp_bad, tst_bl, asI_int, asV_val, asO_own, opt_some, get_0, get_s, Sl.put, begins, List.replicate, List.map_cons, List.map_nil, List.cons_append, List.nil_append, List.append_nil, List.length_cons, List.length_nil, Nat.reduceAdd, Nat.reduceSub, Nat.reduceLeDiff, List.replicate_succ, List.replicate_zero, true_and, and_true, decide_eq_true_eq, if_true, if_false, Bool.false_eq_true, ite_true, ite_false, decide_true, decide_false, Bool.not_true, Bool.not_false, Bool.not_eq_true', decide_eq_false_iff_not]
    have e : (1024 : Int) ^ 9 = 2 ^ 90 := by decide
    exact h z μ h1 (by omega) R2
end Lw
set_option Elab.async false
set_option linter.all false
set_option maxRecDepth 100000
set_option maxHeartbeats 4000000
namespace Lw
open PySem L2 Vw
abbrev vB : Ss := .cons (.ife (.cmp .LtE (.var 7) (.var 5)) (.cons (.set 6 (.var 8)) .nil) .nil) .nil
theorem walk_loop {Γ : Gam} {μ : Mu} {a b c d e : D} {r : Int} : ∀ (l : List (Int × Int)) (f : Int) (x y : Sl), ∃ x' y', forgo (fun d ρ μ => match tgo (.tp [7, 8]) d ρ with | some ρ1 => exss P Γ vB ρ1 μ | none => .bad) (l.map pr) [.val a, .val b, .val c, .val d, .val e, .val (.int r), .val (.int f), x, y] μ =
    .nx [.val a, .val b, .val c, .val d, .val e, .val (.int r), .val (.int (walkF r f l)), x', y'] μ
  | [], f, x, y => ⟨x, y, rfl⟩
  | q :: l, f, x, y => by
    by_cases h : q.1 ≤ r
    · obtain ⟨x', y', ih⟩ := walk_loop (Γ := Γ) (μ := μ) (a := a) (b := b) (c := c) (d := d) (e := e) (r := r) l q.2 (.val (.int q.1)) (.val (.int q.2))
      refine ⟨x', y', ?_⟩
      rw [walkF, if_pos h, List.map_cons]
      have z : exss P Γ vB [.val a, .val b, .val c, .val d, .val e, .val (.int r), .val (.int f), .val (.int q.1), .val (.int q.2)] μ = .nx [.val a, .val b, .val c, .val d, .val e, .val (.int r), .val (.int q.2), .val (.int q.1), .val (.int q.2)] μ := by
        have g : ev P Γ (.cmp .LtE (.var 7) (.var 5)) [.val a, .val b, .val c, .val d, .val e, .val (.int r), .val (.int f), .val (.int q.1), .val (.int q.2)] μ = .ok (.bl true) μ := by
          refine ((e_cmp (e_var rfl) (e_var rfl)).trans c_le).trans ?_
          rw [decide_eq_true h]
        exact (ss_nx ((s_ifT g).trans (ss_nx (s_set (e_var rfl))))).trans ss_nil'
      exact (forgo_nx z).trans ih
    · obtain ⟨x', y', ih⟩ := walk_loop (Γ := Γ) (μ := μ) (a := a) (b := b) (c := c) (d := d) (e := e) (r := r) l f (.val (.int q.1)) (.val (.int q.2))
      refine ⟨x', y', ?_⟩
      rw [walkF, if_neg h, List.map_cons]
      have z : exss P Γ vB [.val a, .val b, .val c, .val d, .val e, .val (.int r), .val (.int f), .val (.int q.1), .val (.int q.2)] μ = .nx [.val a, .val b, .val c, .val d, .val e, .val (.int r), .val (.int f), .val (.int q.1), .val (.int q.2)] μ := by
        have g : ev P Γ (.cmp .LtE (.var 7) (.var 5)) [.val a, .val b, .val c, .val d, .val e, .val (.int r), .val (.int f), .val (.int q.1), .val (.int q.2)] μ = .ok (.bl false) μ := by
          refine ((e_cmp (e_var rfl) (e_var rfl)).trans c_le).trans ?_
          rw [decide_eq_false h]
        exact (ss_nx ((s_ifF g).trans ss_nil')).trans ss_nil'
      exact (forgo_nx z).trans ih
theorem r_lawval {k : Nat} {μ : Mu} {p t : Int} {l : List (Int × Int)} (hl : l ≠ []) (hp : 0 < p) (hpl : p.natAbs.log2 < 9000) (hb : (t / p).natAbs.log2 < 900000) : run P fds (k + 1) n__law_value [.tup [.int p, tp l], .int t] μ = .ok (.int (wal p l hl t)) μ := by
  have hl' : l.map pr ≠ [] := by simpa using hl
  have z := last_at hl'
  rw [List.getLast_map] at z
  obtain ⟨x', y', e⟩ := walk_loop (Γ := run P fds k) (μ := μ) (a := .tup [.int p, tp l]) (b := .int t) (c := .int p) (d := tp l) (e := .int (t / p)) (r := t % p) l ((l.getLast hl).2 - p) .und .und
  refine run_ret rfl rfl ?_
  refine (ss_nx (s_un (e_var rfl) rfl)).trans ?_
  refine (ss_nx (s_par ((e_bin ((e_blt (es_cons (e_var rfl) es_nil)).trans rfl) (e_var rfl)).trans (b_fdiv hp hpl)) ((e_bin ((e_blt (es_cons (e_var rfl) es_nil)).trans rfl) (e_var rfl)).trans (b_mod hp)))).trans ?_
  refine (ss_nx (s_set ((e_bin ((e_ix ((e_ix (e_var rfl) ((e_un e_int).trans rfl)).trans (x_tup z)) e_int).trans rfl) (e_var rfl)).trans b_sub))).trans ?_
  refine (ss_nx ((s_for (items := l.map pr) rfl).trans e)).trans ?_
  exact ss_ret (s_ret ((e_bin (e_var rfl) ((e_bin (e_var rfl) (e_var rfl)).trans (b_mul (by omega)))).trans b_add))
theorem w_value {k : Nat} {μ : Mu} {p t : Int} {l : List (Int × Int)} {Q : D → Mu → Prop} (T : Tel p l) (hp : p < 2 ^ 190) (h1 : -(2 ^ 190) < t) (h2 : t < 2 ^ 190) (h : Q (.int (val p l t)) μ) : (run P fds (k + 1) n__law_value [.tup [.int p, tp l], .int t] μ).wp Q := by
  have hp0 := T.pos
  obtain ⟨d1, d2⟩ := div_bd T.pos h1 h2
  refine Out.wp_of (r_lawval T.ne T.pos (lg9 (by omega) (by omega)) ?_) (by rw [wal_val T]; exact h)
  exact Nat.lt_trans (lg (by omega) (by omega)) (by decide)
end Lw
set_option Elab.async false
set_option linter.all false
set_option maxRecDepth 100000
set_option maxHeartbeats 4000000
namespace Lw
open PySem L2 Vw
theorem tel_len {p : Int} {l : List (Int × Int)} (T : Tel p l) : (l.length : Int) ≤ p := by
  have A := T.tells.ats
  have hn : 0 < l.length := List.length_pos_iff.mpr A.ne
  have m := stp_mono A 0 (l.length - 1)
  have e0 := stp_at (p := p) (T := 0) hn
  have e1 := stp_at (p := p) (T := 0) (show l.length - 1 < l.length by omega)
  simp only [Int.zero_mul, Int.zero_add, Int.add_zero] at e0 e1
  rw [Int.zero_add, e1] at m
  rw [show ((0 : Nat) : Int) = 0 from rfl] at e0
  rw [e0] at m
  have := A.low 0 hn
  have := A.high (l.length - 1) (by omega)
  dsimp only at m
  omega
theorem tel_far {p W t : Int} {l : List (Int × Int)} (T : Tel p l) (h : ∀ q ∈ l, -W ≤ q.2 ∧ q.2 ≤ W) : -(W + 2 * p) ≤ val p l t - t ∧ val p l t - t ≤ W + 2 * p := by
  have A := T.tells.ats
  have hn : 0 < l.length := List.length_pos_iff.mpr A.ne
  obtain ⟨i, h1, h2, e⟩ := val_idx (t := t) A
  have m := stp_mono A (i + 1) (l.length - 1)
  rw [show i + 1 + ((l.length - 1 : Nat) : Int) = i + (l.length : Int) by omega, stp_per A.ne] at m
  dsimp only at m
  rw [e]
  obtain ⟨U, r, hr, rfl⟩ := idx_split l.length hn i
  rw [stp_at hr] at h1 m ⊢
  dsimp only at h1 m ⊢
  have := A.low r hr
  have := A.high r hr
  have := h _ (List.getElem_mem hr)
  have := A.pos
  omega
structure Dr (p : Int) (l : List (Int × Int)) (p' : Int) (l' : List (Int × Int)) (N W : Int) : Prop where
  tel : Tel p l
  pl : Pl p' l'
  le : p ≤ N
  le' : p' ≤ p
  dv : p'.natAbs ∣ p.natAbs
  vl : ∀ t, val p' l' t = val p l t
  far : ∀ t, -W ≤ val p l t - t ∧ val p l t - t ≤ W
theorem Dr.len {p p' N W : Int} {l l' : List (Int × Int)} (d : Dr p l p' l' N W) (h : l'.length ≤ 4096) : (l'.length : Int) ≤ p' := tel_len (d.pl.tel h)
theorem Dr.row {p p' N W : Int} {l l' : List (Int × Int)} (d : Dr p l p' l' N W) {q : Int × Int} (hq : q ∈ l') : 0 ≤ q.1 ∧ q.1 < p' ∧ -W ≤ q.2 ∧ q.2 ≤ p' + W := by
  obtain ⟨r, hr, e⟩ := List.mem_iff_getElem.mp hq
  have lo := d.pl.ats.low r hr
  have hi := d.pl.ats.high r hr
  rw [e] at lo hi
  have v := (row_val d.pl hq).1
  rw [d.vl] at v
  have := d.far q.1
  omega
section
variable {k : Nat} {μ : Mu} {Q : D → Mu → Prop}
theorem w_mkD {p : Int} {l : List (Int × Int)} {N : Int} (T : Tel p l) (hp : p ≤ N) (hv : ∀ q ∈ l, -12 ≤ q.2 ∧ q.2 ≤ 12 + p) (h : ∀ p' l', Dr p l p' l' N (12 + 3 * N) → l'.length ≤ l.length → Q (obj p' l') μ) : (run Lw.P fds (k + 5) n_Stair___init__ [.int p, tp l] μ).wp Q :=
  w_newP T fun p' l' P' h1 h2 ⟨q, q0, q1, q2⟩ h4 => h p' l' ⟨T, P', hp, h1, ⟨q, by rw [← q1, Int.natAbs_mul, Int.natAbs_natCast, Nat.mul_comm]⟩, h4, fun t => by
    have := tel_far (t := t) T (W := 12 + p) fun s hs => by have := hv s hs; have := T.pos; omega
    omega⟩ h2
theorem w_mkV {p : Int} {l : List (Int × Int)} {N V : Int} (T : Tel p l) (hp : p ≤ N) (hv : ∀ q ∈ l, -V ≤ q.2 ∧ q.2 ≤ V) (h : ∀ p' l', Dr p l p' l' N (V + 2 * N) → l'.length ≤ l.length → Q (obj p' l') μ) : (run Lw.P fds (k + 5) n_Stair___init__ [.int p, tp l] μ).wp Q :=
  w_newP T fun p' l' P' h1 h2 ⟨q, q0, q1, q2⟩ h4 => h p' l' ⟨T, P', hp, h1, ⟨q, by rw [← q1, Int.natAbs_mul, Int.natAbs_natCast, Nat.mul_comm]⟩, h4, fun t => by
    have := tel_far (t := t) T (W := V) hv
    omega⟩ h2
theorem fine_prs : ∀ {l : List (Int × Int)}, (∀ q ∈ l, q.1.natAbs.log2 < 400 ∧ q.2.natAbs.log2 < 400) → D.fines (l.map pr) = true
  | [], _ => rfl
  | q :: l, h => by
    have := h q List.mem_cons_self
    rw [List.map_cons, D.fines, fine_prs fun s hs => h s (List.mem_cons_of_mem _ hs), Bool.and_true]
    simp only [D.fine, D.fines, decide_eq_true this.1, decide_eq_true this.2, Bool.and_self]
theorem wts_prs : ∀ l : List (Int × Int), D.wts (l.map pr) = l.length * 811
  | [] => rfl
  | q :: l => by
    rw [List.map_cons, D.wts, wts_prs l, List.length_cons, Nat.succ_mul]
    simp only [D.wt, D.wts]
    omega
theorem dps_prs : ∀ l : List (Int × Int), D.dps (l.map pr) ≤ 1
  | [] => by decide
  | q :: l => by
    have := dps_prs l
    rw [List.map_cons, D.dps]
    simp only [D.dp, D.dps]
    omega
theorem rp_told {p : Int} {l : List (Int × Int)} (hp : p.natAbs.log2 < 400) (hl : l.length ≤ 4096) (h : ∀ q ∈ l, q.1.natAbs.log2 < 400 ∧ q.2.natAbs.log2 < 400) : ∃ x, rptx (.tup [.int p, tp l]) = some x ∧ PyData.strOk x = true := by
  refine rp_ok ?_ ?_ ?_
  · simp only [D.fine, D.fines, decide_eq_true hp, fine_prs h, Bool.and_self]
  · simp only [D.wt, D.wts, wts_prs]
    omega
  · have := dps_prs l
    simp only [D.dp, D.dps]
    omega
theorem lg4 {z : Int} (h1 : -(2 ^ 200) < z) (h2 : z < 2 ^ 200) : z.natAbs.log2 < 400 := Nat.lt_trans (lg h1 h2) (by decide)
theorem Dr.rp {p p' N W : Int} {l l' : List (Int × Int)} (d : Dr p l p' l' N W) (h : l'.length ≤ 4096) (hN : N < 2 ^ 190) (hW : W < 2 ^ 190) : ∃ x, rptx (.tup [.int p', tp l']) = some x ∧ PyData.strOk x = true := by
  have := d.pl.ats.pos
  have := d.le
  have := d.le'
  have w0 := d.far 0
  exact rp_told (lg4 (by omega) (by omega)) h fun q hq => by
    have := d.row hq
    exact ⟨lg4 (by omega) (by omega), lg4 (by omega) (by omega)⟩
theorem w_rpO {Γ : Gam} {c : Nat} {fs : List D} : (bltop Lw.P Γ .repr [.obj c fs] μ).wp Q ↔ opt (P.meth c 53) fun f => (Γ f [.obj c fs] μ).wp fun r μ1 => match r with | .str x => Q (.str x) μ1 | _ => False := by
  show ((callM Lw.P Γ c 53 [.obj c fs] μ).bind _).wp Q ↔ _
  rw [wp_bind, callM_wp]
  have : ∀ (r : D) (μ1 : Mu), (match r with | .str x => Out.ok (D.str x) μ1 | _ => .bad).wp Q ↔ (match r with | .str x => Q (.str x) μ1 | _ => False) := fun r μ1 => by
    cases r <;> exact Iff.rfl
  cases Lw.P.meth c 53 with
  | none => exact Iff.rfl
  | some f => exact wp_congr fun r μ1 => this r μ1
theorem w_neL {Γ : Gam} {x y : List Int} : (cop Lw.P Γ .NotEq (.lst (x.map D.int)) (.lst (y.map D.int)) μ).wp Q ↔ Q (.bl (!decide (x = y))) μ := by
  show Out.wp (match deq (.lst (x.map .int)) (.lst (y.map .int)) with | some k => .ok (.bl (!k)) μ | none => .bad) Q ↔ _
  rw [deq_ints]; exact Iff.rfl
theorem pys_str : ∀ l : List Str, D.pys (l.map .str) = some (l.map PyData.str)
  | [] => by rw [List.map_nil, D.pys]; rfl
  | x :: l => by rw [List.map_cons, D.pys, pys_str l, D.py]; rfl
theorem lay_str : ∀ {l : List Str}, (∀ x ∈ l, PyData.strOk x = true) → PyData.canLayAll0 (l.map PyData.str) = true
  | [], _ => by simp [PyData.canLayAll0]
  | x :: l, h => by
    rw [List.map_cons]
    simp only [PyData.canLayAll0, PyData.canLay0, h x List.mem_cons_self, lay_str fun y hy => h y (List.mem_cons_of_mem _ hy), Bool.and_self]
theorem dep_str : ∀ l : List Str, PyData.depthAll (l.map PyData.str) = 0
  | [] => by simp [PyData.depthAll]
  | x :: l => by rw [List.map_cons, PyData.depthAll, dep_str l, PyData.depth]; rfl
theorem eqv_strs : ∀ l m : List Str, PyData.eqvAll (l.map PyData.str) (m.map PyData.str) = decide (l = m)
  | [], [] => by simp [PyData.eqvAll]
  | [], _ :: _ => by simp [PyData.eqvAll]
  | _ :: _, [] => by simp [PyData.eqvAll]
  | p :: l, q :: m => by
    have e : PyData.eqvAll ((p :: l).map PyData.str) ((q :: m).map PyData.str) = (PyData.eqv (.str p) (.str q) && PyData.eqvAll (l.map PyData.str) (m.map PyData.str)) := by simp only [List.map_cons, PyData.eqvAll]
    have e2 : PyData.eqv (.str p) (.str q) = decide (p = q) := rfl
    rw [e, eqv_strs l m, e2]
    by_cases h1 : p = q <;> by_cases h3 : l = m <;> simp [h1, h3]
theorem deq_strs {l m : List Str} (hl : ∀ x ∈ l, PyData.strOk x = true) (hm : ∀ x ∈ m, PyData.strOk x = true) : deq (.lst (l.map .str)) (.lst (m.map .str)) = some (decide (l = m)) := by
  have sh : ∀ {l : List Str}, (∀ x ∈ l, PyData.strOk x = true) → SeqAt.shaped (.list (l.map PyData.str)) = true := fun {l} h => by
    unfold SeqAt.shaped
    rw [Bool.and_eq_true, decide_eq_true_eq]
    refine ⟨by simp only [PyData.canLay0]; exact lay_str h, ?_⟩
    rw [PyData.depth, dep_str]
    decide
  unfold deq
  simp only [D.py, pys_str, Option.map_some]
  rw [if_pos ⟨sh hl, sh hm⟩]
  congr 1
  rw [← eqv_strs l m]
  simp only [PyData.eqv]
theorem w_neStrs {Γ : Gam} {l m : List Str} (hl : ∀ x ∈ l, PyData.strOk x = true) (hm : ∀ x ∈ m, PyData.strOk x = true) : (cop Lw.P Γ .NotEq (.lst (l.map .str)) (.lst (m.map .str)) μ).wp Q ↔ Q (.bl (!decide (l = m))) μ := by
  show Out.wp (match deq (.lst (l.map .str)) (.lst (m.map .str)) with | some k => .ok (.bl (!k)) μ | none => .bad) Q ↔ _
  rw [deq_strs hl hm]; exact Iff.rfl
end
end Lw
set_option Elab.async false
set_option linter.all false
set_option maxRecDepth 100000
set_option maxHeartbeats 4000000
namespace Lw
open PySem L2 Vw
section
variable {i : Nat} {μ : Mu} {p q : Int} {l k : List (Int × Int)} {m n : Nat} {L : Int} {Q : D → Mu → Prop}
theorem deq_tp (l m : List (Int × Int)) : deq (tp l) (tp m) = some (decide (l = m)) := by
  unfold deq
  simp only [D.py, pys_pr, Option.map_some]
  have sh : ∀ l : List (Int × Int), SeqAt.shaped (.tuple (l.map prP)) = true := fun l => by
    have h1 := dep_pr l
    have h2 : PyData.depth (.tuple (l.map prP)) ≤ 64 := by
      simp only [PyData.depth]
      omega
    show (PyData.canLay0 (.tuple (l.map prP)) && decide (PyData.depth (.tuple (l.map prP)) ≤ 64)) = true
    rw [Bool.and_eq_true]
    exact ⟨by simp only [PyData.canLay0]; exact lay_pr l, decide_eq_true h2⟩
  rw [if_pos ⟨sh l, sh m⟩]
  congr 1
  show PyData.eqv (.tuple (l.map prP)) (.tuple (m.map prP)) = _
  rw [← eqv_pr l m]
  simp only [PyData.eqv]
theorem w_eqtp {Γ : Gam} {l m : List (Int × Int)} : (cop P Γ .Eq (tp l) (tp m) μ).wp Q ↔ Q (.bl (decide (l = m))) μ := by
  show Out.wp (match deq (tp l) (tp m) with | some k => .ok (.bl k) μ | none => .bad) Q ↔ _
  rw [deq_tp]; exact Iff.rfl
theorem w_eqS (Pf : Pl p l) (Pg : Pl q k) (h : ∀ b : Bool, (b = true ↔ ∀ t, val p l t = val q k t) → Q (.bl b) μ) : (run P fds (i + 1) n_Stair___eq__ [obj p l, obj q k] μ).wp Q := by
  refine wp_run rfl rfl ?_
  show (exss P _ b_Stair___eq__ [.val (.obj 0 [.int p, tp l]), .val (.obj 0 [.int q, tp k])] _).wp _ _ _ _
  simp only [b_Stair___eq__, w_esS, w_lc2, w_lc2S, w_r3, w_meth, methW_obj, w_stat, w_appE, appW_o, w_isObj, w_all, w_oo, w_oi, w_oinv, w_oneg, w_olt, w_ole, w_ogt, w_oge, w_oeq, w_rev, tgo_nm, tgo_tp2, tgo_tp3, Sl.wipe, w_var, w_int, w_bl, w_non, w_str, w_con, w_bin, w_un, w_cmp, w_and, w_or, w_one, w_not, w_ife, w_chain, w_isN, w_notN, w_tup, w_lst, w_ix, w_sl, w_call, w_blt, w_fld, w_new, w_app, w_dget, w_dict, w_oix, w_olen, w_lc, w_esN, w_esC, w_oN, w_oS, seq_tup, seq_lst, w_iseq, w_r1, w_r2, w_enum, w_zip, w_zip3, lst_lst, w_add, w_sub, w_mul, w_fdiv, w_mod, w_pow, w_shr, w_lcat, w_tcat, w_neg, w_lt, w_le, w_gt, w_ge, w_eq, w_ne, w_ixt, w_ixl, w_len, w_lenT, w_abs, w_toint, w_totup, w_totupT, w_tolst, w_tolstT, w_divmod, w_min, w_max, w_isInt, w_isBool, w_isTup, w_lcm, w_set, w_bld, w_par, slot_f, slot_t, w_unp, w_appd, w_put, w_dput, w_dput2, w_frz, w_if, w_ret, w_retN, w_brk, w_cnt, w_pas, w_never, w_exp, w_init, w_nil, w_cons, w_for, w_forF, w_whl, wp_ok, wp_bad, tst_bl, asI_int, asV_val, asO_own, opt_some, get_0, get_s, Sl.put, begins, List.replicate, List.map_cons, List.map_nil, List.cons_append, List.nil_append, List.append_nil, List.length_cons, List.length_nil, Nat.reduceAdd, Nat.reduceSub, Nat.reduceLeDiff, List.replicate_succ, List.replicate_zero, true_and, and_true, decide_eq_true_eq, if_true, if_false, Bool.false_eq_true, ite_true, ite_false, decide_true, decide_false, Bool.not_true, Bool.not_false, Bool.not_eq_true', decide_eq_false_iff_not, w_fld, f_per_, f_stps_, w_eqtp]
  by_cases e : p = q
  · rw [if_pos e]
    refine h _ ⟨fun hb t => ?_, fun hb => ?_⟩
    · rw [e, of_decide_eq_true hb]
    · exact decide_eq_true (plain_one Pf Pg hb).2
  · rw [if_neg e]
    refine h _ ⟨(fun hb => by cases hb), fun hb => absurd (plain_one Pf Pg hb).1 e⟩
end
end Lw
set_option Elab.async false
set_option linter.all false
set_option maxRecDepth 100000
set_option maxHeartbeats 8000000
namespace Lw
open PySem L2 Vw
abbrev mv (m : Int) (l : List (Int × Int)) : List (Int × Int) := l.map fun q => (q.1, q.2 + m)
theorem tel_mv {p m : Int} {l : List (Int × Int)} (T : Tel p l) : Tel p (mv m l) := by
  refine ⟨T.pos, by simpa using T.ne, by rw [List.length_map]; exact T.few, fun q hq => ?_, List.pairwise_map.mpr (T.pw.imp fun {x y} h => ⟨h.1, by dsimp only; omega⟩), fun x hx y hy => ?_⟩
  · obtain ⟨s, hs, rfl⟩ := List.mem_map.mp hq
    exact T.bd s hs
  · obtain ⟨s, hs, rfl⟩ := List.mem_map.mp hx
    obtain ⟨t, ht, rfl⟩ := List.mem_map.mp hy
    have := T.rise s hs t ht
    dsimp only
    omega
theorem stp_mv {p m : Int} {l : List (Int × Int)} (hl : l ≠ []) (i : Int) : stp p (mv m l) i = ((stp p l i).1, (stp p l i).2 + m) := by
  have hn : 0 < l.length := List.length_pos_iff.mpr hl
  obtain ⟨T, r, hr, rfl⟩ := idx_split l.length hn i
  have hr' : r < (mv m l).length := by rw [List.length_map]; exact hr
  have e := stp_at (p := p) (T := T) hr'
  rw [List.length_map] at e
  rw [e, stp_at hr, List.getElem_map]
  refine Prod.ext rfl ?_
  dsimp only
  omega
theorem val_mv {p m t : Int} {l : List (Int × Int)} (T : Tel p l) : val p (mv m l) t = val p l t + m := by
  have A := T.tells.ats
  have A' := (tel_mv (m := m) T).tells.ats
  obtain ⟨i, h1, h2, e⟩ := val_idx (t := t) A
  rw [e, val_at A' (i := i) (by rw [stp_mv A.ne]; exact h1) (by rw [stp_mv A.ne]; exact h2), stp_mv A.ne]
theorem told_pl {p : Int} {l : List (Int × Int)} (T : Tel p l) : ∃ p' l', Pl p' l' ∧ p' ≤ p ∧ l'.length ≤ l.length ∧ (∃ q : Nat, 0 < q ∧ (q : Int) * p' = p ∧ q * l'.length ≤ l.length) ∧ ∀ t, val p' l' t = val p l t := by
  have z : (run P fds (0 + 5) n_Stair___init__ [.int p, tp l] []).wp fun _ _ => ∃ p' l', Pl p' l' ∧ p' ≤ p ∧ l'.length ≤ l.length ∧ (∃ q : Nat, 0 < q ∧ (q : Int) * p' = p ∧ q * l'.length ≤ l.length) ∧ ∀ t, val p' l' t = val p l t :=
    w_newP T fun p' l' a b c d e => ⟨p', l', a, b, c, d, e⟩
  obtain ⟨_, _, _, h⟩ := Out.wp_iff.mp z
  exact h
section
variable {k : Nat} {μ : Mu} {p m : Int} {l : List (Int × Int)} {Q : D → Mu → Prop}
theorem w_addS (P0 : Pl p l) (hf : l.length ≤ 4096) (h : ∀ p' l', Pl p' l' → p' ≤ p → l'.length ≤ l.length → (∀ t, val p' l' t = val p l t + m) → Q (obj p' l') μ) : (run P fds (k + 6) n_Stair___add__ [obj p l, .int m] μ).wp Q := by
  refine wp_run rfl rfl ?_
  show (exss P _ b_Stair___add__ [.val (obj p l), .val (.int m), .und, .und] _).wp _ _ _ _
  simp only [b_Stair___add__, w_esS, w_lc2, w_lc2S, w_r3, w_meth, methW_obj, w_stat, w_appE, appW_o, w_isObj, w_all, w_oo, w_oi, w_oinv, w_oneg, w_olt, w_ole, w_ogt, w_oge, w_oeq, w_rev, tgo_nm, tgo_tp2, tgo_tp3, Sl.wipe, w_var, w_int, w_bl, w_non, w_str, w_con, w_bin, w_un, w_cmp, w_and, w_or, w_one, w_not, w_ife, w_chain, w_isN, w_notN, w_tup, w_lst, w_ix, w_sl, w_call, w_blt, w_fld, w_new, w_app, w_dget, w_dict, w_oix, w_olen, w_lc, w_esN, w_esC, w_oN, w_oS, seq_tup, seq_lst, w_iseq, w_r1, w_r2, w_enum, w_zip, w_zip3, lst_lst, w_add, w_sub, w_mul, w_fdiv, w_mod, w_pow, w_shr, w_lcat, w_tcat, w_neg, w_lt, w_le, w_gt, w_ge, w_eq, w_ne, w_ixt, w_ixl, w_len, w_lenT, w_abs, w_toint, w_totup, w_totupT, w_tolst, w_tolstT, w_divmod, w_min, w_max, w_isInt, w_isBool, w_isTup, w_lcm, w_set, w_bld, w_par, slot_f, slot_t, w_unp, w_appd, w_put, w_dput, w_dput2, w_frz, w_if, w_ret, w_retN, w_brk, w_cnt, w_pas, w_never, w_exp, w_init, w_nil, w_cons, w_for, w_forF, w_whl, wp_ok, wp_bad, tst_bl, asI_int, asV_val, asO_own, opt_some, get_0, get_s, Sl.put, begins, List.replicate, List.map_cons, List.map_nil, List.cons_append, List.nil_append, List.append_nil, List.length_cons, List.length_nil, Nat.reduceAdd, Nat.reduceSub, Nat.reduceLeDiff, List.replicate_succ, List.replicate_zero, true_and, and_true, decide_eq_true_eq, if_true, if_false, Bool.false_eq_true, ite_true, ite_false, decide_true, decide_false, Bool.not_true, Bool.not_false, Bool.not_eq_true', decide_eq_false_iff_not, f_per, f_stps]
  refine Out.wp_of (r_need (k + 3) m μ) ?_
  refine w_lcM (it := pr) (g := fun q => pr (q.1, q.2 + m)) (fun q hq => ?_) ?_
  · simp only [w_lcN, w_esS, w_lc2, w_lc2S, w_r3, w_meth, methW_obj, w_stat, w_appE, appW_o, w_isObj, w_all, w_oo, w_oi, w_oinv, w_oneg, w_olt, w_ole, w_ogt, w_oge, w_oeq, w_rev, tgo_nm, tgo_tp2, tgo_tp3, Sl.wipe, w_var, w_int, w_bl, w_non, w_str, w_con, w_bin, w_un, w_cmp, w_and, w_or, w_one, w_not, w_ife, w_chain, w_isN, w_notN, w_tup, w_lst, w_ix, w_sl, w_call, w_blt, w_fld, w_new, w_app, w_dget, w_dict, w_oix, w_olen, w_lc, w_esN, w_esC, w_oN, w_oS, seq_tup, seq_lst, w_iseq, w_r1, w_r2, w_enum, w_zip, w_zip3, lst_lst, w_add, w_sub, w_mul, w_fdiv, w_mod, w_pow, w_shr, w_lcat, w_tcat, w_neg, w_lt, w_le, w_gt, w_ge, w_eq, w_ne, w_ixt, w_ixl, w_len, w_lenT, w_abs, w_toint, w_totup, w_totupT, w_tolst, w_tolstT, w_divmod, w_min, w_max, w_isInt, w_isBool, w_isTup, w_lcm, w_set, w_bld, w_par, slot_f, slot_t, w_unp, w_appd, w_put, w_dput, w_dput2, w_frz, w_if, w_ret, w_retN, w_brk, w_cnt, w_pas, w_never, w_exp, w_init, w_nil, w_cons, w_for, w_forF, w_whl, wp_ok, wp_bad, tst_bl, asI_int, asV_val, asO_own, opt_some, get_0, get_s, Sl.put, begins, List.replicate, List.map_cons, List.map_nil, List.cons_append, List.nil_append, List.append_nil, List.length_cons, List.length_nil, Nat.reduceAdd, Nat.reduceSub, Nat.reduceLeDiff, List.replicate_succ, List.replicate_zero, true_and, and_true, decide_eq_true_eq, if_true, if_false, Bool.false_eq_true, ite_true, ite_false, decide_true, decide_false, Bool.not_true, Bool.not_false, Bool.not_eq_true', decide_eq_false_iff_not]
  refine ⟨by rw [List.length_map]; omega, ?_⟩
  rw [show (l.map fun q => pr (q.1, q.2 + m)) = (mv m l).map pr by rw [List.map_map]; rfl, p_init]
  refine w_newP (k := k) (tel_mv (P0.tel hf)) fun p' l' a b c _ e => ?_
  simp only [newW_obj]
  exact ⟨trivial, h p' l' a b (by rwa [List.length_map] at c) fun t => by rw [e, val_mv (P0.tel hf)]⟩
theorem w_raddS (P0 : Pl p l) (hf : l.length ≤ 4096) (h : ∀ p' l', Pl p' l' → p' ≤ p → l'.length ≤ l.length → (∀ t, val p' l' t = val p l t + m) → Q (obj p' l') μ) : (run P fds (k + 6) n_Stair___radd__ [obj p l, .int m] μ).wp Q := by
  refine wp_run rfl rfl ?_
  show (exss P _ b_Stair___radd__ [.val (obj p l), .val (.int m), .und, .und] _).wp _ _ _ _
  simp only [b_Stair___radd__, w_esS, w_lc2, w_lc2S, w_r3, w_meth, methW_obj, w_stat, w_appE, appW_o, w_isObj, w_all, w_oo, w_oi, w_oinv, w_oneg, w_olt, w_ole, w_ogt, w_oge, w_oeq, w_rev, tgo_nm, tgo_tp2, tgo_tp3, Sl.wipe, w_var, w_int, w_bl, w_non, w_str, w_con, w_bin, w_un, w_cmp, w_and, w_or, w_one, w_not, w_ife, w_chain, w_isN, w_notN, w_tup, w_lst, w_ix, w_sl, w_call, w_blt, w_fld, w_new, w_app, w_dget, w_dict, w_oix, w_olen, w_lc, w_esN, w_esC, w_oN, w_oS, seq_tup, seq_lst, w_iseq, w_r1, w_r2, w_enum, w_zip, w_zip3, lst_lst, w_add, w_sub, w_mul, w_fdiv, w_mod, w_pow, w_shr, w_lcat, w_tcat, w_neg, w_lt, w_le, w_gt, w_ge, w_eq, w_ne, w_ixt, w_ixl, w_len, w_lenT, w_abs, w_toint, w_totup, w_totupT, w_tolst, w_tolstT, w_divmod, w_min, w_max, w_isInt, w_isBool, w_isTup, w_lcm, w_set, w_bld, w_par, slot_f, slot_t, w_unp, w_appd, w_put, w_dput, w_dput2, w_frz, w_if, w_ret, w_retN, w_brk, w_cnt, w_pas, w_never, w_exp, w_init, w_nil, w_cons, w_for, w_forF, w_whl, wp_ok, wp_bad, tst_bl, asI_int, asV_val, asO_own, opt_some, get_0, get_s, Sl.put, begins, List.replicate, List.map_cons, List.map_nil, List.cons_append, List.nil_append, List.append_nil, List.length_cons, List.length_nil, Nat.reduceAdd, Nat.reduceSub, Nat.reduceLeDiff, List.replicate_succ, List.replicate_zero, true_and, and_true, decide_eq_true_eq, if_true, if_false, Bool.false_eq_true, ite_true, ite_false, decide_true, decide_false, Bool.not_true, Bool.not_false, Bool.not_eq_true', decide_eq_false_iff_not, f_per, f_stps]
  refine Out.wp_of (r_need (k + 3) m μ) ?_
  refine w_lcM (it := pr) (g := fun q => pr (q.1, q.2 + m)) (fun q hq => ?_) ?_
  · simp only [w_lcN, w_esS, w_lc2, w_lc2S, w_r3, w_meth, methW_obj, w_stat, w_appE, appW_o, w_isObj, w_all, w_oo, w_oi, w_oinv, w_oneg, w_olt, w_ole, w_ogt, w_oge, w_oeq, w_rev, tgo_nm, tgo_tp2, tgo_tp3, Sl.wipe, w_var, w_int, w_bl, w_non, w_str, w_con, w_bin, w_un, w_cmp, w_and, w_or, w_one, w_not, w_ife, w_chain, w_isN, w_notN, w_tup, w_lst, w_ix, w_sl, w_call, w_blt, w_fld, w_new, w_app, w_dget, w_dict, w_oix, w_olen, w_lc, w_esN, w_esC, w_oN, w_oS, seq_tup, seq_lst, w_iseq, w_r1, w_r2, w_enum, w_zip, w_zip3, lst_lst, w_add, w_sub, w_mul, w_fdiv, w_mod, w_pow, w_shr, w_lcat, w_tcat, w_neg, w_lt, w_le, w_gt, w_ge, w_eq, w_ne, w_ixt, w_ixl, w_len, w_lenT, w_abs, w_toint, w_totup, w_totupT, w_tolst, w_tolstT, w_divmod, w_min, w_max, w_isInt, w_isBool, w_isTup, w_lcm, w_set, w_bld, w_par, slot_f, slot_t, w_unp, w_appd, w_put, w_dput, w_dput2, w_frz, w_if, w_ret, w_retN, w_brk, w_cnt, w_pas, w_never, w_exp, w_init, w_nil, w_cons, w_for, w_forF, w_whl, wp_ok, wp_bad, tst_bl, asI_int, asV_val, asO_own, opt_some, get_0, get_s, Sl.put, begins, List.replicate, List.map_cons, List.map_nil, List.cons_append, List.nil_append, List.append_nil, List.length_cons, List.length_nil, Nat.reduceAdd, Nat.reduceSub, Nat.reduceLeDiff, List.replicate_succ, List.replicate_zero, true_and, and_true, decide_eq_true_eq, if_true, if_false, Bool.false_eq_true, ite_true, ite_false, decide_true, decide_false, Bool.not_true, Bool.not_false, Bool.not_eq_true', decide_eq_false_iff_not, Int.add_comm m]
  refine ⟨by rw [List.length_map]; omega, ?_⟩
  rw [show (l.map fun q => pr (q.1, q.2 + m)) = (mv m l).map pr by rw [List.map_map]; rfl, p_init]
  refine w_newP (k := k) (tel_mv (P0.tel hf)) fun p' l' a b c _ e => ?_
  simp only [newW_obj]
  exact ⟨trivial, h p' l' a b (by rwa [List.length_map] at c) fun t => by rw [e, val_mv (P0.tel hf)]⟩
theorem w_subS (P0 : Pl p l) (hf : l.length ≤ 4096) (h : ∀ p' l', Pl p' l' → p' ≤ p → l'.length ≤ l.length → (∀ t, val p' l' t = val p l t - m) → Q (obj p' l') μ) : (run P fds (k + 6) n_Stair___sub__ [obj p l, .int m] μ).wp Q := by
  refine wp_run rfl rfl ?_
  show (exss P _ b_Stair___sub__ [.val (obj p l), .val (.int m), .und, .und] _).wp _ _ _ _
  simp only [b_Stair___sub__, w_esS, w_lc2, w_lc2S, w_r3, w_meth, methW_obj, w_stat, w_appE, appW_o, w_isObj, w_all, w_oo, w_oi, w_oinv, w_oneg, w_olt, w_ole, w_ogt, w_oge, w_oeq, w_rev, tgo_nm, tgo_tp2, tgo_tp3, Sl.wipe, w_var, w_int, w_bl, w_non, w_str, w_con, w_bin, w_un, w_cmp, w_and, w_or, w_one, w_not, w_ife, w_chain, w_isN, w_notN, w_tup, w_lst, w_ix, w_sl, w_call, w_blt, w_fld, w_new, w_app, w_dget, w_dict, w_oix, w_olen, w_lc, w_esN, w_esC, w_oN, w_oS, seq_tup, seq_lst, w_iseq, w_r1, w_r2, w_enum, w_zip, w_zip3, lst_lst, w_add, w_sub, w_mul, w_fdiv, w_mod, w_pow, w_shr, w_lcat, w_tcat, w_neg, w_lt, w_le, w_gt, w_ge, w_eq, w_ne, w_ixt, w_ixl, w_len, w_lenT, w_abs, w_toint, w_totup, w_totupT, w_tolst, w_tolstT, w_divmod, w_min, w_max, w_isInt, w_isBool, w_isTup, w_lcm, w_set, w_bld, w_par, slot_f, slot_t, w_unp, w_appd, w_put, w_dput, w_dput2, w_frz, w_if, w_ret, w_retN, w_brk, w_cnt, w_pas, w_never, w_exp, w_init, w_nil, w_cons, w_for, w_forF, w_whl, wp_ok, wp_bad, tst_bl, asI_int, asV_val, asO_own, opt_some, get_0, get_s, Sl.put, begins, List.replicate, List.map_cons, List.map_nil, List.cons_append, List.nil_append, List.append_nil, List.length_cons, List.length_nil, Nat.reduceAdd, Nat.reduceSub, Nat.reduceLeDiff, List.replicate_succ, List.replicate_zero, true_and, and_true, decide_eq_true_eq, if_true, if_false, Bool.false_eq_true, ite_true, ite_false, decide_true, decide_false, Bool.not_true, Bool.not_false, Bool.not_eq_true', decide_eq_false_iff_not, f_per, f_stps]
  refine Out.wp_of (r_need (k + 3) m μ) ?_
  refine w_lcM (it := pr) (g := fun q => pr (q.1, q.2 + -m)) (fun q hq => ?_) ?_
  · simp only [w_lcN, w_esS, w_lc2, w_lc2S, w_r3, w_meth, methW_obj, w_stat, w_appE, appW_o, w_isObj, w_all, w_oo, w_oi, w_oinv, w_oneg, w_olt, w_ole, w_ogt, w_oge, w_oeq, w_rev, tgo_nm, tgo_tp2, tgo_tp3, Sl.wipe, w_var, w_int, w_bl, w_non, w_str, w_con, w_bin, w_un, w_cmp, w_and, w_or, w_one, w_not, w_ife, w_chain, w_isN, w_notN, w_tup, w_lst, w_ix, w_sl, w_call, w_blt, w_fld, w_new, w_app, w_dget, w_dict, w_oix, w_olen, w_lc, w_esN, w_esC, w_oN, w_oS, seq_tup, seq_lst, w_iseq, w_r1, w_r2, w_enum, w_zip, w_zip3, lst_lst, w_add, w_sub, w_mul, w_fdiv, w_mod, w_pow, w_shr, w_lcat, w_tcat, w_neg, w_lt, w_le, w_gt, w_ge, w_eq, w_ne, w_ixt, w_ixl, w_len, w_lenT, w_abs, w_toint, w_totup, w_totupT, w_tolst, w_tolstT, w_divmod, w_min, w_max, w_isInt, w_isBool, w_isTup, w_lcm, w_set, w_bld, w_par, slot_f, slot_t, w_unp, w_appd, w_put, w_dput, w_dput2, w_frz, w_if, w_ret, w_retN, w_brk, w_cnt, w_pas, w_never, w_exp, w_init, w_nil, w_cons, w_for, w_forF, w_whl, wp_ok, wp_bad, tst_bl, asI_int, asV_val, asO_own, opt_some, get_0, get_s, Sl.put, begins, List.replicate, List.map_cons, List.map_nil, List.cons_append, List.nil_append, List.append_nil, List.length_cons, List.length_nil, Nat.reduceAdd, Nat.reduceSub, Nat.reduceLeDiff, List.replicate_succ, List.replicate_zero, true_and, and_true, decide_eq_true_eq, if_true, if_false, Bool.false_eq_true, ite_true, ite_false, decide_true, decide_false, Bool.not_true, Bool.not_false, Bool.not_eq_true', decide_eq_false_iff_not, Int.sub_eq_add_neg]
  refine ⟨by rw [List.length_map]; omega, ?_⟩
  rw [show (l.map fun q => pr (q.1, q.2 + -m)) = (mv (-m) l).map pr by rw [List.map_map]; rfl, p_init]
  refine w_newP (k := k) (tel_mv (P0.tel hf)) fun p' l' a b c _ e => ?_
  simp only [newW_obj]
  exact ⟨trivial, h p' l' a b (by rwa [List.length_map] at c) fun t => by rw [e, val_mv (P0.tel hf)]; omega⟩
theorem tel_one : Tel 1 [((0 : Int), m)] := ⟨by decide, by simp, by simp, fun q hq => by rw [List.mem_singleton] at hq; subst hq; dsimp only; exact ⟨by decide, by decide⟩, List.pairwise_singleton _ _, fun x hx y hy => by rw [List.mem_singleton] at hx hy; subst hx; subst hy; omega⟩
theorem val_one (t : Int) : val 1 [((0 : Int), m)] t = t + m := by
  have A := (tel_one (m := m)).tells.ats
  have e : ∀ i : Int, stp 1 [((0 : Int), m)] i = (i, i + m) := fun i => by
    have := stp_at (p := 1) (l := [((0 : Int), m)]) (T := i) (r := 0) (by simp)
    simp only [List.length_singleton, List.getElem_cons_zero] at this
    rw [show i * ((1 : Nat) : Int) + ((0 : Nat) : Int) = i by omega] at this
    rw [this]
    exact Prod.ext (by dsimp only; omega) (by dsimp only; omega)
  rw [val_at A (i := t) (by rw [e]; exact Int.le_refl _) (by rw [e]; dsimp only; omega), e]
theorem pl_one {p' : Int} {l' : List (Int × Int)} (P0 : Pl p' l') (h1 : p' ≤ 1) (h2 : l'.length ≤ 1) (h : ∀ t, val p' l' t = val 1 [((0 : Int), m)] t) : p' = 1 ∧ l' = [((0 : Int), m)] := by
  have pp := P0.ats.pos
  have hl := List.length_pos_iff.mpr P0.ats.ne
  obtain ⟨q, rfl⟩ := List.length_eq_one_iff.mp (show l'.length = 1 by omega)
  have b := (P0.tel (by simp)).bd q List.mem_cons_self
  have ep : p' = 1 := by omega
  subst ep
  have q0 : q.1 = 0 := by omega
  have v := h 0
  have r := stp_at (p := 1) (l := [q]) (T := 0) (r := 0) (by simp)
  simp only [List.length_singleton, List.getElem_cons_zero, Int.zero_mul, Int.add_zero] at r
  rw [show (0 : Int) + ((0 : Nat) : Int) = 0 by omega] at r
  rw [val_one, val_at P0.ats (i := 0) (by rw [r]; omega) (by have := stp_next P0.ats 0; rw [r] at this; omega), r] at v
  refine ⟨rfl, ?_⟩
  congr 1
  exact Prod.ext q0 (by dsimp only; omega)
theorem w_shift (h : Pl 1 [((0 : Int), m)] → Q (obj 1 [(0, m)]) μ) : (run P fds (k + 6) n_Stair_shift [.int m] μ).wp Q := by
  refine wp_run rfl rfl ?_
  show (exss P _ b_Stair_shift [.val (.int m)] _).wp _ _ _ _
  simp only [b_Stair_shift, w_esS, w_lc2, w_lc2S, w_r3, w_meth, methW_obj, w_stat, w_appE, appW_o, w_isObj, w_all, w_oo, w_oi, w_oinv, w_oneg, w_olt, w_ole, w_ogt, w_oge, w_oeq, w_rev, tgo_nm, tgo_tp2, tgo_tp3, Sl.wipe, w_var, w_int, w_bl, w_non, w_str, w_con, w_bin, w_un, w_cmp, w_and, w_or, w_one, w_not, w_ife, w_chain, w_isN, w_notN, w_tup, w_lst, w_ix, w_sl, w_call, w_blt, w_fld, w_new, w_app, w_dget, w_dict, w_oix, w_olen, w_lc, w_esN, w_esC, w_oN, w_oS, seq_tup, seq_lst, w_iseq, w_r1, w_r2, w_enum, w_zip, w_zip3, lst_lst, w_add, w_sub, w_mul, w_fdiv, w_mod, w_pow, w_shr, w_lcat, w_tcat, w_neg, w_lt, w_le, w_gt, w_ge, w_eq, w_ne, w_ixt, w_ixl, w_len, w_lenT, w_abs, w_toint, w_totup, w_totupT, w_tolst, w_tolstT, w_divmod, w_min, w_max, w_isInt, w_isBool, w_isTup, w_lcm, w_set, w_bld, w_par, slot_f, slot_t, w_unp, w_appd, w_put, w_dput, w_dput2, w_frz, w_if, w_ret, w_retN, w_brk, w_cnt, w_pas, w_never, w_exp, w_init, w_nil, w_cons, w_for, w_forF, w_whl, wp_ok, wp_bad, tst_bl, asI_int, asV_val, asO_own, opt_some, get_0, get_s, Sl.put, begins, List.replicate, List.map_cons, List.map_nil, List.cons_append, List.nil_append, List.append_nil, List.length_cons, List.length_nil, Nat.reduceAdd, Nat.reduceSub, Nat.reduceLeDiff, List.replicate_succ, List.replicate_zero, true_and, and_true, decide_eq_true_eq, if_true, if_false, Bool.false_eq_true, ite_true, ite_false, decide_true, decide_false, Bool.not_true, Bool.not_false, Bool.not_eq_true', decide_eq_false_iff_not]
  refine Out.wp_of (r_need (k + 3) m μ) ?_
  rw [p_init]
  refine w_newP (k := k) (l := [(0, m)]) tel_one fun p' l' a b c _ e => ?_
  simp only [newW_obj]
  obtain ⟨rfl, rfl⟩ := pl_one a b (by simpa using c) e
  exact ⟨trivial, h a⟩
end
theorem rp_pl {p : Int} {l : List (Int × Int)} (P0 : Pl p l) (hp : p ≤ 1000) (hf : l.length ≤ 4096) (hv : ∀ t, 0 ≤ t → t < 1000 → -(2 ^ 150) < val p l t ∧ val p l t < 2 ^ 150) : ∃ x, rptx (.tup [.int p, tp l]) = some x ∧ PyData.strOk x = true := by
  have pp := P0.ats.pos
  refine rp_told (lg4 (by omega) (by omega)) hf fun q hq => ?_
  have b := (P0.tel hf).bd q hq
  obtain ⟨r, hr, rfl⟩ := List.mem_iff_getElem.mp hq
  have e := stp_at (p := p) (T := 0) hr
  simp only [Int.zero_mul, Int.zero_add, Int.add_zero] at e
  have n := stp_next P0.ats (r : Int)
  rw [e] at n
  have v := val_at P0.ats (i := (r : Int)) (t := (l[r]).1) (by rw [e]; exact Int.le_refl _) n
  rw [e] at v
  have := hv (l[r]).1 b.1 (by omega)
  dsimp only at v
  exact ⟨lg4 (by omega) (by omega), lg4 (by omega) (by omega)⟩
end Lw
set_option Elab.async false
set_option linter.all false
set_option maxRecDepth 100000
set_option maxHeartbeats 16000000
namespace Lw
open PySem L2 Vw
def deep : Nat := 20
def lB : Ss := match b_law with
  | .cons _ (.cons (.for _ _ b) _) => b
  | _ => .nil
def Ss.at' : Nat → Ss → S
  | 0, .cons s _ => s
  | n + 1, .cons _ ss => Ss.at' n ss
  | _, .nil => .pas
theorem lB_eq : lB = .cons (Ss.at' 0 lB) (.cons (Ss.at' 1 lB) (.cons (Ss.at' 2 lB) (Ss.drop 3 lB))) := rfl
theorem w_main {r n : Nat} {p' m W : Int} {l l' : List (Int × Int)} {μ : Mu} {s0 s2 a6 a7 a8 a9 a10 a11 : Sl} {N B C : Rho → Mu → Prop} {R : D → Mu → Prop} (T : Tel (n : Int) l) (n1 : n ≤ 27) (hv : ∀ s ∈ l, -12 ≤ s.2 ∧ s.2 ≤ 42) (D1 : Dr (n : Int) l p' l' 30 W) (hl' : l'.length ≤ 30) (hW : W ≤ 1000) (m0 : -(2 ^ 92) < m) (m1 : m < 2 ^ 92) (Ro : Room r μ)
    (h : ∀ a6 a7 a8 a9 a10 a11 μ', Room r μ' → N [s0, .val (.cel 0), s2, .val (.tup [.int (n : Int), tp l]), .val (obj p' l'), .val (.int m), a6, a7, a8, a9, a10, a11] μ') :
    (exss P (run P fds 19) (Ss.drop 3 lB) [s0, .val (.cel 0), s2, .val (.tup [.int (n : Int), tp l]), .val (obj p' l'), .val (.int m), a6, a7, a8, a9, a10, a11] μ).wp N R B C := by
  have n0 : 0 < n := by have := T.pos; omega
  have len := tel_len T
  have fl : ∀ t, -110 ≤ val (n : Int) l t - t ∧ val (n : Int) l t - t ≤ 110 := fun t => by
    have := tel_far (t := t) T (W := 42) fun s hs => by
      have := hv s hs
      omega
    omega
  have p'p := D1.pl.ats.pos
  have p'n := D1.le'
  obtain ⟨u, hu⟩ := D1.dv
  have ru : (u : Int) * p' = (n : Int) := by
    have e : (n : Int).natAbs = n := rfl
    rw [e] at hu
    rw [hu, Int.natCast_mul, Int.natAbs_of_nonneg (by omega), Int.mul_comm]
  have u0 : 0 < u := Nat.pos_of_ne_zero fun e => by rw [e] at ru; simp at ru; omega
  have mvd : ∀ c : Int, -(2 ^ 92) < c → c < 2 ^ 92 → ∃ q k x, Pl q k ∧ (∀ t, val q k t = val (n : Int) l t + c) ∧ (∃ v : Nat, 0 < v ∧ (v : Int) * q = (n : Int)) ∧ rptx (.tup [.int q, tp k]) = some x ∧ PyData.strOk x = true := fun c c0 c1 => by
    obtain ⟨q, k, a, b, cc, ⟨v, v0, v1, _⟩, e⟩ := told_pl (tel_mv (m := c) T)
    have e' : ∀ t, val q k t = val (n : Int) l t + c := fun t => by rw [e, val_mv T]
    rw [List.length_map] at cc
    obtain ⟨x, hx, ox⟩ := rp_pl a (by omega) (by omega) fun t t0 t1 => by
      have := fl t
      rw [e']
      omega
    exact ⟨q, k, x, a, e', ⟨v, v0, v1⟩, hx, ox⟩
  obtain ⟨qa, ka, xa, Pa, va, ⟨ra, ra0, ra1⟩, hxa, oxa⟩ := mvd m m0 m1
  obtain ⟨qs, ks, xs, Ps, vs, ⟨rs, rs0, rs1⟩, hxs, oxs⟩ := mvd (-m) (by omega) (by omega)
  simp only [lB, b_law, Ss.drop, w_esS, w_lc2, w_lc2S, w_r3, w_meth, methW_obj, w_stat, w_appE, appW_o, w_isObj, w_all, w_oo, w_oi, w_oinv, w_oneg, w_olt, w_ole, w_ogt, w_oge, w_oeq, w_rev, tgo_nm, tgo_tp2, tgo_tp3, Sl.wipe, w_var, w_int, w_bl, w_non, w_str, w_con, w_bin, w_un, w_cmp, w_and, w_or, w_one, w_not, w_ife, w_chain, w_isN, w_notN, w_tup, w_lst, w_ix, w_sl, w_call, w_blt, w_fld, w_new, w_app, w_dget, w_dict, w_oix, w_olen, w_lc, w_esN, w_esC, w_oN, w_oS, seq_tup, seq_lst, w_iseq, w_r1, w_r2, w_enum, w_zip, w_zip3, lst_lst, w_add, w_sub, w_mul, w_fdiv, w_mod, w_pow, w_shr, w_lcat, w_tcat, w_neg, w_lt, w_le, w_gt, w_ge, w_eq, w_ne, w_ixt, w_ixl, w_len, w_lenT, w_abs, w_toint, w_totup, w_totupT, w_tolst, w_tolstT, w_divmod, w_min, w_max, w_isInt, w_isBool, w_isTup, w_lcm, w_set, w_bld, w_par, slot_f, slot_t, w_unp, w_appd, w_put, w_dput, w_dput2, w_frz, w_if, w_ret, w_retN, w_brk, w_cnt, w_pas, w_never, w_exp, w_init, w_nil, w_cons, w_for, w_forF, w_whl, wp_ok, wp_bad, tst_bl, asI_int, asV_val, asO_own, opt_some, get_0, get_s, Sl.put, begins, List.replicate, List.map_cons, List.map_nil, List.cons_append, List.nil_append, List.append_nil, List.length_cons, List.length_nil, Nat.reduceAdd, Nat.reduceSub, Nat.reduceLeDiff, List.replicate_succ, List.replicate_zero, true_and, and_true, decide_eq_true_eq, if_true, if_false, Bool.false_eq_true, ite_true, ite_false, decide_true, decide_false, Bool.not_true, Bool.not_false, Bool.not_eq_true', decide_eq_false_iff_not, at_0, Int.toNat_natCast]
  refine w_lcR (g := fun (i : Nat) => D.int (val (n : Int) l (i : Int))) (fun i hi => ?_) ?_
  · simp only [w_lcN, w_esS, w_lc2, w_lc2S, w_r3, w_meth, methW_obj, w_stat, w_appE, appW_o, w_isObj, w_all, w_oo, w_oi, w_oinv, w_oneg, w_olt, w_ole, w_ogt, w_oge, w_oeq, w_rev, tgo_nm, tgo_tp2, tgo_tp3, Sl.wipe, w_var, w_int, w_bl, w_non, w_str, w_con, w_bin, w_un, w_cmp, w_and, w_or, w_one, w_not, w_ife, w_chain, w_isN, w_notN, w_tup, w_lst, w_ix, w_sl, w_call, w_blt, w_fld, w_new, w_app, w_dget, w_dict, w_oix, w_olen, w_lc, w_esN, w_esC, w_oN, w_oS, seq_tup, seq_lst, w_iseq, w_r1, w_r2, w_enum, w_zip, w_zip3, lst_lst, w_add, w_sub, w_mul, w_fdiv, w_mod, w_pow, w_shr, w_lcat, w_tcat, w_neg, w_lt, w_le, w_gt, w_ge, w_eq, w_ne, w_ixt, w_ixl, w_len, w_lenT, w_abs, w_toint, w_totup, w_totupT, w_tolst, w_tolstT, w_divmod, w_min, w_max, w_isInt, w_isBool, w_isTup, w_lcm, w_set, w_bld, w_par, slot_f, slot_t, w_unp, w_appd, w_put, w_dput, w_dput2, w_frz, w_if, w_ret, w_retN, w_brk, w_cnt, w_pas, w_never, w_exp, w_init, w_nil, w_cons, w_for, w_forF, w_whl, wp_ok, wp_bad, tst_bl, asI_int, asV_val, asO_own, opt_some, get_0, get_s, Sl.put, begins, List.replicate, List.map_cons, List.map_nil, List.cons_append, List.nil_append, List.append_nil, List.length_cons, List.length_nil, Nat.reduceAdd, Nat.reduceSub, Nat.reduceLeDiff, List.replicate_succ, List.replicate_zero, true_and, and_true, decide_eq_true_eq, if_true, if_false, Bool.false_eq_true, ite_true, ite_false, decide_true, decide_false, Bool.not_true, Bool.not_false, Bool.not_eq_true', decide_eq_false_iff_not, Int.zero_add]
    refine w_value (k := 18) T (by omega) (by omega) (by omega) ?_
    simp only [w_esS, w_lc2, w_lc2S, w_r3, w_meth, methW_obj, w_stat, w_appE, appW_o, w_isObj, w_all, w_oo, w_oi, w_oinv, w_oneg, w_olt, w_ole, w_ogt, w_oge, w_oeq, w_rev, tgo_nm, tgo_tp2, tgo_tp3, Sl.wipe, w_var, w_int, w_bl, w_non, w_str, w_con, w_bin, w_un, w_cmp, w_and, w_or, w_one, w_not, w_ife, w_chain, w_isN, w_notN, w_tup, w_lst, w_ix, w_sl, w_call, w_blt, w_fld, w_new, w_app, w_dget, w_dict, w_oix, w_olen, w_lc, w_esN, w_esC, w_oN, w_oS, seq_tup, seq_lst, w_iseq, w_r1, w_r2, w_enum, w_zip, w_zip3, lst_lst, w_add, w_sub, w_mul, w_fdiv, w_mod, w_pow, w_shr, w_lcat, w_tcat, w_neg, w_lt, w_le, w_gt, w_ge, w_eq, w_ne, w_ixt, w_ixl, w_len, w_lenT, w_abs, w_toint, w_totup, w_totupT, w_tolst, w_tolstT, w_divmod, w_min, w_max, w_isInt, w_isBool, w_isTup, w_lcm, w_set, w_bld, w_par, slot_f, slot_t, w_unp, w_appd, w_put, w_dput, w_dput2, w_frz, w_if, w_ret, w_retN, w_brk, w_cnt, w_pas, w_never, w_exp, w_init, w_nil, w_cons, w_for, w_forF, w_whl, wp_ok, wp_bad, tst_bl, asI_int, asV_val, asO_own, opt_some, get_0, get_s, Sl.put, begins, List.replicate, List.map_cons, List.map_nil, List.cons_append, List.nil_append, List.append_nil, List.length_cons, List.length_nil, Nat.reduceAdd, Nat.reduceSub, Nat.reduceLeDiff, List.replicate_succ, List.replicate_zero, true_and, and_true, decide_eq_true_eq, if_true, if_false, Bool.false_eq_true, ite_true, ite_false, decide_true, decide_false, Bool.not_true, Bool.not_false, Bool.not_eq_true', decide_eq_false_iff_not]
  refine ⟨by rw [List.length_map, List.length_range]; omega, ?_⟩
  refine w_lcM (it := fun (i : Nat) => D.int (val (n : Int) l (i : Int))) (g := fun (i : Nat) => D.int (val (n : Int) l (i : Int) + m)) (fun i hi => ?_) ?_
  · simp only [w_lcN, w_esS, w_lc2, w_lc2S, w_r3, w_meth, methW_obj, w_stat, w_appE, appW_o, w_isObj, w_all, w_oo, w_oi, w_oinv, w_oneg, w_olt, w_ole, w_ogt, w_oge, w_oeq, w_rev, tgo_nm, tgo_tp2, tgo_tp3, Sl.wipe, w_var, w_int, w_bl, w_non, w_str, w_con, w_bin, w_un, w_cmp, w_and, w_or, w_one, w_not, w_ife, w_chain, w_isN, w_notN, w_tup, w_lst, w_ix, w_sl, w_call, w_blt, w_fld, w_new, w_app, w_dget, w_dict, w_oix, w_olen, w_lc, w_esN, w_esC, w_oN, w_oS, seq_tup, seq_lst, w_iseq, w_r1, w_r2, w_enum, w_zip, w_zip3, lst_lst, w_add, w_sub, w_mul, w_fdiv, w_mod, w_pow, w_shr, w_lcat, w_tcat, w_neg, w_lt, w_le, w_gt, w_ge, w_eq, w_ne, w_ixt, w_ixl, w_len, w_lenT, w_abs, w_toint, w_totup, w_totupT, w_tolst, w_tolstT, w_divmod, w_min, w_max, w_isInt, w_isBool, w_isTup, w_lcm, w_set, w_bld, w_par, slot_f, slot_t, w_unp, w_appd, w_put, w_dput, w_dput2, w_frz, w_if, w_ret, w_retN, w_brk, w_cnt, w_pas, w_never, w_exp, w_init, w_nil, w_cons, w_for, w_forF, w_whl, wp_ok, wp_bad, tst_bl, asI_int, asV_val, asO_own, opt_some, get_0, get_s, Sl.put, begins, List.replicate, List.map_cons, List.map_nil, List.cons_append, List.nil_append, List.append_nil, List.length_cons, List.length_nil, Nat.reduceAdd, Nat.reduceSub, Nat.reduceLeDiff, List.replicate_succ, List.replicate_zero, true_and, and_true, decide_eq_true_eq, if_true, if_false, Bool.false_eq_true, ite_true, ite_false, decide_true, decide_false, Bool.not_true, Bool.not_false, Bool.not_eq_true', decide_eq_false_iff_not]
  refine ⟨by rw [List.length_map, List.length_range]; omega, ?_⟩
  show (run Lw.P fds (18 + 1) n__law_plain [_] μ).wp _
  refine w_lawplain (r := ra) (F := fun t => val (n : Int) l t + m) Pa va ra0 ra1 (by omega) ?_
  refine w_rp hxa ?_
  have SAME : ∀ (x y : Str) (Q : D → Mu → Prop), PyData.strOk x = true → PyData.strOk y = true → x = y → Q (.bl false) μ → (cop Lw.P (run P fds 19) .NotEq (.str x) (.str y) μ).wp Q := fun x y Q hx hy e q => by
    subst e
    rw [w_neStr hx hx]
    simpa using q
  refine ⟨rfl, ?_⟩
  rw [show Lw.P.meth 0 (opM .Add) = some n_Stair___add__ from rfl, opt_some]
  show (run P fds (13 + 6) n_Stair___add__ [obj p' l', .int m] μ).wp _
  refine w_addS D1.pl (by omega) fun q1 k1 P1 _ _ e1 => ?_
  obtain ⟨h1, h2⟩ := plain_one Pa P1 fun t => by rw [va, e1, D1.vl]
  subst h1 h2
  show (run Lw.P fds (17 + 2) n__law_told [obj qa ka] μ).wp _
  refine w_told ?_
  refine w_rp hxa ?_
  refine w_io.mpr ⟨rfl, ?_⟩
  rw [show Lw.P.meth 0 20 = some n_Stair___radd__ from rfl, opt_some]
  show (run P fds (13 + 6) n_Stair___radd__ [obj p' l', .int m] μ).wp _
  refine w_raddS D1.pl (by omega) fun q1 k1 P1 _ _ e1 => ?_
  obtain ⟨h1, h2⟩ := plain_one Pa P1 fun t => by rw [va, e1, D1.vl]
  subst h1 h2
  show (run Lw.P fds (17 + 2) n__law_told [obj qa ka] μ).wp _
  refine w_told ?_
  refine w_rp hxa ?_
  refine (w_neStrs (l := [xa, xa]) (m := [xa, xa]) (fun y hy => by simp at hy; rw [hy]; exact oxa) (fun y hy => by simp at hy; rw [hy]; exact oxa)).mpr ?_
  simp only [decide_true, Bool.not_true, tst_bl, Bool.false_eq_true, if_false]
  refine ⟨rfl, ?_⟩
  rw [show Lw.P.meth 0 (opM .Sub) = some n_Stair___sub__ from rfl, opt_some]
  show (run P fds (13 + 6) n_Stair___sub__ [obj p' l', .int m] μ).wp _
  refine w_subS D1.pl (by omega) fun q1 k1 P1 _ _ e1 => ?_
  obtain ⟨h1, h2⟩ := plain_one Ps P1 fun t => by rw [vs, e1, D1.vl]; omega
  subst h1 h2
  show (run Lw.P fds (17 + 2) n__law_told [obj qs ks] μ).wp _
  refine w_told ?_
  refine w_rp hxs ?_
  refine w_lcM (it := fun (i : Nat) => D.int (val (n : Int) l (i : Int))) (g := fun (i : Nat) => D.int (val (n : Int) l (i : Int) - m)) (fun i hi => ?_) ?_
  · simp only [w_lcN, w_esS, w_lc2, w_lc2S, w_r3, w_meth, methW_obj, w_stat, w_appE, appW_o, w_isObj, w_all, w_oo, w_oi, w_oinv, w_oneg, w_olt, w_ole, w_ogt, w_oge, w_oeq, w_rev, tgo_nm, tgo_tp2, tgo_tp3, Sl.wipe, w_var, w_int, w_bl, w_non, w_str, w_con, w_bin, w_un, w_cmp, w_and, w_or, w_one, w_not, w_ife, w_chain, w_isN, w_notN, w_tup, w_lst, w_ix, w_sl, w_call, w_blt, w_fld, w_new, w_app, w_dget, w_dict, w_oix, w_olen, w_lc, w_esN, w_esC, w_oN, w_oS, seq_tup, seq_lst, w_iseq, w_r1, w_r2, w_enum, w_zip, w_zip3, lst_lst, w_add, w_sub, w_mul, w_fdiv, w_mod, w_pow, w_shr, w_lcat, w_tcat, w_neg, w_lt, w_le, w_gt, w_ge, w_eq, w_ne, w_ixt, w_ixl, w_len, w_lenT, w_abs, w_toint, w_totup, w_totupT, w_tolst, w_tolstT, w_divmod, w_min, w_max, w_isInt, w_isBool, w_isTup, w_lcm, w_set, w_bld, w_par, slot_f, slot_t, w_unp, w_appd, w_put, w_dput, w_dput2, w_frz, w_if, w_ret, w_retN, w_brk, w_cnt, w_pas, w_never, w_exp, w_init, w_nil, w_cons, w_for, w_forF, w_whl, wp_ok, wp_bad, tst_bl, asI_int, asV_val, asO_own, opt_some, get_0, get_s, Sl.put, begins, List.replicate, List.map_cons, List.map_nil, List.cons_append, List.nil_append, List.append_nil, List.length_cons, List.length_nil, Nat.reduceAdd, Nat.reduceSub, Nat.reduceLeDiff, List.replicate_succ, List.replicate_zero, true_and, and_true, decide_eq_true_eq, if_true, if_false, Bool.false_eq_true, ite_true, ite_false, decide_true, decide_false, Bool.not_true, Bool.not_false, Bool.not_eq_true', decide_eq_false_iff_not]
  refine ⟨by rw [List.length_map, List.length_range]; omega, ?_⟩
  show (run Lw.P fds (18 + 1) n__law_plain [_] μ).wp _
  refine w_lawplain (r := rs) (F := fun t => val (n : Int) l t - m) Ps (fun t => by rw [vs]; omega) rs0 rs1 (by omega) ?_
  refine w_rp hxs ?_
  refine SAME _ _ _ oxs oxs rfl ?_
  simp only [tst_bl, Bool.false_eq_true, if_false]
  show (run P fds (13 + 6) n_Stair_shift [.int m] μ).wp _
  refine w_shift fun PM => ?_
  obtain ⟨xm, hxm, oxm⟩ := rp_told (p := 1) (l := [((0 : Int), m)]) (by decide) (by simp) fun q hq => by
    rw [List.mem_singleton] at hq
    subst hq
    dsimp only
    exact ⟨lg4 (by decide) (by decide), lg4 (by omega) (by omega)⟩
  show (run Lw.P fds (17 + 2) n__law_told [obj 1 [(0, m)]] μ).wp _
  refine w_told ?_
  refine w_rp hxm ?_
  refine w_rp (x := xm) hxm ?_
  refine SAME _ _ _ oxm oxm rfl ?_
  simp only [tst_bl, Bool.false_eq_true, if_false]
  show (run P fds (15 + 4) n_Stair___call__ [obj 1 [(0, m)], .int (-7)] μ).wp _
  refine w_callS PM.ats (by simp) (by decide) (by decide) (by decide) ?_
  rw [val_one]
  refine w_ne.mpr ?_
  rw [show decide (-7 + m = m - 7) = true by rw [decide_eq_true_eq]; omega]
  simp only [tst_bl, Bool.not_true, Bool.false_eq_true, if_false]
  refine w_oo.mpr ⟨rfl, ?_⟩
  rw [show Lw.P.meth 0 (opM .Mult) = some n_Stair___mul__ from rfl, opt_some]
  obtain ⟨c1, c2, C⟩ := cm_lcm (p := 1) (q := p') (by decide) p'p
  have L1 : ((Nat.lcm (1 : Int).natAbs p'.natAbs : Nat) : Int) = p' := by
    rw [show (1 : Int).natAbs = 1 from rfl, Nat.lcm_one_left]
    exact Int.natAbs_of_nonneg (by omega)
  have c2e : c2 = 1 := by
    have := C.hn
    rw [L1] at this
    have z := Int.eq_of_mul_eq_mul_right (show p' ≠ 0 by omega) (this.trans (Int.one_mul p').symm)
    omega
  show (run P fds (13 + 6) n_Stair___mul__ [obj 1 [(0, m)], obj p' l'] μ).wp _
  refine w_mulS rfl C PM D1.pl (by simp) (by rw [c2e]; omega) (by rw [L1]; omega) (fun s hs => by
    have := D1.row hs
    have := D1.pl.ats.pos
    omega) fun q1 k1 P1 _ _ _ e1 => ?_
  obtain ⟨h1, h2⟩ := plain_one Pa P1 fun t => by rw [va, e1, val_one, D1.vl]
  subst h1 h2
  show (run Lw.P fds (17 + 2) n__law_told [obj qa ka] μ).wp _
  refine w_told ?_
  refine w_rp hxa ?_
  refine SAME _ _ _ oxa oxa rfl ?_
  simp only [tst_bl, Bool.false_eq_true, if_false]
  refine w_oi.mpr ⟨rfl, ?_⟩
  rw [show Lw.P.meth 0 (opM .Add) = some n_Stair___add__ from rfl, opt_some]
  show (run P fds (13 + 6) n_Stair___add__ [obj 1 [(0, m)], .int 1] μ).wp _
  refine w_addS PM (by simp) fun q2 k2 P2 b1 b2 e2 => ?_
  refine w_oi.mpr ⟨rfl, ?_⟩
  rw [show Lw.P.meth 0 (opM .Sub) = some n_Stair___sub__ from rfl, opt_some]
  show (run P fds (13 + 6) n_Stair___sub__ [obj q2 k2, .int 1] μ).wp _
  refine w_subS P2 (by simp at b2; omega) fun q3 k3 P3 _ _ e3 => ?_
  obtain ⟨h1, h2⟩ := plain_one PM P3 fun t => by rw [e3, e2]; omega
  subst h1 h2
  refine w_oeq.mpr ⟨rfl, ?_⟩
  rw [show Lw.P.meth 0 30 = some n_Stair___eq__ from rfl, opt_some]
  show (run P fds (18 + 1) n_Stair___eq__ [obj 1 [(0, m)], obj 1 [(0, m)]] μ).wp _
  refine w_eqS PM PM fun c hc => ?_
  rw [show c = true from hc.mpr fun t => rfl]
  simp only [tst_bl, Bool.true_eq_false, if_false]
  refine w_lcR (g := fun (i : Nat) => D.int (val (n : Int) l ((i : Int) + m))) (fun i hi => ?_) ?_
  · simp only [w_lcN, w_esS, w_lc2, w_lc2S, w_r3, w_meth, methW_obj, w_stat, w_appE, appW_o, w_isObj, w_all, w_oo, w_oi, w_oinv, w_oneg, w_olt, w_ole, w_ogt, w_oge, w_oeq, w_rev, tgo_nm, tgo_tp2, tgo_tp3, Sl.wipe, w_var, w_int, w_bl, w_non, w_str, w_con, w_bin, w_un, w_cmp, w_and, w_or, w_one, w_not, w_ife, w_chain, w_isN, w_notN, w_tup, w_lst, w_ix, w_sl, w_call, w_blt, w_fld, w_new, w_app, w_dget, w_dict, w_oix, w_olen, w_lc, w_esN, w_esC, w_oN, w_oS, seq_tup, seq_lst, w_iseq, w_r1, w_r2, w_enum, w_zip, w_zip3, lst_lst, w_add, w_sub, w_mul, w_fdiv, w_mod, w_pow, w_shr, w_lcat, w_tcat, w_neg, w_lt, w_le, w_gt, w_ge, w_eq, w_ne, w_ixt, w_ixl, w_len, w_lenT, w_abs, w_toint, w_totup, w_totupT, w_tolst, w_tolstT, w_divmod, w_min, w_max, w_isInt, w_isBool, w_isTup, w_lcm, w_set, w_bld, w_par, slot_f, slot_t, w_unp, w_appd, w_put, w_dput, w_dput2, w_frz, w_if, w_ret, w_retN, w_brk, w_cnt, w_pas, w_never, w_exp, w_init, w_nil, w_cons, w_for, w_forF, w_whl, wp_ok, wp_bad, tst_bl, asI_int, asV_val, asO_own, opt_some, get_0, get_s, Sl.put, begins, List.replicate, List.map_cons, List.map_nil, List.cons_append, List.nil_append, List.append_nil, List.length_cons, List.length_nil, Nat.reduceAdd, Nat.reduceSub, Nat.reduceLeDiff, List.replicate_succ, List.replicate_zero, true_and, and_true, decide_eq_true_eq, if_true, if_false, Bool.false_eq_true, ite_true, ite_false, decide_true, decide_false, Bool.not_true, Bool.not_false, Bool.not_eq_true', decide_eq_false_iff_not, Int.zero_add]
    refine w_value (k := 18) T (by omega) (by omega) (by omega) ?_
    simp only [w_esS, w_lc2, w_lc2S, w_r3, w_meth, methW_obj, w_stat, w_appE, appW_o, w_isObj, w_all, w_oo, w_oi, w_oinv, w_oneg, w_olt, w_ole, w_ogt, w_oge, w_oeq, w_rev, tgo_nm, tgo_tp2, tgo_tp3, Sl.wipe, w_var, w_int, w_bl, w_non, w_str, w_con, w_bin, w_un, w_cmp, w_and, w_or, w_one, w_not, w_ife, w_chain, w_isN, w_notN, w_tup, w_lst, w_ix, w_sl, w_call, w_blt, w_fld, w_new, w_app, w_dget, w_dict, w_oix, w_olen, w_lc, w_esN, w_esC, w_oN, w_oS, seq_tup, seq_lst, w_iseq, w_r1, w_r2, w_enum, w_zip, w_zip3, lst_lst, w_add, w_sub, w_mul, w_fdiv, w_mod, w_pow, w_shr, w_lcat, w_tcat, w_neg, w_lt, w_le, w_gt, w_ge, w_eq, w_ne, w_ixt, w_ixl, w_len, w_lenT, w_abs, w_toint, w_totup, w_totupT, w_tolst, w_tolstT, w_divmod, w_min, w_max, w_isInt, w_isBool, w_isTup, w_lcm, w_set, w_bld, w_par, slot_f, slot_t, w_unp, w_appd, w_put, w_dput, w_dput2, w_frz, w_if, w_ret, w_retN, w_brk, w_cnt, w_pas, w_never, w_exp, w_init, w_nil, w_cons, w_for, w_forF, w_whl, wp_ok, wp_bad, tst_bl, asI_int, asV_val, asO_own, opt_some, get_0, get_s, Sl.put, begins, List.replicate, List.map_cons, List.map_nil, List.cons_append, List.nil_append, List.append_nil, List.length_cons, List.length_nil, Nat.reduceAdd, Nat.reduceSub, Nat.reduceLeDiff, List.replicate_succ, List.replicate_zero, true_and, and_true, decide_eq_true_eq, if_true, if_false, Bool.false_eq_true, ite_true, ite_false, decide_true, decide_false, Bool.not_true, Bool.not_false, Bool.not_eq_true', decide_eq_false_iff_not]
  refine ⟨by rw [List.length_map, List.length_range]; omega, ?_⟩
  refine w_oo.mpr ⟨rfl, ?_⟩
  rw [show Lw.P.meth 0 (opM .Mult) = some n_Stair___mul__ from rfl, opt_some]
  obtain ⟨c3, c4, C'⟩ := cm_lcm (p := p') (q := 1) p'p (by decide)
  have L2 : ((Nat.lcm p'.natAbs (1 : Int).natAbs : Nat) : Int) = p' := by
    rw [show (1 : Int).natAbs = 1 from rfl, Nat.lcm_one_right]
    exact Int.natAbs_of_nonneg (by omega)
  have c4e : (c4 : Int) = p' := by
    have := C'.hn
    rw [L2] at this
    omega
  show (run P fds (13 + 6) n_Stair___mul__ [obj p' l', obj 1 [(0, m)]] μ).wp _
  refine w_mulS rfl C' D1.pl PM (by omega) (by simp; omega) (by rw [L2]; omega) (fun s hs => by
    rw [List.mem_singleton] at hs
    subst hs
    dsimp only
    omega) fun q4 k4 P4 b3 b4 ⟨r4, r40, r41, _⟩ e4 => ?_
  have e4' : ∀ t, val q4 k4 t = val (n : Int) l (t + m) := fun t => by rw [e4, val_one, D1.vl]
  rw [L2] at r41 b3
  obtain ⟨xq, hxq, oxq⟩ := rp_pl P4 (by omega) (by simp at b4; omega) fun t t0 t1 => by
    have := fl (t + m)
    rw [e4']
    omega
  show (run Lw.P fds (17 + 2) n__law_told [obj q4 k4] μ).wp _
  refine w_told ?_
  refine w_rp hxq ?_
  show (run Lw.P fds (18 + 1) n__law_plain [_] μ).wp _
  refine w_lawplain (r := u * r4) (F := fun t => val (n : Int) l (t + m)) P4 e4' (Nat.mul_pos u0 r40) (by rw [Int.natCast_mul, Int.mul_assoc, r41, ru]) (by omega) ?_
  refine w_rp hxq ?_
  refine SAME _ _ _ oxq oxq rfl ?_
  simp only [tst_bl, Bool.false_eq_true, if_false]
  exact h _ _ _ _ _ _ _ Ro
theorem holds : ∀ ns : List Int, ns.length ≤ 63 → (∀ z ∈ ns, Builtin.Int.intBits z ≤ 1048576) → ∃ μ, run P fds deep 0 [.lst (ns.map .int)] [] = .ok (.bl true) μ := by
  intro ns hn _
  suffices H : (run P fds (19 + 1) n_law [.lst (ns.map .int)] []).wp (fun d _ => d = .bl true) by
    obtain ⟨d, μ, e, rfl⟩ := Out.wp_iff.mp H
    exact ⟨μ, e⟩
  refine wp_run rfl rfl ?_
  show (exss P _ b_law [.val (.lst (ns.map .int)), .und, .und, .und, .und, .und, .und, .und, .und, .und, .und, .und] _).wp _ _ _ _
  simp only [b_law, w_esS, w_lc2, w_lc2S, w_r3, w_meth, methW_obj, w_stat, w_appE, appW_o, w_isObj, w_all, w_oo, w_oi, w_oinv, w_oneg, w_olt, w_ole, w_ogt, w_oge, w_oeq, w_rev, tgo_nm, tgo_tp2, tgo_tp3, Sl.wipe, w_var, w_int, w_bl, w_non, w_str, w_con, w_bin, w_un, w_cmp, w_and, w_or, w_one, w_not, w_ife, w_chain, w_isN, w_notN, w_tup, w_lst, w_ix, w_sl, w_call, w_blt, w_fld, w_new, w_app, w_dget, w_dict, w_oix, w_olen, w_lc, w_esN, w_esC, w_oN, w_oS, seq_tup, seq_lst, w_iseq, w_r1, w_r2, w_enum, w_zip, w_zip3, lst_lst, w_add, w_sub, w_mul, w_fdiv, w_mod, w_pow, w_shr, w_lcat, w_tcat, w_neg, w_lt, w_le, w_gt, w_ge, w_eq, w_ne, w_ixt, w_ixl, w_len, w_lenT, w_abs, w_toint, w_totup, w_totupT, w_tolst, w_tolstT, w_divmod, w_min, w_max, w_isInt, w_isBool, w_isTup, w_lcm, w_set, w_bld, w_par, slot_f, slot_t, w_unp, w_appd, w_put, w_dput, w_dput2, w_frz, w_if, w_ret, w_retN, w_brk, w_cnt, w_pas, w_never, w_exp, w_init, w_nil, w_cons, w_for, w_forF, w_whl, wp_ok, wp_bad, tst_bl, asI_int, asV_val, asO_own, opt_some, get_0, get_s, Sl.put, begins, List.replicate, List.map_cons, List.map_nil, List.cons_append, List.nil_append, List.append_nil, List.length_cons, List.length_nil, Nat.reduceAdd, Nat.reduceSub, Nat.reduceLeDiff, List.replicate_succ, List.replicate_zero, true_and, and_true, decide_eq_true_eq, if_true, if_false, Bool.false_eq_true, ite_true, ite_false, decide_true, decide_false, Bool.not_true, Bool.not_false, Bool.not_eq_true', decide_eq_false_iff_not]
  refine w_begin hn fun μ0 R0 => ?_
  simp only [w_esS, w_lc2, w_lc2S, w_r3, w_meth, methW_obj, w_stat, w_appE, appW_o, w_isObj, w_all, w_oo, w_oi, w_oinv, w_oneg, w_olt, w_ole, w_ogt, w_oge, w_oeq, w_rev, tgo_nm, tgo_tp2, tgo_tp3, Sl.wipe, w_var, w_int, w_bl, w_non, w_str, w_con, w_bin, w_un, w_cmp, w_and, w_or, w_one, w_not, w_ife, w_chain, w_isN, w_notN, w_tup, w_lst, w_ix, w_sl, w_call, w_blt, w_fld, w_new, w_app, w_dget, w_dict, w_oix, w_olen, w_lc, w_esN, w_esC, w_oN, w_oS, seq_tup, seq_lst, w_iseq, w_r1, w_r2, w_enum, w_zip, w_zip3, lst_lst, w_add, w_sub, w_mul, w_fdiv, w_mod, w_pow, w_shr, w_lcat, w_tcat, w_neg, w_lt, w_le, w_gt, w_ge, w_eq, w_ne, w_ixt, w_ixl, w_len, w_lenT, w_abs, w_toint, w_totup, w_totupT, w_tolst, w_tolstT, w_divmod, w_min, w_max, w_isInt, w_isBool, w_isTup, w_lcm, w_set, w_bld, w_par, slot_f, slot_t, w_unp, w_appd, w_put, w_dput, w_dput2, w_frz, w_if, w_ret, w_retN, w_brk, w_cnt, w_pas, w_never, w_exp, w_init, w_nil, w_cons, w_for, w_forF, w_whl, wp_ok, wp_bad, tst_bl, asI_int, asV_val, asO_own, opt_some, get_0, get_s, Sl.put, begins, List.replicate, List.map_cons, List.map_nil, List.cons_append, List.nil_append, List.append_nil, List.length_cons, List.length_nil, Nat.reduceAdd, Nat.reduceSub, Nat.reduceLeDiff, List.replicate_succ, List.replicate_zero, true_and, and_true, decide_eq_true_eq, if_true, if_false, Bool.false_eq_true, ite_true, ite_false, decide_true, decide_false, Bool.not_true, Bool.not_false, Bool.not_eq_true', decide_eq_false_iff_not, List.length_map]
  refine for_inv (fun items ρ μ => ∃ (a1 a2 a3 a4 a5 a6 a7 a8 a9 a10 : Sl), items.length ≤ 100 ∧ ρ = [.val (.lst (ns.map .int)), .val (.cel 0), a1, a2, a3, a4, a5, a6, a7, a8, a9, a10] ∧ Room (2 ^ 50 + 9000 * items.length) μ) ?step ?done ?init
  case init =>
    exact ⟨.und, .und, .und, .und, .und, .und, .und, .und, .und, .und, by rw [rngs_len]; split <;> omega, rfl, R0.mono (by rw [rngs_len]; split <;> omega)⟩
  case done =>
    rintro ρ μ ⟨a1, a2, a3, a4, a5, a6, a7, a8, a9, a10, _, rfl, _⟩
    simp only [w_esS, w_lc2, w_lc2S, w_r3, w_meth, methW_obj, w_stat, w_appE, appW_o, w_isObj, w_all, w_oo, w_oi, w_oinv, w_oneg, w_olt, w_ole, w_ogt, w_oge, w_oeq, w_rev, tgo_nm, tgo_tp2, tgo_tp3, Sl.wipe, w_var, w_int, w_bl, w_non, w_str, w_con, w_bin, w_un, w_cmp, w_and, w_or, w_one, w_not, w_ife, w_chain, w_isN, w_notN, w_tup, w_lst, w_ix, w_sl, w_call, w_blt, w_fld, w_new, w_app, w_dget, w_dict, w_oix, w_olen, w_lc, w_esN, w_esC, w_oN, w_oS, seq_tup, seq_lst, w_iseq, w_r1, w_r2, w_enum, w_zip, w_zip3, lst_lst, w_add, w_sub, w_mul, w_fdiv, w_mod, w_pow, w_shr, w_lcat, w_tcat, w_neg, w_lt, w_le, w_gt, w_ge, w_eq, w_ne, w_ixt, w_ixl, w_len, w_lenT, w_abs, w_toint, w_totup, w_totupT, w_tolst, w_tolstT, w_divmod, w_min, w_max, w_isInt, w_isBool, w_isTup, w_lcm, w_set, w_bld, w_par, slot_f, slot_t, w_unp, w_appd, w_put, w_dput, w_dput2, w_frz, w_if, w_ret, w_retN, w_brk, w_cnt, w_pas, w_never, w_exp, w_init, w_nil, w_cons, w_for, w_forF, w_whl, wp_ok, wp_bad, tst_bl, asI_int, asV_val, asO_own, opt_some, get_0, get_s, Sl.put, begins, List.replicate, List.map_cons, List.map_nil, List.cons_append, List.nil_append, List.append_nil, List.length_cons, List.length_nil, Nat.reduceAdd, Nat.reduceSub, Nat.reduceLeDiff, List.replicate_succ, List.replicate_zero, true_and, and_true, decide_eq_true_eq, if_true, if_false, Bool.false_eq_true, ite_true, ite_false, decide_true, decide_false, Bool.not_true, Bool.not_false, Bool.not_eq_true', decide_eq_false_iff_not]
  case step =>
    rintro it ds ρ μ ⟨a1, a2, a3, a4, a5, a6, a7, a8, a9, a10, hl, rfl, R⟩
    rw [List.length_cons] at hl R
    have R : Room (2 ^ 50 + 9000 * ds.length + 7000 + 1000) μ := R.mono (by omega)
    show (forF P (run P fds 19) (.nm 2) lB it _ _).wp _ _ _ _
    rw [w_forF, lB_eq]
    generalize hT : Ss.drop 3 lB = TL
    simp only [lB, b_law, Ss.at', w_esS, w_lc2, w_lc2S, w_r3, w_meth, methW_obj, w_stat, w_appE, appW_o, w_isObj, w_all, w_oo, w_oi, w_oinv, w_oneg, w_olt, w_ole, w_ogt, w_oge, w_oeq, w_rev, tgo_nm, tgo_tp2, tgo_tp3, Sl.wipe, w_var, w_int, w_bl, w_non, w_str, w_con, w_bin, w_un, w_cmp, w_and, w_or, w_one, w_not, w_ife, w_chain, w_isN, w_notN, w_tup, w_lst, w_ix, w_sl, w_call, w_blt, w_fld, w_new, w_app, w_dget, w_dict, w_oix, w_olen, w_lc, w_esN, w_esC, w_oN, w_oS, seq_tup, seq_lst, w_iseq, w_r1, w_r2, w_enum, w_zip, w_zip3, lst_lst, w_add, w_sub, w_mul, w_fdiv, w_mod, w_pow, w_shr, w_lcat, w_tcat, w_neg, w_lt, w_le, w_gt, w_ge, w_eq, w_ne, w_ixt, w_ixl, w_len, w_lenT, w_abs, w_toint, w_totup, w_totupT, w_tolst, w_tolstT, w_divmod, w_min, w_max, w_isInt, w_isBool, w_isTup, w_lcm, w_set, w_bld, w_par, slot_f, slot_t, w_unp, w_appd, w_put, w_dput, w_dput2, w_frz, w_if, w_ret, w_retN, w_brk, w_cnt, w_pas, w_never, w_exp, w_init, w_nil, w_cons, w_for, w_forF, w_whl, wp_ok, wp_bad, tst_bl, asI_int, asV_val, asO_own, opt_some, get_0, get_s, Sl.put, begins, List.replicate, List.map_cons, List.map_nil, List.cons_append, List.nil_append, List.append_nil, List.length_cons, List.length_nil, Nat.reduceAdd, Nat.reduceSub, Nat.reduceLeDiff, List.replicate_succ, List.replicate_zero, true_and, and_true, decide_eq_true_eq, if_true, if_false, Bool.false_eq_true, ite_true, ite_false, decide_true, decide_false, Bool.not_true, Bool.not_false, Bool.not_eq_true', decide_eq_false_iff_not]
    refine w_stair (k := 17) (r := 2 ^ 50 + 9000 * ds.length + 7000) (by decide) (by decide) R fun p l μ1 T1 hp hv R1 _ => ?_
    have p0 := T1.pos
    obtain ⟨n, rfl⟩ : ∃ n : Nat, p = (n : Int) := ⟨p.toNat, (Int.toNat_of_nonneg (by omega)).symm⟩
    have len := tel_len T1
    simp only [w_esS, w_lc2, w_lc2S, w_r3, w_meth, methW_obj, w_stat, w_appE, appW_o, w_isObj, w_all, w_oo, w_oi, w_oinv, w_oneg, w_olt, w_ole, w_ogt, w_oge, w_oeq, w_rev, tgo_nm, tgo_tp2, tgo_tp3, Sl.wipe, w_var, w_int, w_bl, w_non, w_str, w_con, w_bin, w_un, w_cmp, w_and, w_or, w_one, w_not, w_ife, w_chain, w_isN, w_notN, w_tup, w_lst, w_ix, w_sl, w_call, w_blt, w_fld, w_new, w_app, w_dget, w_dict, w_oix, w_olen, w_lc, w_esN, w_esC, w_oN, w_oS, seq_tup, seq_lst, w_iseq, w_r1, w_r2, w_enum, w_zip, w_zip3, lst_lst, w_add, w_sub, w_mul, w_fdiv, w_mod, w_pow, w_shr, w_lcat, w_tcat, w_neg, w_lt, w_le, w_gt, w_ge, w_eq, w_ne, w_ixt, w_ixl, w_len, w_lenT, w_abs, w_toint, w_totup, w_totupT, w_tolst, w_tolstT, w_divmod, w_min, w_max, w_isInt, w_isBool, w_isTup, w_lcm, w_set, w_bld, w_par, slot_f, slot_t, w_unp, w_appd, w_put, w_dput, w_dput2, w_frz, w_if, w_ret, w_retN, w_brk, w_cnt, w_pas, w_never, w_exp, w_init, w_nil, w_cons, w_for, w_forF, w_whl, wp_ok, wp_bad, tst_bl, asI_int, asV_val, asO_own, opt_some, get_0, get_s, Sl.put, begins, List.replicate, List.map_cons, List.map_nil, List.cons_append, List.nil_append, List.append_nil, List.length_cons, List.length_nil, Nat.reduceAdd, Nat.reduceSub, Nat.reduceLeDiff, List.replicate_succ, List.replicate_zero, true_and, and_true, decide_eq_true_eq, if_true, if_false, Bool.false_eq_true, ite_true, ite_false, decide_true, decide_false, Bool.not_true, Bool.not_false, Bool.not_eq_true', decide_eq_false_iff_not, at_0, at_1, p_init]
    refine w_mkV (k := 14) (N := 30) (V := 42) T1 (by omega) (fun q hq => by have := hv q hq; omega) fun p' l' D1 m1 => ?_
    simp only [w_esS, w_lc2, w_lc2S, w_r3, w_meth, methW_obj, w_stat, w_appE, appW_o, w_isObj, w_all, w_oo, w_oi, w_oinv, w_oneg, w_olt, w_ole, w_ogt, w_oge, w_oeq, w_rev, tgo_nm, tgo_tp2, tgo_tp3, Sl.wipe, w_var, w_int, w_bl, w_non, w_str, w_con, w_bin, w_un, w_cmp, w_and, w_or, w_one, w_not, w_ife, w_chain, w_isN, w_notN, w_tup, w_lst, w_ix, w_sl, w_call, w_blt, w_fld, w_new, w_app, w_dget, w_dict, w_oix, w_olen, w_lc, w_esN, w_esC, w_oN, w_oS, seq_tup, seq_lst, w_iseq, w_r1, w_r2, w_enum, w_zip, w_zip3, lst_lst, w_add, w_sub, w_mul, w_fdiv, w_mod, w_pow, w_shr, w_lcat, w_tcat, w_neg, w_lt, w_le, w_gt, w_ge, w_eq, w_ne, w_ixt, w_ixl, w_len, w_lenT, w_abs, w_toint, w_totup, w_totupT, w_tolst, w_tolstT, w_divmod, w_min, w_max, w_isInt, w_isBool, w_isTup, w_lcm, w_set, w_bld, w_par, slot_f, slot_t, w_unp, w_appd, w_put, w_dput, w_dput2, w_frz, w_if, w_ret, w_retN, w_brk, w_cnt, w_pas, w_never, w_exp, w_init, w_nil, w_cons, w_for, w_forF, w_whl, wp_ok, wp_bad, tst_bl, asI_int, asV_val, asO_own, opt_some, get_0, get_s, Sl.put, begins, List.replicate, List.map_cons, List.map_nil, List.cons_append, List.nil_append, List.append_nil, List.length_cons, List.length_nil, Nat.reduceAdd, Nat.reduceSub, Nat.reduceLeDiff, List.replicate_succ, List.replicate_zero, true_and, and_true, decide_eq_true_eq, if_true, if_false, Bool.false_eq_true, ite_true, ite_false, decide_true, decide_false, Bool.not_true, Bool.not_false, Bool.not_eq_true', decide_eq_false_iff_not, newW_obj, at_0, at_1]
    refine w_draw (k := 18) (r := 2 ^ 50 + 9000 * ds.length + 6000) (R1.mono (by omega)) (by decide) (by decide) fun x μ2 x0 x1 R2 => ?_
    simp only [w_esS, w_lc2, w_lc2S, w_r3, w_meth, methW_obj, w_stat, w_appE, appW_o, w_isObj, w_all, w_oo, w_oi, w_oinv, w_oneg, w_olt, w_ole, w_ogt, w_oge, w_oeq, w_rev, tgo_nm, tgo_tp2, tgo_tp3, Sl.wipe, w_var, w_int, w_bl, w_non, w_str, w_con, w_bin, w_un, w_cmp, w_and, w_or, w_one, w_not, w_ife, w_chain, w_isN, w_notN, w_tup, w_lst, w_ix, w_sl, w_call, w_blt, w_fld, w_new, w_app, w_dget, w_dict, w_oix, w_olen, w_lc, w_esN, w_esC, w_oN, w_oS, seq_tup, seq_lst, w_iseq, w_r1, w_r2, w_enum, w_zip, w_zip3, lst_lst, w_add, w_sub, w_mul, w_fdiv, w_mod, w_pow, w_shr, w_lcat, w_tcat, w_neg, w_lt, w_le, w_gt, w_ge, w_eq, w_ne, w_ixt, w_ixl, w_len, w_lenT, w_abs, w_toint, w_totup, w_totupT, w_tolst, w_tolstT, w_divmod, w_min, w_max, w_isInt, w_isBool, w_isTup, w_lcm, w_set, w_bld, w_par, slot_f, slot_t, w_unp, w_appd, w_put, w_dput, w_dput2, w_frz, w_if, w_ret, w_retN, w_brk, w_cnt, w_pas, w_never, w_exp, w_init, w_nil, w_cons, w_for, w_forF, w_whl, wp_ok, wp_bad, tst_bl, asI_int, asV_val, asO_own, opt_some, get_0, get_s, Sl.put, begins, List.replicate, List.map_cons, List.map_nil, List.cons_append, List.nil_append, List.append_nil, List.length_cons, List.length_nil, Nat.reduceAdd, Nat.reduceSub, Nat.reduceLeDiff, List.replicate_succ, List.replicate_zero, true_and, and_true, decide_eq_true_eq, if_true, if_false, Bool.false_eq_true, ite_true, ite_false, decide_true, decide_false, Bool.not_true, Bool.not_false, Bool.not_eq_true', decide_eq_false_iff_not]
    refine w_great (k := 17) (r := 2 ^ 50 + 9000 * ds.length + 5000) (R2.mono (by omega)) fun g1 μ3 g10 g11 R3 => ?_
    try simp only [w_esS, w_lc2, w_lc2S, w_r3, w_meth, methW_obj, w_stat, w_appE, appW_o, w_isObj, w_all, w_oo, w_oi, w_oinv, w_oneg, w_olt, w_ole, w_ogt, w_oge, w_oeq, w_rev, tgo_nm, tgo_tp2, tgo_tp3, Sl.wipe, w_var, w_int, w_bl, w_non, w_str, w_con, w_bin, w_un, w_cmp, w_and, w_or, w_one, w_not, w_ife, w_chain, w_isN, w_notN, w_tup, w_lst, w_ix, w_sl, w_call, w_blt, w_fld, w_new, w_app, w_dget, w_dict, w_oix, w_olen, w_lc, w_esN, w_esC, w_oN, w_oS, seq_tup, seq_lst, w_iseq, w_r1, w_r2, w_enum, w_zip, w_zip3, lst_lst, w_add, w_sub, w_mul, w_fdiv, w_mod, w_pow, w_shr, w_lcat, w_tcat, w_neg, w_lt, w_le, w_gt, w_ge, w_eq, w_ne, w_ixt, w_ixl, w_len, w_lenT, w_abs, w_toint, w_totup, w_totupT, w_tolst, w_tolstT, w_divmod, w_min, w_max, w_isInt, w_isBool, w_isTup, w_lcm, w_set, w_bld, w_par, slot_f, slot_t, w_unp, w_appd, w_put, w_dput, w_dput2, w_frz, w_if, w_ret, w_retN, w_brk, w_cnt, w_pas, w_never, w_exp, w_init, w_nil, w_cons, w_for, w_forF, w_whl, wp_ok, wp_bad, tst_bl, asI_int, asV_val, asO_own, opt_some, get_0, get_s, Sl.put, begins, List.replicate, List.map_cons, List.map_nil, List.cons_append, List.nil_append, List.append_nil, List.length_cons, List.length_nil, Nat.reduceAdd, Nat.reduceSub, Nat.reduceLeDiff, List.replicate_succ, List.replicate_zero, true_and, and_true, decide_eq_true_eq, if_true, if_false, Bool.false_eq_true, ite_true, ite_false, decide_true, decide_false, Bool.not_true, Bool.not_false, Bool.not_eq_true', decide_eq_false_iff_not]
    refine w_great (k := 17) (r := 2 ^ 50 + 9000 * ds.length + 4000) (R3.mono (by omega)) fun g2 μ4 g20 g21 R4 => ?_
    simp only [w_esS, w_lc2, w_lc2S, w_r3, w_meth, methW_obj, w_stat, w_appE, appW_o, w_isObj, w_all, w_oo, w_oi, w_oinv, w_oneg, w_olt, w_ole, w_ogt, w_oge, w_oeq, w_rev, tgo_nm, tgo_tp2, tgo_tp3, Sl.wipe, w_var, w_int, w_bl, w_non, w_str, w_con, w_bin, w_un, w_cmp, w_and, w_or, w_one, w_not, w_ife, w_chain, w_isN, w_notN, w_tup, w_lst, w_ix, w_sl, w_call, w_blt, w_fld, w_new, w_app, w_dget, w_dict, w_oix, w_olen, w_lc, w_esN, w_esC, w_oN, w_oS, seq_tup, seq_lst, w_iseq, w_r1, w_r2, w_enum, w_zip, w_zip3, lst_lst, w_add, w_sub, w_mul, w_fdiv, w_mod, w_pow, w_shr, w_lcat, w_tcat, w_neg, w_lt, w_le, w_gt, w_ge, w_eq, w_ne, w_ixt, w_ixl, w_len, w_lenT, w_abs, w_toint, w_totup, w_totupT, w_tolst, w_tolstT, w_divmod, w_min, w_max, w_isInt, w_isBool, w_isTup, w_lcm, w_set, w_bld, w_par, slot_f, slot_t, w_unp, w_appd, w_put, w_dput, w_dput2, w_frz, w_if, w_ret, w_retN, w_brk, w_cnt, w_pas, w_never, w_exp, w_init, w_nil, w_cons, w_for, w_forF, w_whl, wp_ok, wp_bad, tst_bl, asI_int, asV_val, asO_own, opt_some, get_0, get_s, Sl.put, begins, List.replicate, List.map_cons, List.map_nil, List.cons_append, List.nil_append, List.append_nil, List.length_cons, List.length_nil, Nat.reduceAdd, Nat.reduceSub, Nat.reduceLeDiff, List.replicate_succ, List.replicate_zero, true_and, and_true, decide_eq_true_eq, if_true, if_false, Bool.false_eq_true, ite_true, ite_false, decide_true, decide_false, Bool.not_true, Bool.not_false, Bool.not_eq_true', decide_eq_false_iff_not]
    refine w_draw (k := 18) (r := 2 ^ 50 + 9000 * ds.length + 3000) (R4.mono (by omega)) (by decide) (by decide) fun y μ5 y0 y1 R5 => ?_
    have E : ∃ m : Int, -(2 ^ 92) < m ∧ m < 2 ^ 92 ∧ at? [D.int (x - 20), D.int (x - 20), D.int g1, D.int (0 - g2)] y = some (.int m) := by
      rcases (by omega : y = 0 ∨ y = 1 ∨ y = 2 ∨ y = 3) with rfl | rfl | rfl | rfl
      · exact ⟨_, by omega, by omega, rfl⟩
      · exact ⟨_, by omega, by omega, rfl⟩
      · exact ⟨_, by omega, by omega, rfl⟩
      · exact ⟨_, by omega, by omega, rfl⟩
    obtain ⟨m, m0, m1', em⟩ := E
    simp only [w_esS, w_lc2, w_lc2S, w_r3, w_meth, methW_obj, w_stat, w_appE, appW_o, w_isObj, w_all, w_oo, w_oi, w_oinv, w_oneg, w_olt, w_ole, w_ogt, w_oge, w_oeq, w_rev, tgo_nm, tgo_tp2, tgo_tp3, Sl.wipe, w_var, w_int, w_bl, w_non, w_str, w_con, w_bin, w_un, w_cmp, w_and, w_or, w_one, w_not, w_ife, w_chain, w_isN, w_notN, w_tup, w_lst, w_ix, w_sl, w_call, w_blt, w_fld, w_new, w_app, w_dget, w_dict, w_oix, w_olen, w_lc, w_esN, w_esC, w_oN, w_oS, seq_tup, seq_lst, w_iseq, w_r1, w_r2, w_enum, w_zip, w_zip3, lst_lst, w_add, w_sub, w_mul, w_fdiv, w_mod, w_pow, w_shr, w_lcat, w_tcat, w_neg, w_lt, w_le, w_gt, w_ge, w_eq, w_ne, w_ixt, w_ixl, w_len, w_lenT, w_abs, w_toint, w_totup, w_totupT, w_tolst, w_tolstT, w_divmod, w_min, w_max, w_isInt, w_isBool, w_isTup, w_lcm, w_set, w_bld, w_par, slot_f, slot_t, w_unp, w_appd, w_put, w_dput, w_dput2, w_frz, w_if, w_ret, w_retN, w_brk, w_cnt, w_pas, w_never, w_exp, w_init, w_nil, w_cons, w_for, w_forF, w_whl, wp_ok, wp_bad, tst_bl, asI_int, asV_val, asO_own, opt_some, get_0, get_s, Sl.put, begins, List.replicate, List.map_cons, List.map_nil, List.cons_append, List.nil_append, List.append_nil, List.length_cons, List.length_nil, Nat.reduceAdd, Nat.reduceSub, Nat.reduceLeDiff, List.replicate_succ, List.replicate_zero, true_and, and_true, decide_eq_true_eq, if_true, if_false, Bool.false_eq_true, ite_true, ite_false, decide_true, decide_false, Bool.not_true, Bool.not_false, Bool.not_eq_true', decide_eq_false_iff_not, em]
    have G := fun (N B C : Rho → Mu → Prop) (R : D → Mu → Prop) hh => w_main (r := 2 ^ 50 + 9000 * ds.length) (s0 := .val (.lst (ns.map .int))) (s2 := .val it) (a6 := a5) (a7 := a6) (a8 := a7) (a9 := a8) (a10 := a9) (a11 := a10) (μ := μ5) (N := N) (B := B) (C := C) (R := R) T1 (by omega) (fun q hq => by have := hv q hq; omega) D1 (by omega) (by omega) m0 m1' (R5.mono (by omega)) hh
    rw [hT] at G
    exact G _ _ _ _ fun a6 a7 a8 a9 a10 a11 μ' R' => ⟨_, _, _, _, _, _, _, _, _, _, by omega, rfl, R'⟩
end Lw
set_option Elab.async false
set_option linter.all false
open PySem PySem.W PyProof.Rows in
set_option maxRecDepth 100000 in
set_option maxHeartbeats 0 in
theorem PySem.Challenge.cw_viewstairs_k08_whole_moved_holds : PySem.Challenge.rw_viewstairs_k08_whole_moved.Holds := by
  w_on; o_law; k_head; (case hw => w_witness2)
  k_fill
  refine Vw.walkG (l := PySem.Challenge.rw_viewstairs_k08_whole_moved) rfl rfl (fun w h Y => PySem.W.kIn_of Y) ?F
  case F =>
    intro w mg fa h KX G hmg
    refine Vw.fin (nm := Lw.nm) (gl := Lw.gl) (df := Lw.df) (fds := Lw.fds) (P := Lw.P) (k := Lw.deep - 1) (x := "script") rfl ⟨rfl, by decide, by decide⟩ Lw.holds ?Z
    refine' Lw.all_mk KX G hmg ?m0 ?a0 ?l0 ?c0 ?k0 ?a1 ?l1 ?c1 ?k1 ?a2 ?l2 ?c2 ?k2 ?a3 ?l3 ?c3 ?k3 ?a4 ?i4 ?l4 ?c4 ?k4 ?a5 ?l5 ?c5 ?k5 ?a6 ?l6 ?c6 ?k6 ?a7 ?l7 ?c7 ?k7 ?a8 ?l8 ?c8 ?k8 ?a9 ?l9 ?c9 ?k9 ?a10 ?l10 ?c10 ?k10 ?a11 ?l11 ?c11 ?k11 ?a12 ?l12 ?c12 ?k12 ?a13 ?g13 ?t13 ?r13 ?l13 ?c13 ?k13 ?a14 ?g14 ?t14 ?r14 ?l14 ?c14 ?k14 ?a15 ?i15 ?h15 ?l15 ?c15 ?k15 ?a16 ?l16 ?c16 ?k16 ?a17 ?l17 ?c17 ?k17 ?a18 ?l18 ?c18 ?k18 ?a19 ?l19 ?c19 ?k19 ?a20 ?l20 ?c20 ?k20 ?a21 ?i21 ?l21 ?c21 ?k21 ?a22 ?i22 ?l22 ?c22 ?k22 ?a23 ?i23 ?l23 ?c23 ?k23 ?a24 ?i24 ?l24 ?c24 ?k24 ?a25 ?i25 ?l25 ?c25 ?k25 ?a26 ?l26 ?c26 ?k26 ?a27 ?l27 ?c27 ?k27 ?a28 ?l28 ?c28 ?k28 ?a29 ?l29 ?c29 ?k29 ?a30 ?r30 ?u30 ?v30 ?l30 ?c30 ?k30 ?a31 ?l31 ?c31 ?k31 ?a32 ?l32 ?c32 ?k32 ?a33 ?l33 ?c33 ?k33 ?a34 ?l34 ?c34 ?k34 ?q0 ?q1 ?q2 ?z0 ?z1 ?z2 ?z3 ?z4 ?z5 ?z6 ?z7 ?z8 ?z9 ?z10 ?z11 ?z12 ?z13 ?z14 ?z15 ?z16 ?zl ?mk0 ?kc0 ?pg0 ?hd0 ?po0 ?sa0 ?nf0_0 ?nf0_1 ?ia0 ?ib0 ?ic0 ?id0 ?ka0 ?kb0 ?kk0_0 ?kk0_1 ?kk0_2 ?kk0_3 ?kd0_0 ?kd0_1 ?kd0_2 ?kd0_3 ?kd0_4 ?kd0_5 ?ob0_Add ?oc0_Add ?oa0_Sub ?ob0_Sub ?oc0_Sub ?nn0 ?se0 ?ns0
    (case m0 => k_is)
    (case a0 => k_is)
    (case l0 => k_is)
    (case c0 => k_is)
    (case k0 => k_is)
    (case a1 => k_is)
    (case l1 => k_is)
    (case c1 => k_is)
    (case k1 => k_is)
    (case a2 => k_is)
    (case l2 => k_is)
    (case c2 => k_is)
    (case k2 => k_is)
    (case a3 => k_is)
    (case l3 => k_is)
    (case c3 => k_is)
    (case k3 => k_is)
    (case a4 => k_is)
    (case i4 => k_is)
    (case l4 => k_is)
    (case c4 => k_is)
    (case k4 => k_is)
    (case a5 => k_is)
    (case l5 => k_is)
    (case c5 => k_is)
    (case k5 => k_is)
    (case a6 => k_is)
    (case l6 => k_is)
    (case c6 => k_is)
    (case k6 => k_is)
    (case a7 => k_is)
    (case l7 => k_is)
    (case c7 => k_is)
    (case k7 => k_is)
    (case a8 => k_is)
    (case l8 => k_is)
    (case c8 => k_is)
    (case k8 => k_is)
    (case a9 => k_is)
    (case l9 => k_is)
    (case c9 => k_is)
    (case k9 => k_is)
    (case a10 => k_is)
    (case l10 => k_is)
    (case c10 => k_is)
    (case k10 => k_is)
    (case a11 => k_is)
    (case l11 => k_is)
    (case c11 => k_is)
    (case k11 => k_is)
    (case a12 => k_is)
    (case l12 => k_is)
    (case c12 => k_is)
    (case k12 => k_is)
    (case a13 => k_is)
    (case g13 => k_is)
    (case t13 => k_is)
    (case r13 => k_is)
    (case l13 => k_is)
    (case c13 => k_is)
    (case k13 => k_is)
    (case a14 => k_is)
    (case g14 => k_is)
    (case t14 => k_is)
    (case r14 => k_is)
    (case l14 => k_is)
    (case c14 => k_is)
    (case k14 => k_is)
    (case a15 => k_is)
    (case i15 => k_is)
    (case h15 => k_is)
    (case l15 => k_is)
    (case c15 => k_is)
    (case k15 => k_is)
    (case a16 => k_is)
    (case l16 => k_is)
    (case c16 => k_is)
    (case k16 => k_is)
    (case a17 => k_is)
    (case l17 => k_is)
    (case c17 => k_is)
    (case k17 => k_is)
    (case a18 => k_is)
    (case l18 => k_is)
    (case c18 => k_is)
    (case k18 => k_is)
    (case a19 => k_is)
    (case l19 => k_is)
    (case c19 => k_is)
    (case k19 => k_is)
    (case a20 => k_is)
    (case l20 => k_is)
    (case c20 => k_is)
    (case k20 => k_is)
    (case a21 => k_is)
    (case i21 => k_is)
    (case l21 => k_is)
    (case c21 => k_is)
    (case k21 => k_is)
    (case a22 => k_is)
    (case i22 => k_is)
    (case l22 => k_is)
    (case c22 => k_is)
    (case k22 => k_is)
    (case a23 => k_is)
    (case i23 => k_is)
    (case l23 => k_is)
    (case c23 => k_is)
    (case k23 => k_is)
    (case a24 => k_is)
    (case i24 => k_is)
    (case l24 => k_is)
    (case c24 => k_is)
    (case k24 => k_is)
    (case a25 => k_is)
    (case i25 => k_is)
    (case l25 => k_is)
    (case c25 => k_is)
    (case k25 => k_is)
    (case a26 => k_is)
    (case l26 => k_is)
    (case c26 => k_is)
    (case k26 => k_is)
    (case a27 => k_is)
    (case l27 => k_is)
    (case c27 => k_is)
    (case k27 => k_is)
    (case a28 => k_is)
    (case l28 => k_is)
    (case c28 => k_is)
    (case k28 => k_is)
    (case a29 => k_is)
    (case l29 => k_is)
    (case c29 => k_is)
    (case k29 => k_is)
    (case a30 => k_is)
    (case r30 => k_is)
    (case u30 => k_is)
    (case v30 => k_is)
    (case l30 => k_is)
    (case c30 => k_is)
    (case k30 => k_is)
    (case a31 => k_is)
    (case l31 => k_is)
    (case c31 => k_is)
    (case k31 => k_is)
    (case a32 => k_is)
    (case l32 => k_is)
    (case c32 => k_is)
    (case k32 => k_is)
    (case a33 => k_is)
    (case l33 => k_is)
    (case c33 => k_is)
    (case k33 => k_is)
    (case a34 => k_is)
    (case l34 => k_is)
    (case c34 => k_is)
    (case k34 => k_is)
    (case q0 => k_is)
    (case q1 => k_is)
    (case q2 => k_is)
    (case z0 => k_is)
    (case z1 => k_is)
    (case z2 => k_is)
    (case z3 => k_is)
    (case z4 => k_is)
    (case z5 => k_is)
    (case z6 => k_is)
    (case z7 => k_is)
    (case z8 => k_is)
    (case z9 => k_is)
    (case z10 => k_is)
    (case z11 => k_is)
    (case z12 => k_is)
    (case z13 => k_is)
    (case z14 => k_is)
    (case z15 => k_is)
    (case z16 => k_is)
    (case zl => k_is)
    (case mk0 => k_is)
    (case kc0 => k_is)
    (case pg0 => k_is)
    (case hd0 => k_is)
    (case po0 => k_is)
    (case sa0 => k_is)
    (case nf0_0 => k_is)
    (case nf0_1 => k_is)
    (case ia0 => k_is)
    (case ib0 => k_is)
    (case ic0 => k_is)
    (case id0 => k_is)
    (case ka0 => k_is)
    (case kb0 => k_is)
    (case kk0_0 => k_is)
    (case kk0_1 => k_is)
    (case kk0_2 => k_is)
    (case kk0_3 => k_is)
    (case kd0_0 => k_is)
    (case kd0_1 => k_is)
    (case kd0_2 => k_is)
    (case kd0_3 => k_is)
    (case kd0_4 => k_is)
    (case kd0_5 => k_is)
    (case ob0_Add => k_is)
    (case oc0_Add => k_is)
    (case oa0_Sub => k_is)
    (case ob0_Sub => k_is)
    (case oc0_Sub => k_is)
    (case nn0 => k_is)
    (case se0 => k_is)
    (case ns0 => k_is)
