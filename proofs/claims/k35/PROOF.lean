import PyProof.Rows.All
import Wide.All
import OpenK.AllK
import Wide.FinOn
import PyProof.EqLayable
import PyProof.EqAt
import PyProof.EqKinds
import PyProof.TupleCall
import HandS.ForExc
import HandS.Comp
import HandS.Iter
import HandS.Text
import HandS.Walk
import HandS.Wide
import HandS.IsInst
import HandS.Gcd
import HandS.TupAny
import HandS.Zip
import HandS.Rev
import HandS.ExcIs
import PyProof.Conv_int
import HandS.Dict
import PyProof.ReprReads
import PyProof.CallFns
import HandS.Style
import HandS.EndBits
import KE.KRevSl
import HandS.TupLe
import HandS.Conv
import HandS.SetFor
import KE.KTupSum
import KE.KMathG
import HandS.SortKw
import KE.DatumOrd
import HandS.Strs
import KE.GoesEnum
import KE.GoesZip
import HandS.SortInts
import KE.DatumIndex
import KE.DatumMore
import HandS.SortRule
import HandS.Deep
import HandS.List
import HandS.Replace
import HandS.StrMore
import OpenK.KMeth
import HandS.SlotsOwn
import HandS.Property
import KE.KOpsOwn
import KE.KCallOwn
import HandS.Star
import HandS.NamedTupSort
import PyProof.InstEq
import PySem.Challenge.RW_cushionshots_k35_errors_of_balls
set_option Elab.async false
set_option linter.all false
set_option maxRecDepth 100000
set_option maxHeartbeats 4000000
namespace DL
open PySem
/-- what a slot holds: nothing known | frozen data | a list that nobody else holds | the law's well, with a budget of draws | the script | a caught error, at a -/
inductive S where
  | no | va (d : PyData) | own (ds : List PyData) | well (n : Nat) | scr (ns : List Int) | exc (a : Addr)
  /-- an instance of the class c that nobody else holds, its attributes -/
  | ins (c : Str) (es : List PyData)
abbrev DSt := List S
/-- a frozen instance of the class c: its attributes, a name and a value each -/
abbrev objD (c : Str) (es : List PyData) : PyData := .dict [(.none, .tuple (.str c :: es))]
/-- an attribute -/
def fget (n : Str) : List PyData → Option PyData
  | .tuple [.str m, d] :: r => if n = m then some d else fget n r
  | _ => none
def fput (n : Str) (v : PyData) : List PyData → List PyData
  | .tuple [.str m, d] :: r => if m = n then .tuple [.str m, v] :: r else .tuple [.str m, d] :: fput n v r
  | _ => [.tuple [.str n, v]]
/-- the three numbers of a well that stands for n more draws -/
structure WellOk (n : Nat) (a b c : Int) : Prop where
  a0 : 0 ≤ a
  a1 : a.natAbs < 2 ^ 1100000
  b0 : 0 ≤ b
  b1 : b < 2 ^ 150
  c0 : 0 ≤ c
  c1 : c + n < 2 ^ 64
def sget : DSt → Nat → S
  | [], _ => .no
  | s :: _, 0 => s
  | _ :: r, n + 1 => sget r n
def sset : DSt → Nat → S → DSt
  | [], _, _ => []
  | _ :: r, 0, s => s :: r
  | x :: r, n + 1, s => x :: sset r n s
/-- the slots is forgotten -/
def swipe : DSt → List Nat → DSt
  | sd, [] => sd
  | sd, i :: is => sset (swipe sd is) i .no
/-- the slots is put back from s0 -/
def sback (s0 : DSt) : DSt → List Nat → DSt
  | sd, [] => sd
  | sd, i :: is => sset (sback s0 sd is) i (sget s0 i)
abbrev ME := DSt → (PyData → DSt → Prop) → Prop
abbrev MT := DSt → (Bool → DSt → Prop) → Prop
abbrev MA := DSt → (List PyData → DSt → Prop) → Prop
abbrev MR := DSt → (S → DSt → Prop) → Prop
abbrev MI := DSt → (List PyData → DSt → Prop) → Prop
abbrev MG := PyData → DSt → (DSt → Prop) → Prop
abbrev MGs := List PyData → DSt → (DSt → Prop) → Prop
/-- what is wished of a raise: the class's name, the state -/
abbrev WD := String → DSt → Prop
structure DE where
  nx : DSt → Prop
  rt : S → DSt → Prop
  bk : DSt → Prop := fun _ => False
  ct : DSt → Prop := fun _ => False
abbrev MS := DE → DSt → Prop
/-- a def's promise: no well | with the well as its first argument -/
abbrev PSpec := List PyData → (S → Prop) → (String → Prop) → Prop
abbrev WSpec := Nat → List PyData → (S → Nat → Prop) → Prop
def fz : S → Option PyData
  | .va d => some d
  | .own ds => some (.list ds)
  | _ => none
def mC (d : PyData) : ME := fun sd Q => Q d sd
def mVar (i : Nat) : ME := fun sd Q => match sget sd i with
  | .va d => Q d sd
  | .own ds => Q (.list ds) (sset sd i (.va (.list ds)))
  | _ => False
def mOp2 (f : PyData → PyData → Option PyData) (ma mb : ME) : ME := fun sd Q => ma sd fun a s1 => mb s1 fun b s2 => ∃ r, f a b = some r ∧ Q r s2
def mOp1 (f : PyData → Option PyData) (ma : ME) : ME := fun sd Q => ma sd fun a s1 => ∃ r, f a = some r ∧ Q r s1
def mAnd (ma mb : ME) : ME := fun sd Q => ma sd fun a s1 => ∃ c, a = .bool c ∧ if c = true then mb s1 Q else Q (.bool false) s1
def mOr (ma mb : ME) : ME := fun sd Q => ma sd fun a s1 => ∃ c, a = .bool c ∧ if c = true then Q (.bool true) s1 else mb s1 Q
def mNot (ma : ME) : ME := fun sd Q => ma sd fun a s1 => ∃ c, a = .bool c ∧ Q (.bool (!c)) s1
def mIfE (mt : MT) (ma mb : ME) : ME := fun sd Q => mt sd fun c s1 => if c = true then ma s1 Q else mb s1 Q
/-- a < b < c: f a b, then g b c -/
def mChain (f g : PyData → PyData → Option PyData) (ma mb mc : ME) : ME := fun sd Q => ma sd fun a s1 => mb s1 fun b s2 => ∃ c, f a b = some (.bool c) ∧ if c = true then mc s2 fun d s3 => ∃ r, g b d = some r ∧ Q r s3 else Q (.bool false) s2
def mNil : MA := fun sd Q => Q [] sd
def mCons (me : ME) (ma : MA) : MA := fun sd Q => me sd fun d s1 => ma s1 fun ds s2 => Q (d :: ds) s2
def mTup (ma : MA) : ME := fun sd Q => ma sd fun ds s1 => ds.length ≤ 100000 ∧ Q (.tuple ds) s1
def mLst (ma : MA) : ME := fun sd Q => ma sd fun ds s1 => ds.length ≤ 100000 ∧ Q (.list ds) s1
def mCallB (f : List PyData → Option PyData) (ma : MA) : ME := fun sd Q => ma sd fun ds s1 => ∃ r, f ds = some r ∧ Q r s1
def mDict0 : ME := fun sd Q => Q (.dict []) sd
/-- a slice: parts given or left out -/
def mPart (me : ME) : DSt → (Option Int → DSt → Prop) → Prop := fun sd Q => me sd fun d s1 => ∃ i, d = .int i ∧ Q (some i) s1
def mNoPart : DSt → (Option Int → DSt → Prop) → Prop := fun sd Q => Q none sd
def mSl (f : PyData → Option Int → Option Int → Option PyData) (me : ME) (ml mh : DSt → (Option Int → DSt → Prop) → Prop) : ME :=
  fun sd Q => me sd fun d s1 => ml s1 fun l s2 => mh s2 fun h s3 => ∃ r, f d l h = some r ∧ Q r s3
/-- a call of an own def -/
def mCall (spec : PSpec) (W : WD) (ma : MA) : ME := fun sd Q => ma sd fun ds s1 => spec ds (fun r => ∃ d, fz r = some d ∧ Q d s1) (fun c => W c s1)
/-- .. by keywords: the arguments as they are given, then put into the def's order -/
def mCallK (spec : PSpec) (W : WD) (g : List PyData → List PyData → List PyData) (ma mk : MA) : ME :=
  fun sd Q => ma sd fun ds s1 => mk s1 fun es s2 => spec (g ds es) (fun r => ∃ d, fz r = some d ∧ Q d s2) (fun c => W c s2)
/-- .. with the well in slot i as its first argument -/
def mCallW (spec : WSpec) (i : Nat) (ma : MA) : ME := fun sd Q => (∃ n, sget sd i = .well n) ∧ ma sd fun ds s1 => ∃ n, sget s1 i = .well n ∧ spec n ds fun r n' => ∃ d, fz r = some d ∧ Q d (sset s1 i (.well n'))
/-- len of a list that is still owned -/
def mLenOwn (i : Nat) : ME := fun sd Q => ∃ ds, sget sd i = .own ds ∧ Q (.int (ds.length : Int)) sd
/-- len of the script; an item of it; the well that is made from it -/
def mLenScr (i : Nat) : ME := fun sd Q => ∃ ns, sget sd i = .scr ns ∧ Q (.int (ns.length : Int)) sd
def mT (me : ME) : MT := fun sd Q => me sd fun d s1 => ∃ c, d = .bool c ∧ Q c s1
def mTAnd (t u : MT) : MT := fun sd Q => t sd fun c s1 => if c = true then u s1 Q else Q false s1
def mTOr (t u : MT) : MT := fun sd Q => t sd fun c s1 => if c = true then Q true s1 else u s1 Q
def mTNot (t : MT) : MT := fun sd Q => t sd fun c s1 => Q (!c) s1
def mTYes : MT := fun sd Q => Q true sd
def mrOf (me : ME) : MR := fun sd Q => me sd fun d s1 => Q (.va d) s1
def mrLst (ma : MA) : MR := fun sd Q => ma sd fun ds s1 => ds.length ≤ 100000 ∧ Q (.own ds) s1
def mrCall (spec : PSpec) (W : WD) (ma : MA) : MR := fun sd Q => ma sd fun ds s1 => spec ds (fun r => Q r s1) (fun c => W c s1)
def mgName (i : Nat) : MG := fun d sd Q => Q (sset sd i (.va d))
def mgNil : MGs := fun ds sd Q => ds = [] ∧ Q sd
def mgCons (g : MG) (gs : MGs) : MGs := fun ds sd Q => ∃ d r, ds = d :: r ∧ g d sd fun s1 => gs r s1 Q
def items : PyData → Option (List PyData)
  | .tuple ds => some ds
  | .list ds => some ds
  | _ => none
def mgTup (n : Nat) (gs : MGs) : MG := fun d sd Q => ∃ ds, items d = some ds ∧ ds.length = n ∧ gs ds sd Q
def miSeq (me : ME) : MI := fun sd Q => me sd fun d s1 => ∃ ds, items d = some ds ∧ Q ds s1
def rangeL (lo : Int) (n : Nat) : List PyData := (List.range n).map fun i : Nat => .int (lo + (i : Int))
def miRng1 (ma : MA) : MI := fun sd Q => ma sd fun ds s1 => ∃ j : Int, ds = [.int j] ∧ -(2 ^ 62) ≤ j ∧ j < 2 ^ 62 ∧ Q (rangeL 0 j.toNat) s1
def miRng2 (ma : MA) : MI := fun sd Q => ma sd fun ds s1 => ∃ i j : Int, ds = [.int i, .int j] ∧ (-(2 ^ 62) ≤ i ∧ i < 2 ^ 62 ∧ -(2 ^ 62) ≤ j ∧ j < 2 ^ 62) ∧ Q (rangeL i (j - i).toNat) s1
def signsD (z : Str) : List PyData := z.cps.toList.map fun c => .str ⟨#[c]⟩
def miStr (me : ME) : MI := fun sd Q => me sd fun d s1 => ∃ z, d = .str z ∧ Q (signsD z) s1
def enumL : Nat → List PyData → List PyData
  | _, [] => []
  | k, d :: ds => .tuple [.int (k : Int), d] :: enumL (k + 1) ds
def miEnum (ma : MA) : MI := fun sd Q => ma sd fun ds s1 => ∃ xs, ds = [.list xs] ∧ Q (enumL 0 xs) s1
def zipL : List PyData → List PyData → List PyData
  | x :: xs, y :: ys => .tuple [x, y] :: zipL xs ys
  | _, _ => []
def miZip (ma : MA) : MI := fun sd Q => ma sd fun ds s1 => ∃ xs ys, (ds = [.list xs, .list ys] ∨ ds = [.tuple xs, .tuple ys]) ∧ Q (zipL xs ys) s1
def miRev (me : ME) : MI := fun sd Q => me sd fun d s1 => ∃ ds, items d = some ds ∧ Q ds.reverse s1
def lcL (mg : MG) (mt : MT) (me : ME) (vs : List Nat) (Q : List PyData → DSt → Prop) : List PyData → DSt → List PyData → Prop
  | [], s, acc => Q acc s
  | d :: ds, s, acc => mg d (swipe s vs) fun s1 => mt s1 fun b s2 => if b = true then me s2 fun y s3 => acc.length < 100000 ∧ lcL mg mt me vs Q ds s3 (acc ++ [y]) else lcL mg mt me vs Q ds s2 acc
def unOwn (s : DSt) (vs : List Nat) : Bool := vs.all fun j => match sget s j with
  | .own _ => false
  | .well _ => false
  | .ins _ _ => false
  | _ => true
def mLc (mi : MI) (mg : MG) (mt : MT) (me : ME) (vs : List Nat) : ME := fun sd Q => mi sd fun ds s => unOwn s vs = true ∧ lcL mg mt me vs (fun out s' => Q (.list out) (sback s s' vs)) ds s []
def mrLc (mi : MI) (mg : MG) (mt : MT) (me : ME) (vs : List Nat) : MR := fun sd Q => mi sd fun ds s => unOwn s vs = true ∧ lcL mg mt me vs (fun out s' => Q (.own out) (sback s s' vs)) ds s []
def mNext : MS := fun D sd => D.nx sd
def mBreak : MS := fun D sd => D.bk sd
def mCont : MS := fun D sd => D.ct sd
def mSeq (a b : MS) : MS := fun D sd => a { D with nx := b D } sd
def mAsg (me : ME) (mg : MG) : MS := fun D sd => me sd fun d s1 => mg d s1 D.nx
def mAsgR (i : Nat) (mr : MR) : MS := fun D sd => mr sd fun r s1 => D.nx (sset s1 i r)
/-- a, b = x, y: the values in their order, then the slots -/
def mrs : List MR → DSt → (List S → DSt → Prop) → Prop
  | [], sd, Q => Q [] sd
  | m :: ms, sd, Q => m sd fun r s1 => mrs ms s1 fun rs s2 => Q (r :: rs) s2
def ssets : DSt → List Nat → List S → DSt
  | sd, i :: is, r :: rs => ssets (sset sd i r) is rs
  | sd, _, _ => sd
def mAsgM (is : List Nat) (ms : List MR) : MS := fun D sd => mrs ms sd fun rs s1 => rs.length = is.length ∧ D.nx (ssets s1 is rs)
def mIf (t : MT) (a b : MS) : MS := fun D sd => t sd fun c s1 => if c = true then a D s1 else b D s1
def mRet (mr : MR) : MS := fun D sd => mr sd D.rt
def mRetOwn (i : Nat) : MR := fun sd Q => match sget sd i with
  | .own ds => Q (.own ds) sd
  | .well n => Q (.well n) sd
  | _ => False
def mRetN : MS := fun D sd => D.rt (.va .none) sd
def mDrop (me : ME) : MS := fun D sd => me sd fun _ s1 => D.nx s1
def mApp (i : Nat) (me : ME) : MS := fun D sd => (∃ ds, sget sd i = .own ds) ∧ me sd fun d s1 => ∃ ds, sget s1 i = .own ds ∧ ds.length < 100000 ∧ D.nx (sset s1 i (.own (ds ++ [d])))
def forL (mg : MG) (body : MS) (D : DE) : List PyData → DSt → Prop
  | [], s => D.nx s
  | d :: ds, s => mg d s fun s1 => body { D with nx := forL mg body D ds, ct := forL mg body D ds, bk := D.nx } s1
def mFor (mi : MI) (mg : MG) (body : MS) : MS := fun D sd => mi sd fun ds s => forL mg body D ds s
def whileN (t : MT) (body : MS) (D : DE) : Nat → DSt → Prop
  | 0, _ => False
  | n + 1, s => t s fun b s1 => if b = true then body { D with nx := whileN t body D n, ct := whileN t body D n, bk := D.nx } s1 else D.nx s1
def mWhile (t : MT) (body : MS) : MS := fun D sd => ∃ n, whileN t body D n sd
def mRaise (c : String) (W : WD) : MS := fun _ sd => W c sd
def small (a b : Int) : Bool := decide (a.natAbs.log2 + b.natAbs.log2 < 1000000)
def opAdd : PyData → PyData → Option PyData
  | .int a, .int b => some (.int (a + b))
  | .str a, .str b => if a.length + b.length ≤ 100000 then some (.str (a ++ b)) else none
  | .list a, .list b => if a.length + b.length ≤ 100000 then some (.list (a ++ b)) else none
  | .tuple a, .tuple b => if a.length + b.length ≤ 100000 then some (.tuple (a ++ b)) else none
  | _, _ => none
def opSub : PyData → PyData → Option PyData
  | .int a, .int b => some (.int (a - b))
  | _, _ => none
def opMul : PyData → PyData → Option PyData
  | .int a, .int b => if small a b = true then some (.int (a * b)) else none
  | .list a, .int k => if 0 ≤ k ∧ k ≤ 1000 ∧ a.length ≤ 1000 then some (.list (List.replicate k.toNat a).flatten) else none
  | _, _ => none
def opMod : PyData → PyData → Option PyData
  | .int a, .int b => if 0 < b then some (.int (a % b)) else none
  | _, _ => none
def opFdiv : PyData → PyData → Option PyData
  | .int a, .int b => if 0 < b ∧ b.natAbs.log2 < 9000 then some (.int (a / b)) else none
  | _, _ => none
def cmpI (p : Int → Int → Bool) : PyData → PyData → Option PyData
  | .int a, .int b => some (.bool (p a b))
  | _, _ => none
def opLt := cmpI fun a b => decide (a < b)
def opLe := cmpI fun a b => decide (a ≤ b)
def opGt := cmpI fun a b => decide (b < a)
def opGe := cmpI fun a b => decide (b ≤ a)
def strs? : PyData → PyData → Option (Str × Str)
  | .str x, .str y => some (x, y)
  | _, _ => none
def opEq (a b : PyData) : Option PyData := if (SeqAt.shaped a && SeqAt.shaped b) = true then some (.bool (PyData.eqv a b)) else (strs? a b).map fun p => .bool (decide (p.1 = p.2))
def opNe (a b : PyData) : Option PyData := if (SeqAt.shaped a && SeqAt.shaped b) = true then some (.bool (!PyData.eqv a b)) else (strs? a b).map fun p => .bool (!decide (p.1 = p.2))
def isN : PyData → Bool
  | .none => true
  | _ => false
/-- x is None, x is not None -/
def opIsN2 (a : PyData) : PyData → Option PyData
  | .none => some (.bool (isN a))
  | _ => none
def opNotN2 (a : PyData) : PyData → Option PyData
  | .none => some (.bool (!isN a))
  | _ => none
/-- x is True, where x is a bool -/
def opIsB : PyData → PyData → Option PyData
  | .bool a, .bool b => some (.bool (decide (a = b)))
  | _, _ => none
def opNotB : PyData → PyData → Option PyData
  | .bool a, .bool b => some (.bool (!decide (a = b)))
  | _, _ => none
def opPow : PyData → PyData → Option PyData
  | .int a, .int b => if 0 ≤ b ∧ b ≤ 100 ∧ a.natAbs < 2 ^ 10000 then some (.int (a ^ b.toNat)) else none
  | _, _ => none
def flatD : PyData → Bool
  | .none | .bool _ | .int _ | .str _ => true
  | _ => false
/-- x in a list or a tuple of flat things -/
def opInS (neg : Bool) (a b : PyData) : Option PyData := (items b).bind fun ds => if (flatD a && ds.all flatD) = true then some (.bool (if neg then !ds.any (fun d => PyData.eqv d a) else ds.any fun d => PyData.eqv d a)) else none
/-- .. or one sign in a text -/
def sign? (z : Str) : Option Nat := match z.cps.toList with
  | [c] => some c
  | _ => none
theorem sign_of {z : Str} {c : Nat} (h : sign? z = some c) : z = ⟨#[c]⟩ := by
  unfold sign? at h
  split at h
  · rename_i c' e
    cases h
    obtain ⟨⟨l⟩⟩ := z
    have e' : l = [c] := e
    rw [e']
  · cases h
def opIn : PyData → PyData → Option PyData
  | .str c, .str z => (sign? c).map fun c => .bool (decide (c ∈ z.cps.toList))
  | a, b => opInS false a b
def opNotIn : PyData → PyData → Option PyData
  | .str c, .str z => (sign? c).map fun c => .bool (!decide (c ∈ z.cps.toList))
  | a, b => opInS true a b
def opNeg : PyData → Option PyData
  | .int a => some (.int (-a))
  | _ => none
def ixN (n : Nat) (i : Int) : Option Nat := if 0 ≤ i then (if i < n then some i.toNat else none) else if -(n : Int) ≤ i then some (i + n).toNat else none
def atI {α : Type} (xs : List α) (i : Int) : Option α := (ixN xs.length i).bind fun j => xs[j]?
def opIx : PyData → PyData → Option PyData
  | .list xs, .int i => atI xs i
  | .tuple xs, .int i => atI xs i
  | .str z, .int i => if z.length ≤ 100000 then (atI z.cps.toList i).map fun c => .str ⟨#[c]⟩ else none
  | _, _ => none
def sIx (n d : Nat) : Option Int → Nat
  | .none => d
  | .some v => if v < 0 then (v + (n : Int)).toNat else min v.toNat n
def cutL {α : Type} (xs : List α) (lo hi : Option Int) : List α := (xs.drop (sIx xs.length 0 lo)).take (sIx xs.length xs.length hi - sIx xs.length 0 lo)
def opSl (d : PyData) (lo hi : Option Int) : Option PyData := match d with
  | .list xs => some (.list (cutL xs lo hi))
  | .tuple xs => some (.tuple (cutL xs lo hi))
  | .str z => if z.length ≤ 100000 then some (.str ⟨(cutL z.cps.toList lo hi).toArray⟩) else none
  | _ => none
/-- x[::-1] -/
def opRev : PyData → Option PyData
  | .list xs => some (.list xs.reverse)
  | .tuple xs => some (.tuple xs.reverse)
  | _ => none
def bLen : List PyData → Option PyData
  | [.list xs] => some (.int (xs.length : Int))
  | [.tuple xs] => some (.int (xs.length : Int))
  | [.str z] => if z.length ≤ 100000 then some (.int (z.length : Int)) else none
  | _ => none
def bAbs : List PyData → Option PyData
  | [.int i] => some (.int (if i < 0 then -i else i))
  | _ => none
def bMax : List PyData → Option PyData
  | [.int i, .int j] => some (.int (if j > i then j else i))
  | _ => none
def bMin : List PyData → Option PyData
  | [.int i, .int j] => some (.int (if j < i then j else i))
  | _ => none
def bInt : List PyData → Option PyData
  | [.int i] => some (.int i)
  | _ => none
def bGcd : List PyData → Option PyData
  | [.int i, .int j] => some (.int ((Nat.gcd i.natAbs j.natAbs : Nat) : Int))
  | _ => none
def bools : List PyData → Option (List Bool)
  | [] => some []
  | .bool b :: r => (bools r).map (b :: ·)
  | _ :: _ => none
def bAll : List PyData → Option PyData
  | [.list xs] => (bools xs).map fun bs => .bool (bs.all id)
  | _ => none
def bAny : List PyData → Option PyData
  | [.list xs] => (bools xs).map fun bs => .bool (bs.any id)
  | _ => none
def bList : List PyData → Option PyData
  | [.list xs] => some (.list xs)
  | [.tuple xs] => some (.list xs)
  | _ => none
/-- the kinds that isinstance asks for -/
inductive Ki where | kInt | kBool | kStr | kTup | kLst | kDict
  deriving DecidableEq
def isK : Ki → PyData → Bool
  | .kInt, .int _ => true
  | .kInt, .bool _ => true
  | .kBool, .bool _ => true
  | .kStr, .str _ => true
  | .kTup, .tuple _ => true
  | .kLst, .list _ => true
  | .kDict, .dict ((.none, _) :: _) => false
  | .kDict, .dict _ => true
  | _, _ => false
def bIsi (ks : List Ki) : PyData → Option PyData := fun d => some (.bool (ks.any fun k => isK k d))
def slots0 (n : Nat) (ds : List PyData) : DSt := ds.map S.va ++ List.replicate (n - ds.length) .no
def endP (Q : S → Prop) : DE := { nx := fun _ => Q (.va .none), rt := fun r _ => Q r }
def slotsW (N n : Nat) (ds : List PyData) : DSt := .well n :: slots0 (N - 1) ds
def endW (Q : S → Nat → Prop) : DE := { nx := fun sd => ∃ n, sget sd 0 = .well n ∧ Q (.va .none) n, rt := fun r sd => ∃ n, sget sd 0 = .well n ∧ Q r n }
def endL : DE := { nx := fun _ => False, rt := fun r _ => r = .va (.bool true) }
/-- the well that is made from the script in slot i -/
def mrWell (i : Nat) (me : ME) : MR := fun sd Q => me sd fun d s1 => ∃ ns k, sget s1 i = .scr ns ∧ d = .int k ∧ 0 ≤ k ∧ k < 2 ^ 20 ∧ Q (.well (2 ^ 60)) s1
def wF : WD := fun _ _ => False
end DL
namespace DL
open PySem PySem.Spec PyProof.Rows L2
def keyD : Key → PyData
  | .inl i => .int i
  | .inr x => .str x
def kName : Ki → String
  | .kInt => "int" | .kBool => "bool" | .kStr => "str" | .kTup => "tuple" | .kLst => "list" | .kDict => "dict"
/-- C is the class c of the program, with plain instances -/
structure ObjC (K : PySem.W.Frag) (c : Str) (C : Addr) : Prop where
  ns : PySem.W.nsIn K mainGlobals c = some (some (.ref C))
  cl : Cls K C
  ha : PySem.W.findIn K (.ref C) "__class__" = some (some (.builtin "object.__class__"))
  hn : PySem.W.specialIn K (.builtin "object.__class__") "__get__" = some (some (.builtin "getset_descriptor.__get__"))
  htk : PySem.W.takesIn K (.builtin "object.__class__") = some true
  hm : PySem.W.mroIn K C (.type "object") = some true
  kit : ∀ k : Ki, PySem.W.kitOne K (.ref C) (.type (kName k)) = some false
theorem ObjC.uniq {K : PySem.W.Frag} {c : Str} {C D : Addr} (a : ObjC K c C) (b : ObjC K c D) : C = D := by
  have := a.ns.symm.trans b.ns
  cases this
  rfl
mutual
inductive Rp (K : PySem.W.Frag) (F : Hp) : V → PyData → Prop
  | non : Rp K F .non .none
  | bl (b : Bool) : Rp K F (.bl b) (.bool b)
  | int (i : Int) : Rp K F (.int i) (.int i)
  | str (x : Str) : Rp K F (.str x) (.str x)
  | lst {a : Addr} {xs : List V} {ds : List PyData} : F a = some (.lst xs) → RpA K F xs ds → Rp K F (.ref a) (.list ds)
  | tup {a : Addr} {xs : List V} {ds : List PyData} : SqT K F a xs → RpA K F xs ds → Rp K F (.ref a) (.tuple ds)
  | dct {a : Addr} {kvs : List (Key × V)} {es : List (PyData × PyData)} : F a = some (.dK kvs) → RpD K F kvs es → Rp K F (.ref a) (.dict es)
  | ins {a C dx : Addr} {c : Str} {fs : List (Str × V)} {es : List PyData} : F a = some (.ins C dx fs) → ObjC K c C → RpF K F fs es → Rp K F (.ref a) (.dict [(.none, .tuple (.str c :: es))])
inductive RpF (K : PySem.W.Frag) (F : Hp) : List (Str × V) → List PyData → Prop
  | nil : RpF K F [] []
  | cons {n : Str} {v : V} {fs : List (Str × V)} {d : PyData} {es : List PyData} : Rp K F v d → RpF K F fs es → RpF K F ((n, v) :: fs) (.tuple [.str n, d] :: es)
inductive RpA (K : PySem.W.Frag) (F : Hp) : List V → List PyData → Prop
  | nil : RpA K F [] []
  | cons {v : V} {vs : List V} {d : PyData} {ds : List PyData} : Rp K F v d → RpA K F vs ds → RpA K F (v :: vs) (d :: ds)
inductive RpD (K : PySem.W.Frag) (F : Hp) : List (Key × V) → List (PyData × PyData) → Prop
  | nil : RpD K F [] []
  | cons {k : Key} {v : V} {kvs : List (Key × V)} {d : PyData} {es : List (PyData × PyData)} : Rp K F v d → RpD K F kvs es → RpD K F ((k, v) :: kvs) ((keyD k, d) :: es)
end
theorem same_rd {H H' : Hp} {a : Addr} {u : HO} (e : Same H H') (h : Rd H a u) : Rd H' a u := by
  rcases h with h | ⟨o, h⟩
  · exact .inl (e _ _ h)
  · exact .inr ⟨o, e _ _ h⟩
theorem same_t {K : PySem.W.Frag} {H H' : Hp} {a : Addr} {xs : List V} (e : Same H H') (h : SqT K H a xs) : SqT K H' a xs := by
  rcases h with (h | ⟨o, h⟩) | h
  · exact .inl (.inl (e _ _ h))
  · exact .inl (.inr ⟨o, e _ _ h⟩)
  · exact .inr h
section
variable {K : PySem.W.Frag} {F F' H H' H1 : Hp} {v : V} {vs : List V} {d : PyData} {ds : List PyData}
mutual
theorem Rp.mono (e : Same F F') : ∀ {d : PyData} {v : V}, Rp K F v d → Rp K F' v d
  | .none, _, .non => .non
  | .bool _, _, .bl b => .bl b
  | .int _, _, .int i => .int i
  | .str _, _, .str x => .str x
  | .list _, _, .lst h r => .lst (e _ _ h) (RpA.mono e r)
  | .tuple _, _, .tup h r => .tup (same_t e h) (RpA.mono e r)
  | .dict _, _, .dct h r => .dct (e _ _ h) (RpD.mono e r)
  | .dict _, _, .ins h o r => .ins (e _ _ h) o (RpF.mono e r)
theorem RpF.mono (e : Same F F') : ∀ {es : List PyData} {fs : List (Str × V)}, RpF K F fs es → RpF K F' fs es
  | _, _, .nil => .nil
  | _, _, .cons h r => .cons (Rp.mono e h) (RpF.mono e r)
theorem RpA.mono (e : Same F F') : ∀ {ds : List PyData} {vs : List V}, RpA K F vs ds → RpA K F' vs ds
  | [], _, .nil => .nil
  | _ :: _, _, .cons h r => .cons (Rp.mono e h) (RpA.mono e r)
theorem RpD.mono (e : Same F F') : ∀ {es : List (PyData × PyData)} {kvs : List (Key × V)}, RpD K F kvs es → RpD K F' kvs es
  | [], _, .nil => .nil
  | _ :: _, _, .cons h r => .cons (Rp.mono e h) (RpD.mono e r)
end
mutual
theorem Rp.dp (e : Same F H) : ∀ {d : PyData} {v : V}, d.canLay0 = true → Rp K F v d → Dp K H v d
  | .none, _, _, .non => .non
  | .bool _, _, _, .bl b => .bl b
  | .int _, _, _, .int i => .int i
  | .str _, _, _, .str x => .str x
  | .list _, _, c, .lst h r => .lst (.inl (.inl (e _ _ h))) (RpA.dp e (by simpa [PyData.canLay0] using c) r)
  | .tuple _, _, c, .tup h r => .tup (same_t e h) (RpA.dp e (by simpa [PyData.canLay0] using c) r)
theorem RpA.dp (e : Same F H) : ∀ {ds : List PyData} {vs : List V}, PyData.canLayAll0 ds = true → RpA K F vs ds → DpAll K H vs ds
  | [], _, _, .nil => .nil
  | _ :: _, _, c, .cons h r => .cons (Rp.dp e (by have := c; simp only [PyData.canLayAll0, Bool.and_eq_true] at this; exact this.1) h) (RpA.dp e (by have := c; simp only [PyData.canLayAll0, Bool.and_eq_true] at this; exact this.2) r)
end
theorem RpA.length : ∀ {vs : List V} {ds : List PyData}, RpA K F vs ds → vs.length = ds.length
  | _, _, .nil => rfl
  | _, _, .cons _ r => by simp [RpA.length r]
theorem RpA.get : ∀ {vs : List V} {ds : List PyData} {i : Nat} {d : PyData}, RpA K F vs ds → ds[i]? = some d → ∃ v, vs[i]? = some v ∧ Rp K F v d
  | _, _, _, _, .nil, h => by simp at h
  | _, _, 0, _, .cons h _, e => by simp at e; subst e; exact ⟨_, rfl, h⟩
  | _, _, i + 1, _, .cons _ r, e => by
    obtain ⟨v, h1, h2⟩ := RpA.get (i := i) r (by simpa using e)
    exact ⟨v, by simpa using h1, h2⟩
theorem RpA.append : ∀ {vs ws : List V} {ds es : List PyData}, RpA K F vs ds → RpA K F ws es → RpA K F (vs ++ ws) (ds ++ es)
  | _, _, _, _, .nil, s => s
  | _, _, _, _, .cons h r, s => .cons h (RpA.append r s)
theorem RpA.take : ∀ {vs : List V} {ds : List PyData} (n : Nat), RpA K F vs ds → RpA K F (vs.take n) (ds.take n)
  | _, _, 0, _ => .nil
  | _, _, _ + 1, .nil => .nil
  | _, _, n + 1, .cons h r => .cons h (RpA.take n r)
theorem RpA.drop : ∀ {vs : List V} {ds : List PyData} (n : Nat), RpA K F vs ds → RpA K F (vs.drop n) (ds.drop n)
  | _, _, 0, r => r
  | _, _, _ + 1, .nil => .nil
  | _, _, n + 1, .cons _ r => RpA.drop n r
theorem RpA.snoc (h : RpA K F vs ds) (q : Rp K F v d) : RpA K F (vs ++ [v]) (ds ++ [d]) := h.append (.cons q .nil)
theorem RpA.reverse : ∀ {vs : List V} {ds : List PyData}, RpA K F vs ds → RpA K F vs.reverse ds.reverse
  | _, _, .nil => .nil
  | _, _, .cons h r => by simp only [List.reverse_cons]; exact (RpA.reverse r).snoc h
end
def gv (σ : L2.St) (i : Nat) : Option V := (σ[i]?).join
theorem gv_some {σ : L2.St} {i : Nat} {v : V} : gv σ i = some v ↔ σ[i]? = some (some v) := by
  unfold gv
  cases h : σ[i]? with
  | none => simp
  | some x => simp
theorem gv_set {σ : L2.St} {i : Nat} {x : Option V} (h : i < σ.length) : gv (σ.set i x) i = x := by
  unfold gv; rw [List.getElem?_set_self h]; rfl
theorem gv_set_ne {σ : L2.St} {i j : Nat} {x : Option V} (h : j ≠ i) : gv (σ.set i x) j = gv σ j := by
  unfold gv; rw [List.getElem?_set_ne (Ne.symm h)]
theorem sset_length : ∀ {sd : DSt} {i : Nat} {s : S}, (sset sd i s).length = sd.length
  | [], _, _ => rfl
  | _ :: _, 0, _ => rfl
  | _ :: r, i + 1, s => by simp [sset, sset_length]
theorem sget_sset : ∀ {sd : DSt} {i : Nat} {s : S}, i < sd.length → sget (sset sd i s) i = s
  | [], _, _, h => by simp at h
  | _ :: _, 0, _, _ => rfl
  | _ :: r, i + 1, s, h => by simp only [sset, sget]; exact sget_sset (by simpa using h)
theorem sget_sset_ne : ∀ {sd : DSt} {i j : Nat} {s : S}, j ≠ i → sget (sset sd i s) j = sget sd j
  | [], _, _, _, _ => rfl
  | _ :: _, 0, 0, _, h => absurd rfl h
  | _ :: _, 0, j + 1, _, _ => rfl
  | _ :: _, i + 1, 0, _, _ => rfl
  | _ :: r, i + 1, j + 1, s, h => by simp only [sset, sget]; exact sget_sset_ne (by omega)
theorem sget_out : ∀ {sd : DSt} {i : Nat}, sd.length ≤ i → sget sd i = .no
  | [], _, _ => rfl
  | _ :: _, 0, h => by simp at h
  | _ :: r, i + 1, h => by simp only [sget]; exact sget_out (by simpa using h)
/-- a def's entry: the frozen heap, the heap, the addresses that were handed over to be changed -/
structure Ct where
  F0 : Hp
  H0 : Hp
  B : Addr → Prop
  isW : Bool
def SlotOk (K : PySem.W.Frag) (C : Ct) (F H : Hp) (x : Option V) : S → Prop
  | .no => True
  | .va d => ∃ v, x = some v ∧ Rp K F v d
  | .own ds => ∃ p vs, x = some (.ref p) ∧ H p = some (.lst vs) ∧ F p = none ∧ C.H0 p = none ∧ RpA K F vs ds
  | .scr ns => ∃ p, x = some (.ref p) ∧ SqL K F p (ns.map V.int)
  | .exc a => x = some (.ref a)
  | .ins c es => ∃ p Cc dx fs, x = some (.ref p) ∧ H p = some (.ins Cc dx fs) ∧ F p = none ∧ ((C.isW = true ∧ C.B p) ∨ (C.isW = false ∧ C.H0 p = none)) ∧ ObjC K c Cc ∧ RpF K F fs es
  | .well n => ∃ p a b c, x = some (.ref p) ∧ H p = some (.lst [.int a, .int b, .int c]) ∧ F p = none ∧ ((C.isW = true ∧ C.B p) ∨ (C.isW = false ∧ C.H0 p = none)) ∧ WellOk n a b c
def isOwn : S → Bool
  | .own _ => true
  | .well _ => true
  | .ins _ _ => true
  | _ => false
def Owned (σ : L2.St) (sd : DSt) (a : Addr) : Prop := ∃ i, isOwn (sget sd i) = true ∧ gv σ i = some (.ref a)
structure Rs (K : PySem.W.Frag) (C : Ct) (F H : Hp) (σ : L2.St) (sd : DSt) : Prop where
  len : σ.length = sd.length
  grow : Same C.F0 F
  ext : Same F H
  new : ∀ a o, F a = some o → C.F0 a = some o ∨ C.H0 a = none
  keep : ∀ a o, C.H0 a = some o → ¬ C.B a → H a = some o
  still : ∀ a, H a = none → C.H0 a = none
  slot : ∀ i, SlotOk K C F H (gv σ i) (sget sd i)
  sep : ∀ i j p, i ≠ j → isOwn (sget sd i) = true → isOwn (sget sd j) = true → gv σ i = some (.ref p) → gv σ j ≠ some (.ref p)
/-- what an expression does to the state -/
structure Stp (σ : L2.St) (sd : DSt) (F H F' H' : Hp) (sd' : DSt) : Prop where
  fr : Same F F'
  kp : ∀ a o, H a = some o → ¬ Owned σ sd a → H' a = some o
  ow : ∀ a, Owned σ sd' a → Owned σ sd a
  nw : ∀ a o, F' a = some o → F a = some o ∨ H a = none ∨ Owned σ sd a
  st : ∀ a, H' a = none → H a = none
section
variable {K : PySem.W.Frag} {C : Ct} {F F1 F2 F' H H1 H2 H' : Hp} {σ : L2.St} {sd sd1 sd2 sd' : DSt} {p : Addr} {o : HO}
theorem Stp.refl : Stp σ sd F H F H sd := ⟨Same.refl _, fun _ _ h _ => h, fun _ h => h, fun _ _ h => .inl h, fun _ h => h⟩
theorem Stp.trans (a : Stp σ sd F H F1 H1 sd1) (b : Stp σ sd1 F1 H1 F2 H2 sd2) : Stp σ sd F H F2 H2 sd2 where
  fr := a.fr.trans b.fr
  kp := fun x o h n => b.kp x o (a.kp x o h n) fun z => n (a.ow x z)
  ow := fun x h => a.ow x (b.ow x h)
  nw := fun x o h => by
    rcases b.nw x o h with h | h | h
    · exact a.nw x o h
    · exact .inr (.inl (a.st x h))
    · exact .inr (.inr (a.ow x h))
  st := fun x h => a.st x (b.st x h)
/-- nothing, or one new object, known to all -/
inductive Al (F H : Hp) : Hp → Hp → Prop
  | id : Al F H F H
  | new {p : Addr} {o : HO} (h : H p = none) : Al F H (upd F p o) (upd H p o)
theorem same_new (h : H p = none) : Same H (upd H p o) := fun b x e => by
  rw [upd_ne (ne_of_none e h)]; exact e
theorem SlotOk.grow {x : Option V} {s : S} (e : Same F F') (k : ∀ q o, isOwn s = true → x = some (.ref q) → H q = some o → F q = none → H' q = some o ∧ F' q = none) (h : SlotOk K C F H x s) : SlotOk K C F' H' x s := by
  cases s with
  | no => trivial
  | va d => obtain ⟨v, e1, r⟩ := h; exact ⟨v, e1, r.mono e⟩
  | own ds =>
    obtain ⟨q, vs, e1, e2, e3, e4, r⟩ := h
    obtain ⟨k1, k2⟩ := k q _ rfl e1 e2 e3
    exact ⟨q, vs, e1, k1, k2, e4, r.mono e⟩
  | scr ns => obtain ⟨q, e1, e2⟩ := h; exact ⟨q, e1, e.seq e2⟩
  | exc a => exact h
  | ins c es =>
    obtain ⟨q, Cc, dx, fs, e1, e2, e3, e4, oc, r⟩ := h
    obtain ⟨k1, k2⟩ := k q _ rfl e1 e2 e3
    exact ⟨q, Cc, dx, fs, e1, k1, k2, e4, oc, r.mono e⟩
  | well n =>
    obtain ⟨q, a, b, c, e1, e2, e3, e4, r⟩ := h
    obtain ⟨k1, k2⟩ := k q _ rfl e1 e2 e3
    exact ⟨q, a, b, c, e1, k1, k2, e4, r⟩
theorem Rs.free (R : Rs K C F H σ sd) (h : H p = none) : F p = none := by
  cases e : F p with
  | none => rfl
  | some x => rw [R.ext _ _ e] at h; cases h
theorem Rs.alloc (R : Rs K C F H σ sd) (h : H p = none) : Rs K C (upd F p o) (upd H p o) σ sd where
  len := R.len
  grow := R.grow.trans (same_new (R.free h))
  ext := fun a x e => by
    by_cases z : a = p
    · subst z; rw [upd_same] at e ⊢; exact e
    · rw [upd_ne z] at e ⊢; exact R.ext a x e
  new := fun a x e => by
    by_cases z : a = p
    · subst z; exact .inr (R.still a h)
    · rw [upd_ne z] at e; exact R.new a x e
  keep := fun a x e n => same_new h a x (R.keep a x e n)
  still := fun a e => by
    by_cases z : a = p
    · subst z; exact R.still a h
    · rw [upd_ne z] at e; exact R.still a e
  slot := fun i => (R.slot i).grow (same_new (R.free h)) fun q x _ _ e n => ⟨same_new h q x e, by rw [upd_ne (ne_of_none e h)]; exact n⟩
  sep := R.sep
/-- a new object that nobody will look at -/
theorem Rs.allocH (R : Rs K C F H σ sd) (h : H p = none) : Rs K C F (upd H p o) σ sd where
  len := R.len
  grow := R.grow
  ext := fun a x e => same_new h a x (R.ext a x e)
  new := R.new
  keep := fun a x e n => same_new h a x (R.keep a x e n)
  still := fun a e => by
    by_cases z : a = p
    · subst z; exact R.still a h
    · rw [upd_ne z] at e; exact R.still a e
  slot := fun i => (R.slot i).grow (Same.refl _) fun q x _ _ e n => ⟨same_new h q x e, n⟩
  sep := R.sep
theorem Rs.al (R : Rs K C F H σ sd) (a : Al F H F' H') : Rs K C F' H' σ sd := by
  cases a with
  | id => exact R
  | new h => exact R.alloc h
theorem Stp.al (R : Rs K C F H σ sd) (a : Al F H F' H') : Stp σ sd F H F' H' sd := by
  cases a with
  | id => exact .refl
  | @new p o h =>
    refine ⟨same_new (R.free h), fun x o e _ => same_new h x o e, fun _ h => h, fun x o e => ?_, fun x e => ?_⟩
    · by_cases z : x = p
      · subst z; exact .inr (.inl h)
      · rw [upd_ne z] at e; exact .inl e
    · by_cases z : x = p
      · subst z; exact h
      · rw [upd_ne z] at e; exact e
theorem Rs.lt_of_own (R : Rs K C F H σ sd) {i : Nat} (h : sget sd i ≠ .no) : i < sd.length := by
  apply Classical.byContradiction
  intro z
  exact h (sget_out (by omega))
/-- a slot gets frozen data -/
theorem Rs.setva (R : Rs K C F H σ sd) {i : Nat} {v : V} {d : PyData} (r : Rp K F v d) : Rs K C F H (σ.set i (some v)) (sset sd i (.va d)) where
  len := by rw [List.length_set, sset_length]; exact R.len
  grow := R.grow
  ext := R.ext
  new := R.new
  keep := R.keep
  still := R.still
  slot := fun j => by
    by_cases hj : j = i
    · subst hj
      by_cases hl : j < sd.length
      · rw [sget_sset hl, gv_set (by rw [R.len]; exact hl)]
        exact ⟨v, rfl, r⟩
      · rw [sget_out (by rw [sset_length]; omega)]; trivial
    · rw [sget_sset_ne hj, gv_set_ne hj]; exact R.slot j
  sep := fun j k q hjk o1 o2 e1 => by
    have n1 : j ≠ i := fun z => by
      subst z
      by_cases hl : j < sd.length
      · rw [sget_sset hl] at o1; cases o1
      · rw [sget_out (by rw [sset_length]; omega)] at o1; cases o1
    have n2 : k ≠ i := fun z => by
      subst z
      by_cases hl : k < sd.length
      · rw [sget_sset hl] at o2; cases o2
      · rw [sget_out (by rw [sset_length]; omega)] at o2; cases o2
    rw [sget_sset_ne n1] at o1
    rw [sget_sset_ne n2] at o2
    rw [gv_set_ne n1] at e1
    rw [gv_set_ne n2]
    exact R.sep j k q hjk o1 o2 e1
/-- a slot is forgotten -/
theorem Rs.setno (R : Rs K C F H σ sd) {i : Nat} {x : Option V} : Rs K C F H (σ.set i x) (sset sd i .no) where
  len := by rw [List.length_set, sset_length]; exact R.len
  grow := R.grow
  ext := R.ext
  new := R.new
  keep := R.keep
  still := R.still
  slot := fun j => by
    by_cases hj : j = i
    · subst hj
      by_cases hl : j < sd.length
      · rw [sget_sset hl]; trivial
      · rw [sget_out (by rw [sset_length]; omega)]; trivial
    · rw [sget_sset_ne hj, gv_set_ne hj]; exact R.slot j
  sep := fun j k q hjk o1 o2 e1 => by
    have n1 : j ≠ i := fun z => by
      subst z
      by_cases hl : j < sd.length
      · rw [sget_sset hl] at o1; cases o1
      · rw [sget_out (by rw [sset_length]; omega)] at o1; cases o1
    have n2 : k ≠ i := fun z => by
      subst z
      by_cases hl : k < sd.length
      · rw [sget_sset hl] at o2; cases o2
      · rw [sget_out (by rw [sset_length]; omega)] at o2; cases o2
    rw [sget_sset_ne n1] at o1
    rw [sget_sset_ne n2] at o2
    rw [gv_set_ne n1] at e1
    rw [gv_set_ne n2]
    exact R.sep j k q hjk o1 o2 e1
/-- a result: frozen, or a list (a well) that nobody else holds -/
def RvOk (K : PySem.W.Frag) (C : Ct) (F H : Hp) (v : V) : S → Prop := SlotOk K C F H (some v)
/-- .. and not one of the slots' -/
def Fre (σ : L2.St) (sd : DSt) (v : V) (r : S) : Prop := isOwn r = true → ∀ q, v = .ref q → ¬ Owned σ sd q
theorem Rs.setr (R : Rs K C F H σ sd) {i : Nat} {v : V} {r : S} (h : RvOk K C F H v r) (n : Fre σ sd v r) : Rs K C F H (σ.set i (some v)) (sset sd i r) where
  len := by rw [List.length_set, sset_length]; exact R.len
  grow := R.grow
  ext := R.ext
  new := R.new
  keep := R.keep
  still := R.still
  slot := fun j => by
    by_cases hj : j = i
    · subst hj
      by_cases hl : j < sd.length
      · rw [sget_sset hl, gv_set (by rw [R.len]; exact hl)]
        exact h
      · rw [sget_out (by rw [sset_length]; omega)]; trivial
    · rw [sget_sset_ne hj, gv_set_ne hj]; exact R.slot j
  sep := fun j k q hjk o1 o2 e1 e2 => by
    have at_i : ∀ m, m = i → isOwn (sget (sset sd i r) m) = true → gv (σ.set i (some v)) m = some (.ref q) → isOwn r = true ∧ v = .ref q := fun m z o e => by
      subst z
      by_cases hl : m < sd.length
      · rw [sget_sset hl] at o
        rw [gv_set (by rw [R.len]; exact hl)] at e
        exact ⟨o, Option.some.inj e⟩
      · rw [sget_out (by rw [sset_length]; omega)] at o; cases o
    by_cases hj : j = i
    · obtain ⟨a1, a2⟩ := at_i j hj o1 e1
      have hk : k ≠ i := fun z => hjk (hj.trans z.symm)
      rw [sget_sset_ne hk] at o2
      rw [gv_set_ne hk] at e2
      exact n a1 q a2 ⟨k, o2, e2⟩
    · rw [sget_sset_ne hj] at o1
      rw [gv_set_ne hj] at e1
      by_cases hk : k = i
      · obtain ⟨a1, a2⟩ := at_i k hk o2 e2
        exact n a1 q a2 ⟨j, o1, e1⟩
      · rw [sget_sset_ne hk] at o2
        rw [gv_set_ne hk] at e2
        exact R.sep j k q hjk o1 o2 e1 e2
/-- an owned list is handed to all -/
theorem Rs.freeze (R : Rs K C F H σ sd) {i : Nat} {ds : List PyData} (h : sget sd i = .own ds) :
    ∃ v F', gv σ i = some v ∧ Rs K C F' H σ (sset sd i (.va (.list ds))) ∧ Stp σ sd F H F' H (sset sd i (.va (.list ds))) ∧ Rp K F' v (.list ds) := by
  have hi := R.slot i
  rw [h] at hi
  obtain ⟨p, vs, e1, e2, e3, e4, r⟩ := hi
  have hl : i < sd.length := R.lt_of_own (by rw [h]; intro z; cases z)
  have sF : Same F (upd F p (.lst vs)) := same_new e3
  have rp : Rp K (upd F p (.lst vs)) (.ref p) (.list ds) := .lst upd_same (r.mono sF)
  have own_i : Owned σ sd p := ⟨i, by rw [h]; rfl, e1⟩
  refine ⟨.ref p, upd F p (.lst vs), e1, ?_, ?_, rp⟩
  · refine ⟨by rw [sset_length]; exact R.len, R.grow.trans sF, fun a x e => ?_, fun a x e => ?_, R.keep, R.still, fun j => ?_, fun j k q hjk o1 o2 z1 => ?_⟩
    · by_cases z : a = p
      · subst z; rw [upd_same] at e; cases e; exact e2
      · rw [upd_ne z] at e; exact R.ext a x e
    · by_cases z : a = p
      · subst z; exact .inr e4
      · rw [upd_ne z] at e; exact R.new a x e
    · by_cases hj : j = i
      · subst hj; rw [sget_sset hl, e1]; exact ⟨_, rfl, rp⟩
      · rw [sget_sset_ne hj]
        refine (R.slot j).grow sF fun q x ho eq eh en => ⟨eh, ?_⟩
        have : q ≠ p := fun z => by
          subst z
          exact R.sep i j q (Ne.symm hj) (by rw [h]; rfl) ho e1 eq
        rw [upd_ne this]; exact en
    · have n1 : j ≠ i := fun z => by subst z; rw [sget_sset hl] at o1; cases o1
      have n2 : k ≠ i := fun z => by subst z; rw [sget_sset hl] at o2; cases o2
      rw [sget_sset_ne n1] at o1
      rw [sget_sset_ne n2] at o2
      exact R.sep j k q hjk o1 o2 z1
  · refine ⟨sF, fun a x e _ => e, fun a z => ?_, fun a x e => ?_, fun a e => e⟩
    · obtain ⟨j, o, e⟩ := z
      have n1 : j ≠ i := fun z => by subst z; rw [sget_sset hl] at o; cases o
      rw [sget_sset_ne n1] at o
      exact ⟨j, o, e⟩
    · by_cases z : a = p
      · subst z; exact .inr (.inr own_i)
      · rw [upd_ne z] at e; exact .inl e
end
section
variable (K : PySem.W.Frag) (C : Ct)
def tD (m : ME) : TE := fun σ H Q => ∃ F sd Qd, Rs K C F H σ sd ∧ m sd Qd ∧ ∀ v H' F' d sd', Rs K C F' H' σ sd' → Stp σ sd F H F' H' sd' → Rp K F' v d → Qd d sd' → Q v H'
def tDR (m : MR) : TE := fun σ H Q => ∃ F sd Qd, Rs K C F H σ sd ∧ m sd Qd ∧ ∀ v H' F' r sd', Rs K C F' H' σ sd' → Stp σ sd F H F' H' sd' → RvOk K C F' H' v r → Fre σ sd' v r → (isOwn r = true → ∀ q, v = .ref q → H q = none) → Qd r sd' → Q v H'
def tDT (m : MT) : TT := fun σ H Q => ∃ F sd Qd, Rs K C F H σ sd ∧ m sd Qd ∧ ∀ b H' F' sd', Rs K C F' H' σ sd' → Stp σ sd F H F' H' sd' → Qd b sd' → Q b H'
def tDA (m : MA) : TA := fun σ H Q => ∃ F sd Qd, Rs K C F H σ sd ∧ m sd Qd ∧ ∀ vs H' F' ds sd', Rs K C F' H' σ sd' → Stp σ sd F H F' H' sd' → RpA K F' vs ds → Qd ds sd' → Q vs H'
def tDG (m : MG) : TG := fun v σ H Q => ∃ F sd d Qd, Rs K C F H σ sd ∧ Rp K F v d ∧ m d sd Qd ∧ ∀ σ' sd', Rs K C F H σ' sd' → Qd sd' → Q σ' H
def tDGs (m : MGs) : TGs := fun vs σ H Q => ∃ F sd ds Qd, Rs K C F H σ sd ∧ RpA K F vs ds ∧ m ds sd Qd ∧ ∀ σ' sd', Rs K C F H σ' sd' → Qd sd' → Q σ' H
/-- what is wished of a raise -/
def wD (CN : String → Option Addr) (W : WD) : WX := fun cls d σ H => ∃ c a F sd, CN c = some a ∧ cls = .ref a ∧ d = none ∧ Rs K C F H σ sd ∧ W c sd
/-- what follows, from the frozen heap F0 on: the readings of D are those of Dd -/
structure EndOk (F0 : Hp) (Dd : DE) (D : Ends) : Prop where
  nx : ∀ F H σ sd, Same F0 F → Rs K C F H σ sd → Dd.nx sd → D.nx σ H
  rt : ∀ F H σ sd v r, Same F0 F → Rs K C F H σ sd → RvOk K C F H v r → (isOwn r = true → ∀ q, v = .ref q → C.H0 q = none) → Dd.rt r sd → D.rt v H
  bk : ∀ F H σ sd, Same F0 F → Rs K C F H σ sd → Dd.bk sd → D.bk σ H
  ct : ∀ F H σ sd, Same F0 F → Rs K C F H σ sd → Dd.ct sd → D.ct σ H
def tDS (m : MS) : TS := fun D σ H => ∃ F sd Dd, Rs K C F H σ sd ∧ EndOk K C F Dd D ∧ m Dd sd
/-- an iterator that gives the data ds, one by one -/
structure Wk (J : It) (F0 : Hp) (ds : List PyData) : Prop where
  ex : ∃ (G : Hp → Prop) (Y : Nat → Hp → V → Hp → Prop), Walk J ds.length G Y ∧ (∀ H, Same F0 H → G H) ∧
    ∀ i H x H' F, i < ds.length → Same F0 F → Same F H → Y i H x H' → ∃ F' d, Al F H F' H' ∧ ds[i]? = some d ∧ Rp K F' x d
def tDI (m : MI) : TI := fun σ H R => ∃ F sd Qd, Rs K C F H σ sd ∧ m sd Qd ∧ ∀ J H' F' ds sd', Rs K C F' H' σ sd' → Stp σ sd F H F' H' sd' → Wk K J F' ds → Qd ds sd' → R J H'
end
theorem EndOk.mono {K : PySem.W.Frag} {C : Ct} {F F' : Hp} {Dd : DE} {D : Ends} (E : EndOk K C F Dd D) (s : Same F F') : EndOk K C F' Dd D :=
  ⟨fun F1 H σ sd e => E.nx F1 H σ sd (s.trans e), fun F1 H σ sd v r e => E.rt F1 H σ sd v r (s.trans e), fun F1 H σ sd e => E.bk F1 H σ sd (s.trans e), fun F1 H σ sd e => E.ct F1 H σ sd (s.trans e)⟩
end DL
namespace DL
open PySem PySem.Spec PyProof.Rows L2
section
variable {X : Cx}
theorem pe_imp {e : Expr} {t t' : TE} (h : PE X e t) (i : ∀ σ H Q, t' σ H Q → t σ H Q) : PE X e t' := ⟨fun pins s σ H Q I q => h.run pins s σ H Q I (i _ _ _ q)⟩
theorem pt_imp {e : Expr} {t t' : TT} (h : PT X e t) (i : ∀ σ H Q, t' σ H Q → t σ H Q) : PT X e t' := ⟨fun pins s σ H Q I q => h.run pins s σ H Q I (i _ _ _ q)⟩
theorem pw_imp {e : Expr} {t t' : TT} (h : PW X e t) (i : ∀ σ H Q, t' σ H Q → t σ H Q) : PW X e t' := ⟨fun wh pins s σ H Q I q => h.run wh pins s σ H Q I (i _ _ _ q)⟩
theorem pa_imp {e : List Expr} {t t' : TA} (h : PA X e t) (i : ∀ σ H Q, t' σ H Q → t σ H Q) : PA X e t' := ⟨fun pos pins s σ H Q I q => h.run pos pins s σ H Q I (i _ _ _ q)⟩
theorem pk_imp {e : List Keyword} {t t' : TA} (h : PK X e t) (i : ∀ σ H Q, t' σ H Q → t σ H Q) : PK X e t' := ⟨fun pos pins s σ H Q I q => h.run pos pins s σ H Q I (i _ _ _ q)⟩
theorem pg_imp {e : Expr} {t t' : TG} (h : PG X e t) (i : ∀ v σ H Q, t' v σ H Q → t v σ H Q) : PG X e t' := ⟨fun pins s σ H v u Q I r q => h.run pins s σ H v u Q I r (i _ _ _ _ q)⟩
theorem pgs_imp {e : List Expr} {t t' : TGs} (h : PGs X e t) (i : ∀ v σ H Q, t' v σ H Q → t v σ H Q) : PGs X e t' := ⟨fun pins s σ H v u Q I r q => h.run pins s σ H v u Q I r (i _ _ _ _ q)⟩
theorem pi_imp {tg e : Expr} {t t' : TI} (h : PI X tg e t) (i : ∀ σ H Q, t' σ H Q → t σ H Q) : PI X tg e t' := ⟨fun pins s σ H Q I q => h.run pins s σ H Q I (i _ _ _ q)⟩
theorem ps_imp {e : Stmt} {t t' : TS} (h : PS X e t) (i : ∀ D σ H, t' D σ H → t D σ H) : PS X e t' := ⟨fun pins s σ H D I q => h.run pins s σ H D I (i _ _ _ q)⟩
theorem pss_imp {e : List Stmt} {t t' : TS} (h : PSs X e t) (i : ∀ D σ H, t' D σ H → t D σ H) : PSs X e t' := ⟨fun pins s σ H D I q => h.run pins s σ H D I (i _ _ _ q)⟩
theorem pg_or {e : Expr} {t t' : TG} (h : PG X e t) (h' : PG X e t') : PG X e (fun v σ H Q => t v σ H Q ∨ t' v σ H Q) :=
  ⟨fun pins s σ H v u Q I r q => q.elim (h.run pins s σ H v u Q I r) (h'.run pins s σ H v u Q I r)⟩
end
section
variable {K : PySem.W.Frag} {C : Ct} {F F' H H' : Hp} {σ : L2.St} {sd sd' : DSt} {X : Cx}
theorem td_var {i : Nat} : ∀ σ H Q, tD K C (mVar i) σ H Q → tVar i σ H Q := by
  rintro σ H Q ⟨F, sd, Qd, R, h, k⟩
  unfold mVar at h
  have hs := R.slot i
  cases e : sget sd i with
  | no => rw [e] at h; exact h.elim
  | va d =>
    rw [e] at h hs
    obtain ⟨v, e1, r⟩ := hs
    exact ⟨v, gv_some.mp e1, k v H F d sd R .refl r h⟩
  | own ds =>
    rw [e] at h
    obtain ⟨v, F', e1, R', S, r⟩ := R.freeze e
    exact ⟨v, gv_some.mp e1, k v H F' _ _ R' S r h⟩
  | well n => rw [e] at h; exact h.elim
  | scr n => rw [e] at h; exact h.elim
  | exc n => rw [e] at h; exact h.elim
  | ins c es => rw [e] at h; exact h.elim
theorem pd_var {i : Nat} {x : Str} {pos : Pos} (hN : X.N[i]? = some x) (hv : Vis X.env.scope x) (hd : (x == ("__debug__" : Str)) = false := by decide) (hcd : (x == ("__classdict__" : Str)) = false := by decide) :
    PE X (.Name x pos) (tD X.K C (mVar i)) := pe_imp (pe_var hN hv hd hcd) td_var
theorem td_c {v : V} {d : PyData} (r : ∀ F, Rp K F v d) : ∀ σ H Q, tD K C (mC d) σ H Q → tC v σ H Q := by
  rintro σ H Q ⟨F, sd, Qd, R, h, k⟩
  exact k v H F d sd R .refl (r F) h
theorem pd_int {i : Int} {j} {pos : Pos} : PE X (.Constant (.int i) j pos) (tD X.K C (mC (.int i))) := pe_imp pe_int (td_c fun _ => .int i)
theorem pd_bl {b : Bool} {j} {pos : Pos} : PE X (.Constant (.bool b) j pos) (tD X.K C (mC (.bool b))) := pe_imp pe_bl (td_c fun _ => .bl b)
theorem pd_non {j} {pos : Pos} : PE X (.Constant .none j pos) (tD X.K C (mC .none)) := pe_imp pe_non (td_c fun _ => .non)
theorem pd_str {x : Str} {j} {pos : Pos} : PE X (.Constant (.str x) j pos) (tD X.K C (mC (.str x))) := pe_imp pe_str (td_c fun _ => .str x)
/-- a module's constant -/
theorem pd_glob {x : Str} {v : V} {u : Value} {d : PyData} {pos : Pos} (hm : X.mg x = some u) (r : RelV v u) (q : ∀ F, Rp X.K F v d) (hg : Gl X x := by rfl) (hd : (x == ("__debug__" : Str)) = false := by decide) :
    PE X (.Name x pos) (tD X.K C (mC d)) := pe_imp (pe_glob hg hm r hd) (td_c q)
/-- what r asks of two values, told by f on data -/
def RL2 (K : PySem.W.Frag) (r : R2) (f : PyData → PyData → Option PyData) : Prop :=
  ∀ (F H : Hp) (x y : V) (a b z : PyData) (Q : VK), Same F H → (∀ p, H p = none → F p = none) → Rp K F x a → Rp K F y b → f a b = some z → (∀ v F' H', Al F H F' H' → Rp K F' v z → Q v H') → r x y H Q
theorem td_op2 {r : R2} {f : PyData → PyData → Option PyData} {ma mb : ME} (L : RL2 K r f) : ∀ σ H Q, tD K C (mOp2 f ma mb) σ H Q → tOp r (tD K C ma) (tD K C mb) σ H Q := by
  rintro σ H Q ⟨F, sd, Qd, R, h, k⟩
  refine ⟨F, sd, _, R, h, fun x H1 F1 a sd1 R1 S1 rx h1 => ⟨F1, sd1, _, R1, h1, fun y H2 F2 b sd2 R2 S2 ry h2 => ?_⟩⟩
  obtain ⟨z, e, q⟩ := h2
  exact L F2 H2 x y a b z Q R2.ext (fun p => R2.free) (rx.mono S2.fr) ry e fun v F' H' al rz => k v H' F' z sd2 (R2.al al) ((S1.trans S2).trans (.al R2 al)) rz q
theorem pd_op {op} {r : R2} {f : PyData → PyData → Option PyData} {ma mb : ME} {a b : Expr} {pos : Pos} (ho : OpR X (binaryOp op) r) (L : RL2 X.K r f) (ha : PE X a (tD X.K C ma)) (hb : PE X b (tD X.K C mb)) :
    PE X (.BinOp a op b pos) (tD X.K C (mOp2 f ma mb)) := pe_imp (pe_op ho ha hb) (td_op2 L)
theorem pd_cmp {op} {r : R2} {f : PyData → PyData → Option PyData} {ma mb : ME} {a b : Expr} {pos : Pos} (ho : OpR X (compareOp op) r) (L : RL2 X.K r f) (ha : PE X a (tD X.K C ma)) (hb : PE X b (tD X.K C mb)) (hm : behindInMarks op b = false) :
    PE X (.Compare a [op] [b] pos) (tD X.K C (mOp2 f ma mb)) := pe_imp (pe_cmpR ho ha hb hm) (td_op2 L)
theorem td_test {te : TE} {m : ME} (h : ∀ σ H Q, tD K C m σ H Q → te σ H Q) : ∀ σ H Q, tDT K C (mT m) σ H Q → tTest te σ H Q := by
  rintro σ H Q ⟨F, sd, Qd, R, h1, k⟩
  refine h σ H _ ⟨F, sd, _, R, h1, fun v H' F' d sd' R' S r q => ?_⟩
  obtain ⟨c, rfl, q⟩ := q
  cases r
  exact ⟨c, rfl, k c H' F' sd' R' S q⟩
theorem td_tB {te : TE} {m : ME} (h : ∀ σ H Q, tD K C m σ H Q → te σ H Q) : ∀ σ H Q, tDT K C (mT m) σ H Q → tB te σ H Q := by
  rintro σ H Q ⟨F, sd, Qd, R, h1, k⟩
  refine h σ H _ ⟨F, sd, _, R, h1, fun v H' F' d sd' R' S r q => ?_⟩
  obtain ⟨c, rfl, q⟩ := q
  cases r
  exact ⟨c, rfl, k c H' F' sd' R' S q⟩
theorem pdt_cmp {op} {r : R2} {f : PyData → PyData → Option PyData} {ma mb : ME} {a b : Expr} {pos : Pos} (ho : OpR X (compareOp op) r) (L : RL2 X.K r f) (ha : PE X a (tD X.K C ma)) (hb : PE X b (tD X.K C mb)) (hm : behindInMarks op b = false) :
    PT X (.Compare a [op] [b] pos) (tDT X.K C (mT (mOp2 f ma mb))) := pt_imp (pt_cmpR ho ha hb hm) (td_test (td_op2 L))
theorem pdt_val {e : Expr} {m : ME} (h : PE X e (tD X.K C m)) (he : ∀ whole, isTrue e X.env whole = (do let v ← whole; standAt e.pos; holding [v] (truthy v)) := by intro _; rfl) : PT X e (tDT X.K C (mT m)) :=
  pt_imp (pt_val h he) (td_tB fun _ _ _ q => q)
theorem pdt_not {e : Expr} {t : MT} {pos : Pos} (h : PT X e (tDT X.K C t)) : PT X (.UnaryOp .Not e pos) (tDT X.K C (mTNot t)) := pt_imp (pt_not h) (by
  rintro σ H Q ⟨F, sd, Qd, R, h1, k⟩
  exact ⟨F, sd, _, R, h1, fun b H' F' sd' R' S q => k (!b) H' F' sd' R' S q⟩)
theorem pdw_and1 {a : Expr} {t : MT} {pos : Pos} (h : PT X a (tDT X.K C t)) : PW X (.BoolOp .And [a] pos) (tDT X.K C t) := pw_and1 h
theorem pdw_or1 {a : Expr} {t : MT} {pos : Pos} (h : PT X a (tDT X.K C t)) : PW X (.BoolOp .Or [a] pos) (tDT X.K C t) := pw_or1 h
theorem pdw_and {a b : Expr} {rest : List Expr} {t u : MT} {pos : Pos} (ha : PT X a (tDT X.K C t)) (hb : PW X (.BoolOp .And (b :: rest) pos) (tDT X.K C u)) : PW X (.BoolOp .And (a :: b :: rest) pos) (tDT X.K C (mTAnd t u)) := pw_imp (pw_and ha hb) (by
  rintro σ H Q ⟨F, sd, Qd, R, h1, k⟩
  refine ⟨F, sd, _, R, h1, fun b H' F' sd' R' S q => ?_⟩
  cases b with
  | true => exact ⟨F', sd', Qd, R', q, fun b2 H2 F2 sd2 R2 S2 q2 => k b2 H2 F2 sd2 R2 (S.trans S2) q2⟩
  | false => exact k false H' F' sd' R' S q)
theorem pdw_or {a b : Expr} {rest : List Expr} {t u : MT} {pos : Pos} (ha : PT X a (tDT X.K C t)) (hb : PW X (.BoolOp .Or (b :: rest) pos) (tDT X.K C u)) : PW X (.BoolOp .Or (a :: b :: rest) pos) (tDT X.K C (mTOr t u)) := pw_imp (pw_or ha hb) (by
  rintro σ H Q ⟨F, sd, Qd, R, h1, k⟩
  refine ⟨F, sd, _, R, h1, fun b H' F' sd' R' S q => ?_⟩
  cases b with
  | true => exact k true H' F' sd' R' S q
  | false => exact ⟨F', sd', Qd, R', q, fun b2 H2 F2 sd2 R2 S2 q2 => k b2 H2 F2 sd2 R2 (S.trans S2) q2⟩)
theorem pd_and {a b : Expr} {rest : List Expr} {ma mb : ME} {pos : Pos} (ha : PE X a (tD X.K C ma)) (hb : PE X (.BoolOp .And (b :: rest) pos) (tD X.K C mb)) : PE X (.BoolOp .And (a :: b :: rest) pos) (tD X.K C (mAnd ma mb)) := pe_imp (pe_and ha hb) (by
  rintro σ H Q ⟨F, sd, Qd, R, h1, k⟩
  refine ⟨F, sd, _, R, h1, fun v H' F' d sd' R' S r q => ?_⟩
  obtain ⟨c, rfl, q⟩ := q
  cases r
  refine ⟨c, rfl, ?_⟩
  cases c with
  | true => exact ⟨F', sd', Qd, R', q, fun b2 H2 F2 d2 sd2 R2 S2 r2 q2 => k b2 H2 F2 d2 sd2 R2 (S.trans S2) r2 q2⟩
  | false => exact k (.bl false) H' F' _ sd' R' S (.bl false) q)
theorem pd_or {a b : Expr} {rest : List Expr} {ma mb : ME} {pos : Pos} (ha : PE X a (tD X.K C ma)) (hb : PE X (.BoolOp .Or (b :: rest) pos) (tD X.K C mb)) : PE X (.BoolOp .Or (a :: b :: rest) pos) (tD X.K C (mOr ma mb)) := pe_imp (pe_or ha hb) (by
  rintro σ H Q ⟨F, sd, Qd, R, h1, k⟩
  refine ⟨F, sd, _, R, h1, fun v H' F' d sd' R' S r q => ?_⟩
  obtain ⟨c, rfl, q⟩ := q
  cases r
  refine ⟨c, rfl, ?_⟩
  cases c with
  | true => exact k (.bl true) H' F' _ sd' R' S (.bl true) q
  | false => exact ⟨F', sd', Qd, R', q, fun b2 H2 F2 d2 sd2 R2 S2 r2 q2 => k b2 H2 F2 d2 sd2 R2 (S.trans S2) r2 q2⟩)
theorem pd_not {a : Expr} {ma : ME} {pos : Pos} (ha : PE X a (tD X.K C ma)) : PE X (.UnaryOp .Not a pos) (tD X.K C (mNot ma)) := pe_imp (pe_not ha) (by
  rintro σ H Q ⟨F, sd, Qd, R, h1, k⟩
  refine ⟨F, sd, _, R, h1, fun v H' F' d sd' R' S r q => ?_⟩
  obtain ⟨c, rfl, q⟩ := q
  cases r
  exact ⟨c, rfl, k (.bl (!c)) H' F' _ sd' R' S (.bl _) q⟩)
theorem pd_one {op} {a : Expr} {m : ME} {pos : Pos} (h : PE X a (tD X.K C m)) : PE X (.BoolOp op [a] pos) (tD X.K C m) := pe_one h
theorem pd_ifE {c a b : Expr} {t : MT} {ma mb : ME} {pos : Pos} (hc : PT X c (tDT X.K C t)) (ha : PE X a (tD X.K C ma)) (hb : PE X b (tD X.K C mb)) : PE X (.IfExp c a b pos) (tD X.K C (mIfE t ma mb)) := pe_imp (pe_ifExp hc ha hb) (by
  rintro σ H Q ⟨F, sd, Qd, R, h1, k⟩
  refine ⟨F, sd, _, R, h1, fun b H' F' sd' R' S q => ?_⟩
  cases b with
  | true => exact ⟨F', sd', Qd, R', q, fun b2 H2 F2 d2 sd2 R2 S2 r2 q2 => k b2 H2 F2 d2 sd2 R2 (S.trans S2) r2 q2⟩
  | false => exact ⟨F', sd', Qd, R', q, fun b2 H2 F2 d2 sd2 R2 S2 r2 q2 => k b2 H2 F2 d2 sd2 R2 (S.trans S2) r2 q2⟩)
theorem pd_chain {op op'} {r r' : R2} {f g : PyData → PyData → Option PyData} {a b c : Expr} {ma mb mc : ME} {pos : Pos} (ho : OpR X (compareOp op) r) (ho' : OpR X (compareOp op') r') (L : RL2 X.K r f) (L' : RL2 X.K r' g)
    (ha : PE X a (tD X.K C ma)) (hb : PE X b (tD X.K C mb)) (hc : PE X c (tD X.K C mc)) (hu : ∀ {a b : PyData} {z : PyData}, f a b = some z → ∃ k, z = .bool k) (t : PE X (.Compare a [op, op'] [b, c] pos) (tChain r r' (tD X.K C ma) (tD X.K C mb) (tD X.K C mc))) :
    PE X (.Compare a [op, op'] [b, c] pos) (tD X.K C (mChain f g ma mb mc)) := pe_imp t (by
  rintro σ H Q ⟨F, sd, Qd, R, h, k⟩
  refine ⟨F, sd, _, R, h, fun x H1 F1 a sd1 R1 S1 rx h1 => ⟨F1, sd1, _, R1, h1, fun y H2 F2 b sd2 R2 S2 ry h2 => ?_⟩⟩
  obtain ⟨cc, e, q⟩ := h2
  refine L F2 H2 x y a b (.bool cc) _ R2.ext (fun p => R2.free) (rx.mono S2.fr) ry e fun v F' H' al rz => ?_
  cases rz
  refine ⟨cc, rfl, ?_⟩
  have S' := (S1.trans S2).trans (.al R2 al)
  cases cc with
  | true =>
    refine ⟨F', sd2, _, R2.al al, q, fun w H3 F3 d sd3 R3 S3 rw_ h3 => ?_⟩
    obtain ⟨z2, e2, q2⟩ := h3
    refine L' F3 H3 y w b d z2 _ R3.ext (fun p => R3.free) (ry.mono ((Stp.al R2 al).fr.trans S3.fr)) rw_ e2 fun v F4 H4 al2 rz2 => k v H4 F4 z2 sd3 (R3.al al2) ((S'.trans S3).trans (.al R3 al2)) rz2 q2
  | false => exact k (.bl false) H' F' _ sd2 (R2.al al) S' (.bl false) q)
/-- one place -/
def RL1 (K : PySem.W.Frag) (r : V → Hp → VK → Prop) (f : PyData → Option PyData) : Prop :=
  ∀ (F H : Hp) (x : V) (a z : PyData) (Q : VK), Same F H → (∀ p, H p = none → F p = none) → Rp K F x a → f a = some z → (∀ v F' H', Al F H F' H' → Rp K F' v z → Q v H') → r x H Q
theorem pd_un {op} {r : V → Hp → VK → Prop} {f : PyData → Option PyData} {ma : ME} {a : Expr} {pos : Pos} (ho : UnR X (unaryOp op) r) (L : RL1 X.K r f) (ha : PE X a (tD X.K C ma)) : PE X (.UnaryOp op a pos) (tD X.K C (mOp1 f ma)) := pe_imp (pe_un ho ha) (by
  rintro σ H Q ⟨F, sd, Qd, R, h, k⟩
  refine ⟨F, sd, _, R, h, fun x H1 F1 a sd1 R1 S1 rx h1 => ?_⟩
  obtain ⟨z, e, q⟩ := h1
  exact L F1 H1 x a z Q R1.ext (fun p => R1.free) rx e fun v F' H' al rz => k v H' F' z sd1 (R1.al al) (S1.trans (.al R1 al)) rz q)
theorem pd_ix {a b : Expr} {r : R2} {f : PyData → PyData → Option PyData} {ma mb : ME} {pos : Pos} (hr : IxR X r) (L : RL2 X.K r f) (ha : PE X a (tD X.K C ma)) (hb : PE X b (tD X.K C mb)) (hs : PlainIx b := by exact fun _ _ => rfl) :
    PE X (.Subscript a b pos) (tD X.K C (mOp2 f ma mb)) := pe_imp (pe_ix hr ha hb hs) (td_op2 L)
theorem pda_nil : PA X [] (tDA X.K C mNil) := pa_imp pa_nil (by
  rintro σ H Q ⟨F, sd, Qd, R, h, k⟩
  exact k [] H F [] sd R .refl .nil h)
theorem td_cons {me : ME} {ma : MA} : ∀ σ H Q, tDA K C (mCons me ma) σ H Q → tCons (tD K C me) (tDA K C ma) σ H Q := by
  rintro σ H Q ⟨F, sd, Qd, R, h, k⟩
  exact ⟨F, sd, _, R, h, fun x H1 F1 a sd1 R1 S1 rx h1 => ⟨F1, sd1, _, R1, h1, fun ys H2 F2 ds sd2 R2 S2 ry h2 => k (x :: ys) H2 F2 (a :: ds) sd2 R2 (S1.trans S2) (.cons (rx.mono S2.fr) ry) h2⟩⟩
theorem pda_cons {e : Expr} {es : List Expr} {me : ME} {ma : MA} (he : PE X e (tD X.K C me)) (hr : PA X es (tDA X.K C ma)) (hs : starEach (e :: es) X.env = (false, eval e X.env) :: starEach es X.env := by rfl) : PA X (e :: es) (tDA X.K C (mCons me ma)) :=
  pa_imp (pa_cons he hr hs) td_cons
theorem pdk_nil : PK X [] (tDA X.K C mNil) := pk_imp pk_nil (by
  rintro σ H Q ⟨F, sd, Qd, R, h, k⟩
  exact k [] H F [] sd R .refl .nil h)
theorem pdk_cons {nm : Option Str} {e : Expr} {kpos : Pos} {es : List Keyword} {me : ME} {ma : MA} (he : PE X e (tD X.K C me)) (hr : PK X es (tDA X.K C ma)) : PK X (⟨nm, e, kpos⟩ :: es) (tDA X.K C (mCons me ma)) :=
  pk_imp (pk_cons he hr) td_cons
theorem pd_tup {es : List Expr} {x1} {ma : MA} {pos : Pos} (h : PA X es (tDA X.K C ma)) : PE X (.Tuple es x1 pos) (tD X.K C (mTup ma)) := pe_imp (pe_tup h) (by
  rintro σ H Q ⟨F, sd, Qd, R, h, k⟩
  refine ⟨F, sd, _, R, h, fun vs H1 F1 ds sd1 R1 S1 rs q => ⟨?_, fun p hp => ?_⟩⟩
  · rw [rs.length]; exact Nat.le_trans q.1 (by decide)
  · exact k (.ref p) _ (upd F1 p (.tup vs)) _ sd1 (R1.al (.new hp)) (S1.trans (.al R1 (.new hp))) (.tup (.inl (.inl upd_same)) (rs.mono (same_new (R1.free hp)))) q.2)
theorem td_lst {ma : MA} : ∀ σ H Q, tDR K C (mrLst ma) σ H Q → tLst (tDA K C ma) σ H Q := by
  rintro σ H Q ⟨F, sd, Qd, R, h, k⟩
  refine ⟨F, sd, _, R, h, fun vs H1 F1 ds sd1 R1 S1 rs q => ⟨?_, fun p hp => ?_⟩⟩
  · rw [rs.length]; exact Nat.le_trans q.1 (by decide)
  · have R2 := R1.allocH (o := .lst vs) hp
    refine k (.ref p) _ F1 (.own ds) sd1 R2 (S1.trans ⟨Same.refl _, fun a o e _ => same_new hp a o e, fun _ z => z, fun _ _ e => .inl e, fun a e => ?_⟩) ⟨p, vs, rfl, upd_same, R1.free hp, R1.still p hp, rs⟩ (fun _ q' e => ?_) (fun _ q' e => ?_) q.2
    · by_cases z : a = p
      · subst z; exact hp
      · rw [upd_ne z] at e; exact e
    · cases e
      rintro ⟨i, o, e⟩
      have hs := R1.slot i
      cases es : sget sd1 i with
      | no => rw [es] at o; cases o
      | va d => rw [es] at o; cases o
      | scr d => rw [es] at o; cases o
      | exc d => rw [es] at o; cases o
      | ins c fs => rw [es] at hs; obtain ⟨q2, _, _, _, e1, e2, _⟩ := hs; rw [e] at e1; cases e1; rw [hp] at e2; cases e2
      | own ds' => rw [es] at hs; obtain ⟨q2, vs2, e1, e2, _⟩ := hs; rw [e] at e1; cases e1; rw [hp] at e2; cases e2
      | well n => rw [es] at hs; obtain ⟨q2, _, _, _, e1, e2, _⟩ := hs; rw [e] at e1; cases e1; rw [hp] at e2; cases e2
    · cases e
      have := S1.st p hp
      exact this
theorem td_lstV {ma : MA} : ∀ σ H Q, tD K C (mLst ma) σ H Q → tLst (tDA K C ma) σ H Q := by
  rintro σ H Q ⟨F, sd, Qd, R, h, k⟩
  refine ⟨F, sd, _, R, h, fun vs H1 F1 ds sd1 R1 S1 rs q => ⟨?_, fun p hp => ?_⟩⟩
  · rw [rs.length]; exact Nat.le_trans q.1 (by decide)
  · exact k (.ref p) _ (upd F1 p (.lst vs)) _ sd1 (R1.al (.new hp)) (S1.trans (.al R1 (.new hp))) (.lst upd_same (rs.mono (same_new (R1.free hp)))) q.2
theorem pd_lst {es : List Expr} {ma : MA} {pos : Pos} (h : PA X es (tDA X.K C ma)) : PE X (.List es pos) (tD X.K C (mLst ma)) := pe_imp (pe_lst h) td_lstV
theorem pdr_lst {es : List Expr} {ma : MA} {pos : Pos} (h : PA X es (tDA X.K C ma)) : PE X (.List es pos) (tDR X.K C (mrLst ma)) := pe_imp (pe_lst h) td_lst
theorem pdr_of {e : Expr} {m : ME} (h : PE X e (tD X.K C m)) : PE X e (tDR X.K C (mrOf m)) := pe_imp h (by
  rintro σ H Q ⟨F, sd, Qd, R, h, k⟩
  exact ⟨F, sd, _, R, h, fun v H' F' d sd' R' S r q => k v H' F' (.va d) sd' R' S ⟨v, rfl, r⟩ (fun z => nomatch z) (fun z => nomatch z) q⟩)
def RLC (K : PySem.W.Frag) (r : List V → Hp → VK → Prop) (f : List PyData → Option PyData) : Prop :=
  ∀ (F H : Hp) (xs : List V) (as : List PyData) (z : PyData) (Q : VK), Same F H → (∀ p, H p = none → F p = none) → RpA K F xs as → f as = some z → (∀ v F' H', Al F H F' H' → Rp K F' v z → Q v H') → r xs H Q
theorem td_cb {r : List V → Hp → VK → Prop} {f : List PyData → Option PyData} {ma : MA} (L : RLC K r f) : ∀ σ H Q, tD K C (mCallB f ma) σ H Q → tCB r (tDA K C ma) σ H Q := by
  rintro σ H Q ⟨F, sd, Qd, R, h, k⟩
  refine ⟨F, sd, _, R, h, fun xs H1 F1 as sd1 R1 S1 rx h1 => ?_⟩
  obtain ⟨z, e, q⟩ := h1
  exact L F1 H1 xs as z Q R1.ext (fun p => R1.free) rx e fun v F' H' al rz => k v H' F' z sd1 (R1.al al) (S1.trans (.al R1 al)) rz q
theorem pd_callB {id : String} {x : Str} {p pos : Pos} {e : Expr} {es : List Expr} {r : List V → Hp → VK → Prop} {f : List PyData → Option PyData} {ma : MA} (hc : CallR X (.builtin id) r) (L : RLC X.K r f) (hm : X.mg x = none) (hv : bootBuiltins x = some (.builtin id))
    (ha : PA X (e :: es) (tDA X.K C ma)) (hg : Gl X x := by rfl) (hn : x ≠ "__name__" := by decide) (hdb : (x == ("__debug__" : Str)) = false := by decide)
    (he : starEach (e :: es) X.env = (false, eval e X.env) :: starEach es X.env := by rfl) (hpl : (backTo pos (starEach es X.env)).any (·.1) = false := by rfl) : PE X (.Call (.Name x p) (e :: es) [] pos) (tD X.K C (mCallB f ma)) :=
  pe_imp (pe_callB hc hg hm hv ha hn hdb he hpl) (td_cb L)
theorem pd_callTy {T : String} {x : Str} {p pos : Pos} {e : Expr} {es : List Expr} {r : List V → Hp → VK → Prop} {f : List PyData → Option PyData} {ma : MA} (hc : CallR X (.type T) r) (L : RLC X.K r f) (hm : X.mg x = none) (hv : bootBuiltins x = some (.type T))
    (ha : PA X (e :: es) (tDA X.K C ma)) (hg : Gl X x := by rfl) (hn : x ≠ "__name__" := by decide) (hdb : (x == ("__debug__" : Str)) = false := by decide)
    (he : starEach (e :: es) X.env = (false, eval e X.env) :: starEach es X.env := by rfl) (hpl : (backTo pos (starEach es X.env)).any (·.1) = false := by rfl) : PE X (.Call (.Name x p) (e :: es) [] pos) (tD X.K C (mCallB f ma)) :=
  pe_imp (pe_callTy hc hg hm hv ha hn hdb he hpl) (td_cb L)
/-- a builtin that is a module's name (math.gcd) -/
theorem pd_slice {e : Expr} {lo hi : Option Expr} {p2 pos : Pos} {r : V → Option Int → Option Int → Hp → VK → Prop} {f : PyData → Option Int → Option Int → Option PyData} {me : ME} {ml mh : DSt → (Option Int → DSt → Prop) → Prop} {tl th : TO}
    (L : ∀ (F H : Hp) (x : V) (a z : PyData) (lo hi : Option Int) (Q : VK), Same F H → (∀ p, H p = none → F p = none) → Rp X.K F x a → f a lo hi = some z → (∀ v F' H', Al F H F' H' → Rp X.K F' v z → Q v H') → r x lo hi H Q)
    (hl : ∀ σ H Q F sd Qd, Rs X.K C F H σ sd → ml sd Qd → (∀ o H' F' sd', Rs X.K C F' H' σ sd' → Stp σ sd F H F' H' sd' → Qd o sd' → Q o H') → tl σ H Q)
    (hh : ∀ σ H Q F sd Qd, Rs X.K C F H σ sd → mh sd Qd → (∀ o H' F' sd', Rs X.K C F' H' σ sd' → Stp σ sd F H F' H' sd' → Qd o sd' → Q o H') → th σ H Q)
    (t : PE X (.Subscript e (.Slice lo hi none p2) pos) (tSl r (tD X.K C me) tl th)) : PE X (.Subscript e (.Slice lo hi none p2) pos) (tD X.K C (mSl f me ml mh)) := pe_imp t (by
  rintro σ H Q ⟨F, sd, Qd, R, h, k⟩
  refine ⟨F, sd, _, R, h, fun x H1 F1 a sd1 R1 S1 rx h1 => ?_⟩
  refine hl σ H1 _ F1 sd1 _ R1 h1 fun l H2 F2 sd2 R2 S2 h2 => ?_
  refine hh σ H2 _ F2 sd2 _ R2 h2 fun u H3 F3 sd3 R3 S3 h3 => ?_
  obtain ⟨z, e, q⟩ := h3
  exact L F3 H3 x a z l u Q R3.ext (fun p => R3.free) (rx.mono (S2.fr.trans S3.fr)) e fun v F' H' al rz => k v H' F' z sd3 (R3.al al) (((S1.trans S2).trans S3).trans (.al R3 al)) rz q)
end
end DL
namespace DL
open PySem PySem.Spec PyProof.Rows L2
theorem opR_or {X : Cx} {f : Value → Value → Sem Value} {r r' : R2} (h : OpR X f r) (h' : OpR X f r') : OpR X f (fun x y H Q => r x y H Q ∨ r' x y H Q) :=
  fun pins s σ H x y v u Q I rx ry q => q.elim (h pins s σ H x y v u Q I rx ry) (h' pins s σ H x y v u Q I rx ry)
theorem callR_or {X : Cx} {f : Value} {r r' : List V → Hp → VK → Prop} (h : CallR X f r) (h' : CallR X f r') : CallR X f (fun xs H Q => r xs H Q ∨ r' xs H Q) :=
  fun pins s σ H xs us Q I rx q => q.elim (h pins s σ H xs us Q I rx) (h' pins s σ H xs us Q I rx)
theorem slR_or {X : Cx} {r r' : V → Option Int → Option Int → Hp → VK → Prop} (h : SlR X r) (h' : SlR X r') : SlR X (fun x lo hi H Q => r x lo hi H Q ∨ r' x lo hi H Q) := SlR.or h h'
theorem line_of {n : Nat} (h : n ≤ 100000) : n ≤ sizeLine := Nat.le_trans h (by decide)
theorem line_lt {n : Nat} (h : n < 100000) : n < sizeLine := Nat.lt_of_lt_of_le h (by decide)
section
variable {K : PySem.W.Frag} {X : Cx}
abbrev rAdd (K : PySem.W.Frag) : R2 := fun x y H Q => (((rI0 fun i j => V.int (i + j)) x y H Q ∨ (∃ i j, x = .str i ∧ y = .str j ∧ i.length + j.length ≤ sizeLine ∧ Q (.str (i ++ j)) H)) ∨ rCat x y H Q) ∨ rCatA K x y H Q
theorem or_add : OpR X (binaryOp .Add) (rAdd X.K) := opR_or (opR_or (opR_or op_add op_add_str) op_cat) op_catA
theorem rl_add : RL2 K (rAdd K) opAdd := by
  intro F H x y a b z Q e _ rx ry h k
  unfold opAdd at h
  split at h
  · cases rx; cases ry; cases h
    exact .inl (.inl (.inl ⟨_, _, rfl, rfl, k _ F H .id (.int _)⟩))
  · cases rx; cases ry
    split at h
    · cases h
      rename_i hl
      exact .inl (.inl (.inr ⟨_, _, rfl, rfl, line_of hl, k _ F H .id (.str _)⟩))
    · cases h
  · split at h
    · rename_i hl
      cases h
      cases rx with
      | lst h1 r1 =>
        cases ry with
        | lst h2 r2 =>
          refine .inl (.inr ⟨_, _, _, _, rfl, rfl, e _ _ h1, e _ _ h2, ?_, fun p hp => ?_⟩)
          · rw [r1.length, r2.length]; exact line_of hl
          · have hF : F p = none := by
              cases q : F p with
              | none => rfl
              | some o => rw [e _ _ q] at hp; cases hp
            exact k _ _ _ (.new hp) (.lst upd_same ((r1.append r2).mono (same_new hF)))
    · cases h
  · split at h
    · rename_i hl
      cases h
      cases rx with
      | tup h1 r1 =>
        cases ry with
        | tup h2 r2 =>
          refine .inr ⟨_, _, _, _, rfl, rfl, same_t e h1, same_t e h2, ?_, fun z => ?_, fun z1 z2 => ?_, fun z1 z2 p hp => ?_⟩
          · rw [r1.length, r2.length]; exact line_of hl
          · subst z
            cases r1
            exact k _ F H .id (.tup h2 r2)
          · subst z2
            cases r2
            rw [List.append_nil] at k
            exact k _ F H .id (.tup h1 r1)
          · have hF : F p = none := by
              cases q : F p with
              | none => rfl
              | some o => rw [e _ _ q] at hp; cases hp
            exact k _ _ _ (.new hp) (.tup (.inl (.inl upd_same)) ((r1.append r2).mono (same_new hF)))
    · cases h
  · cases h
theorem free_of {F H : Hp} {p : Addr} (e : Same F H) (hp : H p = none) : F p = none := by
  cases q : F p with
  | none => rfl
  | some o => rw [e _ _ q] at hp; cases hp
theorem rl_sub : RL2 K (rI0 fun i j => V.int (i - j)) opSub := by
  intro F H x y a b z Q e _ rx ry h k
  unfold opSub at h
  split at h
  · cases rx; cases ry; cases h
    exact ⟨_, _, rfl, rfl, k _ F H .id (.int _)⟩
  · cases h
abbrev rMul : R2 := fun x y H Q => rI CMulW (fun i j => V.int (i * j)) x y H Q ∨ rRep x y H Q
theorem or_mul : OpR X (binaryOp .Mult) rMul := opR_or op_mulW op_rep
theorem rpA_rep {F : Hp} {vs : List V} {ds : List PyData} (r : RpA K F vs ds) : ∀ n : Nat, RpA K F (List.replicate n vs).flatten (List.replicate n ds).flatten
  | 0 => .nil
  | n + 1 => by
    rw [List.replicate_succ, List.replicate_succ, List.flatten_cons, List.flatten_cons]
    exact r.append (rpA_rep r n)
theorem rl_mul : RL2 K rMul opMul := by
  intro F H x y a b z Q e _ rx ry h k
  unfold opMul at h
  split at h
  · cases rx; cases ry
    split at h
    · rename_i hs
      cases h
      exact .inl ⟨_, _, rfl, rfl, (by unfold CMulW; exact of_decide_eq_true hs), k _ F H .id (.int _)⟩
    · cases h
  · rename_i a' k'
    split at h
    · rename_i hs
      cases h
      cases ry
      cases rx with
      | lst h1 r1 =>
        refine .inr ⟨_, _, _, rfl, rfl, e _ _ h1, by omega, by omega, ?_, fun p hp => ?_⟩
        · rw [r1.length]
          have h1 : a'.length * k'.toNat ≤ 1000 * 1000 := Nat.mul_le_mul hs.2.2 (by omega)
          exact Nat.le_trans h1 (by decide)
        · exact k _ _ _ (.new hp) (.lst upd_same ((rpA_rep r1 _).mono (same_new (free_of e hp))))
    · cases h
  · cases h
theorem rl_mod : RL2 K (rI (fun _ j => 0 < j) fun i j => V.int (i % j)) opMod := by
  intro F H x y a b z Q e _ rx ry h k
  unfold opMod at h
  split at h
  · cases rx; cases ry
    split at h
    · rename_i hs
      cases h
      exact ⟨_, _, rfl, rfl, hs, k _ F H .id (.int _)⟩
    · cases h
  · cases h
theorem rl_fdiv : RL2 K (rI CDivW fun i j => V.int (i / j)) opFdiv := by
  intro F H x y a b z Q e _ rx ry h k
  unfold opFdiv at h
  split at h
  · cases rx; cases ry
    split at h
    · rename_i hs
      cases h
      exact ⟨_, _, rfl, rfl, hs, k _ F H .id (.int _)⟩
    · cases h
  · cases h
/-- ** by a small exponent -/
def CPowW (i j : Int) : Prop := 0 ≤ j ∧ j ≤ 100 ∧ i.natAbs < 2 ^ 10000
theorem op_powW : OpR X (binaryOp .Pow) (rI CPowW fun i j => .int (i ^ j.toNat)) := by
  intro pins s σ H x y v u Q I rx ry h
  obtain ⟨i, j, rfl, rfl, hc, q⟩ := h
  obtain ⟨t, rfl⟩ := rx
  obtain ⟨t', rfl⟩ := ry
  refine PyProof.Rows.pow_int hc.1 ?_ ⟨.int _, H, I.tok _, ⟨_, rfl⟩, q⟩
  have hb : Builtin.Int.intBits i ≤ 10000 := by
    unfold Builtin.Int.intBits
    split
    · exact Nat.zero_le _
    · have := PySem.Flt.log2_lt_of (by decide : 0 < 10000) hc.2.2
      omega
  have h1 := hc.1
  have h2 := hc.2.1
  have h3 : (Builtin.Int.intBits i : Int) ≤ 10000 := by exact_mod_cast hb
  have h4 : (Builtin.Int.intBits i : Int) * j ≤ 10000 * 100 := Int.mul_le_mul h3 h2 h1 (by decide)
  have h5 : (10000 * 100 : Int) ≤ 2 ^ 27 := by decide
  omega
theorem rl_pow : RL2 K (rI CPowW fun i j => V.int (i ^ j.toNat)) opPow := by
  intro F H x y a b z Q e _ rx ry h k
  unfold opPow at h
  split at h
  · cases rx; cases ry
    split at h
    · rename_i hs
      cases h
      exact ⟨_, _, rfl, rfl, hs, k _ F H .id (.int _)⟩
    · cases h
  · cases h
theorem rl_cmpI {p : Int → Int → Bool} : RL2 K (rI0 fun i j => V.bl (p i j)) (cmpI p) := by
  intro F H x y a b z Q e _ rx ry h k
  unfold cmpI at h
  split at h
  · cases rx; cases ry; cases h
    exact ⟨_, _, rfl, rfl, k _ F H .id (.bl _)⟩
  · cases h
theorem strs_of {a b : PyData} {p : Str × Str} (h : strs? a b = some p) : a = .str p.1 ∧ b = .str p.2 := by
  unfold strs? at h
  split at h
  · cases h; exact ⟨rfl, rfl⟩
  · cases h
theorem or_eqD (hu : X.A.units + 64 < cLine) : OpR X (compareOp .Eq) (fun x y H Q => rEqD X.K x y H Q ∨ rEq x y H Q) := opR_or (op_eqD hu) op_eq
theorem or_neD (hu : X.A.units + 64 < cLine) : OpR X (compareOp .NotEq) (fun x y H Q => rNeD X.K x y H Q ∨ rNe x y H Q) := opR_or (op_neD hu) op_ne
theorem dec_v {x y : Str} : decide (V.str x = V.str y) = decide (x = y) := by
  by_cases h : x = y <;> simp [h]
theorem rl_eq : RL2 K (fun x y H Q => rEqD K x y H Q ∨ rEq x y H Q) opEq := by
  intro F H x y a b z Q e _ rx ry h k
  unfold opEq at h
  split at h
  · rename_i hs
    cases h
    rw [Bool.and_eq_true] at hs
    exact .inl ⟨a, b, rx.dp e (SeqAt.canLay_of_shaped hs.1), ry.dp e (SeqAt.canLay_of_shaped hs.2), hs.1, hs.2, k _ F H .id (.bl _)⟩
  · obtain ⟨p, hp, h⟩ := Option.map_eq_some_iff.mp h
    obtain ⟨rfl, rfl⟩ := strs_of hp
    cases h
    cases rx; cases ry
    refine .inr ⟨rfl, ?_⟩
    rw [dec_v]
    exact k _ F H .id (.bl _)
theorem rl_ne : RL2 K (fun x y H Q => rNeD K x y H Q ∨ rNe x y H Q) opNe := by
  intro F H x y a b z Q e _ rx ry h k
  unfold opNe at h
  split at h
  · rename_i hs
    cases h
    rw [Bool.and_eq_true] at hs
    exact .inl ⟨a, b, rx.dp e (SeqAt.canLay_of_shaped hs.1), ry.dp e (SeqAt.canLay_of_shaped hs.2), hs.1, hs.2, k _ F H .id (.bl _)⟩
  · obtain ⟨p, hp, h⟩ := Option.map_eq_some_iff.mp h
    obtain ⟨rfl, rfl⟩ := strs_of hp
    cases h
    cases rx; cases ry
    refine .inr ⟨rfl, ?_⟩
    rw [dec_v]
    exact k _ F H .id (.bl _)
theorem isN_of {F : Hp} {x : V} {a : PyData} (r : Rp K F x a) : decide (x = .non) = isN a := by
  cases r <;> rfl
abbrev rIsNone : R2 := fun x y H Q => y = .non ∧ Q (.bl (decide (x = .non))) H
abbrev rNotNone : R2 := fun x y H Q => y = .non ∧ Q (.bl (!decide (x = .non))) H
theorem rl_isN : RL2 K rIsNone opIsN2 := by
  intro F H x y a b z Q e _ rx ry h k
  unfold opIsN2 at h
  split at h
  · cases ry; cases h
    refine ⟨rfl, ?_⟩
    rw [isN_of rx]
    exact k _ F H .id (.bl _)
  · cases h
theorem rl_notN : RL2 K rNotNone opNotN2 := by
  intro F H x y a b z Q e _ rx ry h k
  unfold opNotN2 at h
  split at h
  · cases ry; cases h
    refine ⟨rfl, ?_⟩
    rw [isN_of rx]
    exact k _ F H .id (.bl _)
  · cases h
theorem rl_isB : RL2 K (fun x y H Q => ∃ a b, x = V.bl a ∧ y = V.bl b ∧ Q (.bl (decide (a = b))) H) opIsB := by
  intro F H x y a b z Q e _ rx ry h k
  unfold opIsB at h
  split at h
  · cases rx; cases ry; cases h
    exact ⟨_, _, rfl, rfl, k _ F H .id (.bl _)⟩
  · cases h
theorem rl_notB : RL2 K (fun x y H Q => ∃ a b, x = V.bl a ∧ y = V.bl b ∧ Q (.bl (!decide (a = b))) H) opNotB := by
  intro F H x y a b z Q e _ rx ry h k
  unfold opNotB at h
  split at h
  · cases rx; cases ry; cases h
    exact ⟨_, _, rfl, rfl, k _ F H .id (.bl _)⟩
  · cases h
theorem rl_neg : RL1 K (rU fun i => V.int (-i)) opNeg := by
  intro F H x a z Q e _ rx h k
  unfold opNeg at h
  split at h
  · cases rx; cases h
    exact ⟨_, rfl, k _ F H .id (.int _)⟩
  · cases h
theorem atI_rpA {F : Hp} {vs : List V} {ds : List PyData} {i : Int} {d : PyData} (r : RpA K F vs ds) (h : DL.atI ds i = some d) : ∃ v, L2.atI vs i = some v ∧ Rp K F v d := by
  unfold DL.atI at h
  unfold L2.atI
  rw [r.length]
  show ∃ v, ((DL.ixN ds.length i).bind fun j => vs[j]?) = some v ∧ _
  cases e : DL.ixN ds.length i with
  | none => rw [e] at h; cases h
  | some j => rw [e] at h; exact r.get h
theorem rl_ix : RL2 K (rIx K) opIx := by
  intro F H x y a b z Q e _ rx ry h k
  unfold opIx at h
  split at h
  · cases ry
    cases rx with
    | lst h1 r1 =>
      obtain ⟨v, e1, r⟩ := atI_rpA r1 h
      exact .inl ⟨_, _, _, v, rfl, rfl, .inl (.inl (e _ _ h1)), e1, k v F H .id r⟩
  · cases ry
    cases rx with
    | tup h1 r1 =>
      obtain ⟨v, e1, r⟩ := atI_rpA r1 h
      exact .inr (.inl ⟨_, _, _, v, rfl, rfl, same_t e h1, e1, k v F H .id r⟩)
  · cases ry; cases rx
    split at h
    · rename_i z' i' hl
      cases e1 : DL.atI z'.cps.toList i' with
      | none => rw [e1] at h; cases h
      | some c =>
        rw [e1] at h
        cases h
        exact .inr (.inr ⟨_, _, c, rfl, rfl, line_of hl, e1, k _ F H .id (.str _)⟩)
    · cases h
  · cases h
theorem eqV_rp {F : Hp} {x y : V} {a b : PyData} (rx : Rp K F x a) (ry : Rp K F y b) (ha : flatD a = true) (hb : flatD b = true) : eqV x y = PyData.eqv a b := by
  cases rx <;> first | (cases ha; done) | (cases ry <;> first | (cases hb; done) | (simp only [eqV, PyData.eqv]))
theorem flatV_rp {F : Hp} {x : V} {a : PyData} (rx : Rp K F x a) (ha : flatD a = true) : flatV x = true := by
  cases rx <;> first | rfl | (cases ha; done)
theorem inV_rpA {F : Hp} {x : V} {a : PyData} (rx : Rp K F x a) (ha : flatD a = true) : ∀ {vs : List V} {ds : List PyData}, RpA K F vs ds → ds.all flatD = true → inV x vs = ds.any (fun d => PyData.eqv d a) ∧ vs.all flatV = true
  | _, _, .nil, _ => ⟨rfl, rfl⟩
  | v :: vs, d :: ds, .cons h r, hf => by
    rw [List.all_cons, Bool.and_eq_true] at hf
    obtain ⟨i1, i2⟩ := inV_rpA rx ha r hf.2
    refine ⟨?_, ?_⟩
    · show (eqV v x || inV x vs) = _
      rw [List.any_cons, eqV_rp h rx hf.1 ha, i1]
    · rw [List.all_cons, flatV_rp h hf.1, i2]; rfl
theorem rl_inG {neg : Bool} : RL2 K (rIn K neg) (opInS neg) := by
  intro F H x y a b z Q e _ rx ry h k
  unfold opInS at h
  cases hb : items b with
  | none => rw [hb] at h; cases h
  | some ds =>
    rw [hb] at h
    simp only [Option.bind_some] at h
    split at h
    · rename_i hs
      cases h
      rw [Bool.and_eq_true] at hs
      cases ry with
      | lst h1 r1 =>
        cases hb
        obtain ⟨i1, i2⟩ := inV_rpA rx hs.1 r1 hs.2
        refine ⟨_, _, rfl, .inl (.inl (.inl (e _ _ h1))), flatV_rp rx hs.1, i2, ?_⟩
        rw [i1]
        cases neg <;> exact k _ F H .id (.bl _)
      | tup h1 r1 =>
        cases hb
        obtain ⟨i1, i2⟩ := inV_rpA rx hs.1 r1 hs.2
        refine ⟨_, _, rfl, .inr (same_t e h1), flatV_rp rx hs.1, i2, ?_⟩
        rw [i1]
        cases neg <;> exact k _ F H .id (.bl _)
      | _ => cases hb
    · cases h
abbrev rInX (K : PySem.W.Frag) : R2 := fun x y H Q => rIn K false x y H Q ∨ (∃ (c : Nat) (z : Str), x = .str ⟨#[c]⟩ ∧ y = .str z ∧ Q (.bl (decide (c ∈ z.cps.toList))) H)
abbrev rNotInX (K : PySem.W.Frag) : R2 := fun x y H Q => rIn K true x y H Q ∨ (∃ (c : Nat) (z : Str), x = .str ⟨#[c]⟩ ∧ y = .str z ∧ Q (.bl (!decide (c ∈ z.cps.toList))) H)
theorem or_in : OpR X (compareOp .In) (rInX X.K) := opR_or op_in_seq op_in_sign
theorem or_notIn : OpR X (compareOp .NotIn) (rNotInX X.K) := opR_or op_notIn_seq op_notIn_sign
theorem rl_in : RL2 K (rInX K) opIn := by
  intro F H x y a b z Q e f rx ry h k
  unfold opIn at h
  split at h
  · cases rx; cases ry
    rename_i w1 w2
    cases hc : sign? w1 with
    | none => rw [hc] at h; cases h
    | some c =>
      rw [hc] at h
      cases h
      exact .inr ⟨c, w2, by rw [sign_of hc], rfl, k _ F H .id (.bl _)⟩
  · exact .inl (rl_inG F H x y a b z Q e f rx ry h k)
theorem rl_notIn : RL2 K (rNotInX K) opNotIn := by
  intro F H x y a b z Q e f rx ry h k
  unfold opNotIn at h
  split at h
  · cases rx; cases ry
    rename_i w1 w2
    cases hc : sign? w1 with
    | none => rw [hc] at h; cases h
    | some c =>
      rw [hc] at h
      cases h
      exact .inr ⟨c, w2, by rw [sign_of hc], rfl, k _ F H .id (.bl _)⟩
  · exact .inl (rl_inG F H x y a b z Q e f rx ry h k)
end
end DL
namespace DL
open PySem PySem.Spec PyProof.Rows L2
section
variable {K : PySem.W.Frag} {X : Cx} {C : Ct}
theorem rpA1 {F : Hp} {xs : List V} {d : PyData} (r : RpA K F xs [d]) : ∃ x, xs = [x] ∧ Rp K F x d := by
  cases r with
  | cons h t => cases t; exact ⟨_, rfl, h⟩
theorem rpA2 {F : Hp} {xs : List V} {d e : PyData} (r : RpA K F xs [d, e]) : ∃ x y, xs = [x, y] ∧ Rp K F x d ∧ Rp K F y e := by
  cases r with
  | cons h t => obtain ⟨y, rfl, g⟩ := rpA1 t; exact ⟨_, y, rfl, h, g⟩
abbrev rLenX (K : PySem.W.Frag) : List V → Hp → VK → Prop := fun xs H Q => (∃ p ys, xs = [V.ref p] ∧ (SqL K H p ys ∨ SqT K H p ys) ∧ Q (.int ys.length) H) ∨ (∃ z, xs = [V.str z] ∧ z.length ≤ sizeLine ∧ Q (.int z.length) H)
theorem cr_len : CallR X (.builtin "len") (rLenX X.K) := callR_or call_len_seq call_len_str
theorem rc_len : RLC K (rLenX K) bLen := by
  intro F H xs as z Q e _ rx h k
  unfold bLen at h
  split at h
  · obtain ⟨x, rfl, r⟩ := rpA1 rx
    cases h
    cases r with
    | lst h1 r1 =>
      refine .inl ⟨_, _, rfl, .inl (.inl (.inl (e _ _ h1))), ?_⟩
      rw [r1.length]
      exact k _ F H .id (.int _)
  · obtain ⟨x, rfl, r⟩ := rpA1 rx
    cases h
    cases r with
    | tup h1 r1 =>
      refine .inl ⟨_, _, rfl, .inr (same_t e h1), ?_⟩
      rw [r1.length]
      exact k _ F H .id (.int _)
  · obtain ⟨x, rfl, r⟩ := rpA1 rx
    cases r
    split at h
    · rename_i hl
      cases h
      exact .inr ⟨_, rfl, line_of hl, k _ F H .id (.int _)⟩
    · cases h
  · cases h
theorem rc_abs : RLC K (fun xs H Q => ∃ i, xs = [V.int i] ∧ Q (.int (if i < 0 then -i else i)) H) bAbs := by
  intro F H xs as z Q e _ rx h k
  unfold bAbs at h
  split at h
  · obtain ⟨x, rfl, r⟩ := rpA1 rx
    cases h
    cases r
    exact ⟨_, rfl, k _ F H .id (.int _)⟩
  · cases h
theorem rc_max : RLC K (fun xs H Q => ∃ i j, xs = [V.int i, V.int j] ∧ Q (.int (if j > i then j else i)) H) bMax := by
  intro F H xs as z Q e _ rx h k
  unfold bMax at h
  split at h
  · obtain ⟨x, y, rfl, r1, r2⟩ := rpA2 rx
    cases h
    cases r1; cases r2
    exact ⟨_, _, rfl, k _ F H .id (.int _)⟩
  · cases h
theorem rc_min : RLC K (fun xs H Q => ∃ i j, xs = [V.int i, V.int j] ∧ Q (.int (if j < i then j else i)) H) bMin := by
  intro F H xs as z Q e _ rx h k
  unfold bMin at h
  split at h
  · obtain ⟨x, y, rfl, r1, r2⟩ := rpA2 rx
    cases h
    cases r1; cases r2
    exact ⟨_, _, rfl, k _ F H .id (.int _)⟩
  · cases h
theorem cr_int : CallR X (.type "int") (fun xs H Q => ∃ i, xs = [V.int i] ∧ Q (.int i) H) := by
  intro pins s σ H xs us Q I r h
  obtain ⟨i, rfl, q⟩ := h
  obtain ⟨u, rfl, t, rfl⟩ := vals1 r
  exact call_int_int ⟨.int i, H, I, ⟨_, rfl⟩, q⟩
theorem rc_int : RLC K (fun xs H Q => ∃ i, xs = [V.int i] ∧ Q (.int i) H) bInt := by
  intro F H xs as z Q e _ rx h k
  unfold bInt at h
  split at h
  · obtain ⟨x, rfl, r⟩ := rpA1 rx
    cases h
    cases r
    exact ⟨_, rfl, k _ F H .id (.int _)⟩
  · cases h
theorem rc_gcd : RLC K rGcd bGcd := by
  intro F H xs as z Q e _ rx h k
  unfold bGcd at h
  split at h
  · obtain ⟨x, y, rfl, r1, r2⟩ := rpA2 rx
    cases h
    cases r1; cases r2
    exact ⟨_, _, rfl, k _ F H .id (.int _)⟩
  · cases h
theorem bools_rp {F : Hp} : ∀ {ds : List PyData} {vs : List V} {bs : List Bool}, RpA K F vs ds → bools ds = some bs → vs = bs.map V.bl
  | [], _, _, .nil, h => by cases h; rfl
  | .bool b :: r, _, _, .cons h1 h2, h => by
    unfold bools at h
    cases e : bools r with
    | none => rw [e] at h; cases h
    | some bs' =>
      rw [e] at h
      cases h
      cases h1
      rw [bools_rp h2 e]; rfl
  | .none :: _, _, _, _, h => by cases h
  | .int _ :: _, _, _, _, h => by cases h
  | .str _ :: _, _, _, _, h => by cases h
  | .list _ :: _, _, _, _, h => by cases h
  | .tuple _ :: _, _, _, _, h => by cases h
  | .dict _ :: _, _, _, _, h => by cases h
theorem rc_all : RLC K (rAll K) bAll := by
  intro F H xs as z Q e _ rx h k
  unfold bAll at h
  split at h
  · obtain ⟨x, rfl, r⟩ := rpA1 rx
    rename_i ds
    cases eb : bools ds with
    | none => rw [eb] at h; cases h
    | some bs =>
      rw [eb] at h
      cases h
      cases r with
      | lst h1 r1 =>
        have := bools_rp r1 eb
        subst this
        exact ⟨_, bs, rfl, .inl (.inl (e _ _ h1)), k _ F H .id (.bl _)⟩
  · cases h
theorem rc_any : RLC K (rAny K) bAny := by
  intro F H xs as z Q e _ rx h k
  unfold bAny at h
  split at h
  · obtain ⟨x, rfl, r⟩ := rpA1 rx
    rename_i ds
    cases eb : bools ds with
    | none => rw [eb] at h; cases h
    | some bs =>
      rw [eb] at h
      cases h
      cases r with
      | lst h1 r1 =>
        have := bools_rp r1 eb
        subst this
        exact ⟨_, bs, rfl, .inl (.inl (e _ _ h1)), k _ F H .id (.bl _)⟩
  · cases h
theorem rc_list : RLC K (fun xs H Q => ∃ p ys, xs = [V.ref p] ∧ (SqL K H p ys ∨ SqT K H p ys) ∧ ∀ l, H l = none → Q (.ref l) (upd H l (.lst ys))) bList := by
  intro F H xs as z Q e f rx h k
  unfold bList at h
  split at h
  · obtain ⟨x, rfl, r⟩ := rpA1 rx
    cases h
    cases r with
    | lst h1 r1 => exact ⟨_, _, rfl, .inl (.inl (.inl (e _ _ h1))), fun l hl => k _ _ _ (.new hl) (.lst upd_same (r1.mono (same_new (f l hl))))⟩
  · obtain ⟨x, rfl, r⟩ := rpA1 rx
    cases h
    cases r with
    | tup h1 r1 => exact ⟨_, _, rfl, .inr (same_t e h1), fun l hl => k _ _ _ (.new hl) (.lst upd_same (r1.mono (same_new (f l hl))))⟩
  · cases h
theorem pd_gcd {x : Str} {p pos : Pos} {e : Expr} {es : List Expr} {ma : MA} (hm : X.mg x = some (.builtin "math.gcd")) (ha : PA X (e :: es) (tDA X.K C ma)) (hg : Gl X x := by rfl) (hdb : (x == ("__debug__" : Str)) = false := by decide)
    (he : starEach (e :: es) X.env = (false, eval e X.env) :: starEach es X.env := by rfl) (hpl : (backTo pos (starEach es X.env)).any (·.1) = false := by rfl) : PE X (.Call (.Name x p) (e :: es) [] pos) (tD X.K C (mCallB bGcd ma)) :=
  pe_imp (pe_callBfun cr_gcd hg hm ha hdb he hpl) (td_cb rc_gcd)
theorem kMeta (k : Ki) : bootBuiltins (Str.ofString (kName k)) = some (.type (kName k)) := by cases k <;> decide +kernel
def tyD : PyData → String
  | .none => "NoneType" | .bool _ => "bool" | .int _ => "int" | .str _ => "str" | .list _ => "list" | .tuple _ => "tuple" | .dict _ => "dict"
theorem kit_d (k : Ki) (d : PyData) (h : ∀ x y, d ≠ .dict ((.none, x) :: y)) : PySem.W.kitOne K (.type (tyD d)) (.type (kName k)) = some (isK k d) := by
  cases d with
  | dict es =>
    have e : isK k (.dict es) = isK k (.dict []) := by
      cases k <;> try rfl
      cases es with
      | nil => rfl
      | cons p r =>
        obtain ⟨a, b⟩ := p
        cases a <;> first | rfl | exact absurd rfl (h _ _)
    rw [e]
    cases k <;> first | exact kit_ty (r := true) (by simp only [tyD, kName]; decide +kernel) | exact kit_ty (r := false) (by simp only [tyD, kName]; decide +kernel)
  | _ => cases k <;> first | exact kit_ty (r := true) (by simp only [tyD, kName]; decide +kernel) | exact kit_ty (r := false) (by simp only [tyD, kName]; decide +kernel)
theorem rpD_key {F : Hp} {kvs : List (Key × V)} {es : List (PyData × PyData)} {x : PyData} {y : List (PyData × PyData)} (r : RpD K F kvs es) (z : es = (.none, x) :: y) : False := by
  cases r with
  | nil => cases z
  | @cons k' _ _ _ _ _ _ =>
    have := congrArg Prod.fst (List.cons.inj z).1
    cases k' <;> cases this
/-- a value's type, and what isinstance says of it -/
theorem ty_rp {F H : Hp} {x : V} {d : PyData} (e : Same F H) (r : Rp K F x d) : ∃ t, TyX K H x t ∧ ∀ k : Ki, PySem.W.kitOne K t (.type (kName k)) = some (isK k d) := by
  cases r with
  | non => exact ⟨_, .base .non, fun k => kit_d k .none (fun _ _ => nofun)⟩
  | bl b => exact ⟨_, .base (.bl b), fun k => kit_d k (.bool b) (fun _ _ => nofun)⟩
  | int i => exact ⟨_, .base (.int i), fun k => kit_d k (.int i) (fun _ _ => nofun)⟩
  | str z => exact ⟨_, .base (.str z), fun k => kit_d k (.str z) (fun _ _ => nofun)⟩
  | lst h _ => exact ⟨_, .base (.lst (e _ _ h)), fun k => kit_d k (.list _) (fun _ _ => nofun)⟩
  | tup h _ =>
    rcases h with (h | ⟨o, h⟩) | ⟨o, its, n, h, c, _⟩
    · exact ⟨_, .base (.tup (e _ _ h)), fun k => kit_d k (.tuple _) (fun _ _ => nofun)⟩
    · exact ⟨_, .fTuple (e _ _ h), fun k => kit_d k (.tuple _) (fun _ _ => nofun)⟩
    · exact ⟨_, .kTuple h c, fun k => kit_d k (.tuple _) (fun _ _ => nofun)⟩
  | dct h rd => exact ⟨_, .base (.dK (e _ _ h)), fun k => kit_d k (.dict _) (fun x y z => by
      have z := PyData.dict.inj z
      exact rpD_key rd z)⟩
  | ins h o _ => exact ⟨_, .base (.ins (e _ _ h) o.cl o.ha o.hn o.htk o.hm), fun k => (o.kit k).trans (by cases k <;> rfl)⟩
theorem kitAny_d (d : PyData) {t : Value} (ht : ∀ k : Ki, PySem.W.kitOne K t (.type (kName k)) = some (isK k d)) : ∀ ks : List Ki, PySem.W.kitAny K t (ks.map fun k => .type (kName k)) = some (ks.any fun k => isK k d)
  | [] => kitAny_nil
  | k :: ks => by
    refine kitAny_cons (ht k) (fun h => ?_) (fun h => ?_)
    · rw [List.any_cons, h, Bool.false_or]; exact kitAny_d d ht ks
    · rw [List.any_cons, h, Bool.true_or]
theorem pd_isi1 {p p2 pos : Pos} {e : Expr} {m : ME} {T : Str} (k : Ki) (hm : X.mg "isinstance" = none) (hT : X.mg T = none) (he : PE X e (tD X.K C m)) (hv : bootBuiltins T = some (.type (kName k)) := by decide +kernel)
    (hgI : Gl X "isinstance" := by rfl) (hgT : Gl X T := by rfl) (hn : T ≠ "__name__" := by decide) (hdb : (T == ("__debug__" : Str)) = false := by decide) (hpl : (backTo pos (starEach [.Name T p2] X.env)).any (·.1) = false := by rfl)
    (hs : starEach (e :: [.Name T p2]) X.env = (false, eval e X.env) :: starEach [.Name T p2] X.env := by rfl) :
    PE X (.Call (.Name "isinstance" p) [e, .Name T p2] [] pos) (tD X.K C (mOp1 (bIsi [k]) m)) :=
  pe_imp (pe_callB call_isi hgI hm (by decide +kernel) (pa_cons he (pa_cons (pe_bltn (v := .ty (kName k)) hgT hT hv rfl hn hdb) pa_nil) hs) (by decide) (by decide) hs hpl) (by
    rintro σ H Q ⟨F, sd, Qd, R, h, kk⟩
    refine ⟨F, sd, _, R, h, fun x H1 F1 a sd1 R1 S1 rx h1 => ?_⟩
    obtain ⟨z, ez, q⟩ := h1
    cases ez
    obtain ⟨t, t1, t2⟩ := ty_rp R1.ext rx
    refine ⟨x, .ty (kName k), t, .type (kName k), [k].any fun k => isK k a, rfl, .ty _, t1, ?_, kk (.bl _) H1 F1 _ sd1 R1 S1 (.bl _) q⟩
    rw [t2]
    show some (isK k a) = some (isK k a || false)
    rw [Bool.or_false])
theorem vals_ki : ∀ ks : List Ki, Paired ClsV (ks.map fun k => V.ty (kName k)) (ks.map fun k => Value.type (kName k))
  | [] => .nil
  | _ :: ks => .cons (.ty _) (vals_ki ks)
/-- isinstance(x, (T1, T2, ..)) -/
theorem pd_isiT {p pos : Pos} {e tupE : Expr} {m : ME} (ks : List Ki) (hm : X.mg "isinstance" = none) (he : PE X e (tD X.K C m)) (ht : PE X tupE (fun σ H Q => ∀ q, H q = none → Q (.ref q) (upd H q (.tup (ks.map fun k => V.ty (kName k))))))
    (hgI : Gl X "isinstance" := by rfl) (hpl : (backTo pos (starEach [tupE] X.env)).any (·.1) = false := by rfl)
    (hs : starEach (e :: [tupE]) X.env = (false, eval e X.env) :: starEach [tupE] X.env := by rfl) (hs2 : starEach (tupE :: []) X.env = (false, eval tupE X.env) :: starEach [] X.env := by rfl) :
    PE X (.Call (.Name "isinstance" p) [e, tupE] [] pos) (tD X.K C (mOp1 (bIsi ks) m)) :=
  pe_imp (pe_callB call_isiT hgI hm (by decide +kernel) (pa_cons he (pa_cons ht pa_nil hs2) hs) (by decide) (by decide) hs hpl) (by
    rintro σ H Q ⟨F, sd, Qd, R, h, kk⟩
    refine ⟨F, sd, _, R, h, fun x H1 F1 a sd1 R1 S1 rx h1 => fun q hq => ?_⟩
    obtain ⟨z, ez, qq⟩ := h1
    cases ez
    have R2 := R1.allocH (o := .tup (ks.map fun k => V.ty (kName k))) hq
    obtain ⟨t, t1, t2⟩ := ty_rp (fun b o e => same_new hq b o (R1.ext b o e)) rx
    refine ⟨x, q, _, t, _, _, rfl, upd_same, vals_ki ks, t1, kitAny_d a t2 ks, ?_⟩
    refine kk (.bl _) _ F1 _ sd1 R2 (S1.trans ⟨Same.refl _, fun b o e _ => same_new hq b o e, fun _ z => z, fun _ _ z => .inl z, fun b e => ?_⟩) (.bl _) qq
    by_cases zb : b = q
    · subst zb; exact hq
    · rw [upd_ne zb] at e; exact e)
theorem pe_types {es : List Expr} {x1} {pos : Pos} {vs : List V} (h : PA X es (fun _ H Q => Q vs H)) (hl : vs.length ≤ 100) : PE X (.Tuple es x1 pos) (fun σ H Q => ∀ q, H q = none → Q (.ref q) (upd H q (.tup vs))) :=
  pe_imp (pe_tup h) fun σ H Q q => ⟨Nat.le_trans hl (by decide), q⟩
theorem pa_types {es : List Expr} {T : Str} {p2 : Pos} {vs : List V} (k : Ki) (hT : X.mg T = none) (h : PA X es (fun _ H Q => Q vs H)) (hv : bootBuiltins T = some (.type (kName k)) := by decide +kernel) (hgT : Gl X T := by rfl) (hn : T ≠ "__name__" := by decide)
    (hdb : (T == ("__debug__" : Str)) = false := by decide) (hs : starEach (.Name T p2 :: es) X.env = (false, eval (.Name T p2) X.env) :: starEach es X.env := by rfl) : PA X (.Name T p2 :: es) (fun _ H Q => Q (V.ty (kName k) :: vs) H) :=
  pa_imp (pa_cons (pe_bltn (v := .ty (kName k)) hgT hT hv rfl hn hdb) h hs) fun σ H Q q => q
theorem pa_types0 : PA X [] (fun _ H Q => Q [] H) := pa_imp pa_nil fun σ H Q q => q
theorem cut_rpA {F : Hp} {vs : List V} {ds : List PyData} (r : RpA K F vs ds) (lo hi : Option Int) : RpA K F (cutV vs lo hi) (cutL ds lo hi) := by
  have e : ∀ o n d, HT.sIx n d o = DL.sIx n d o := fun o n d => by cases o <;> rfl
  unfold cutV cutL
  rw [r.length, e, e]
  exact (r.drop _).take _
abbrev rSlX (K : PySem.W.Frag) : V → Option Int → Option Int → Hp → VK → Prop := fun x lo hi H Q => (rSlL K x lo hi H Q ∨ rSlA K x lo hi H Q) ∨ rSlS x lo hi H Q
theorem sl_any : SlR X (rSlX X.K) := slR_or (slR_or sl_list sl_tupA) sl_str
theorem whole_cut {α : Type} (xs : List α) (lo hi : Option Int) (h : DL.sIx xs.length 0 lo = 0 ∧ DL.sIx xs.length xs.length hi = xs.length) : cutL xs lo hi = xs := by
  unfold cutL
  rw [h.1, h.2]
  simp
theorem rl_sl : ∀ (F H : Hp) (x : V) (a z : PyData) (lo hi : Option Int) (Q : VK), Same F H → (∀ p, H p = none → F p = none) → Rp K F x a → opSl a lo hi = some z → (∀ v F' H', Al F H F' H' → Rp K F' v z → Q v H') → rSlX K x lo hi H Q := by
  intro F H x a z lo hi Q e f rx h k
  have es : ∀ o n d, HT.sIx n d o = DL.sIx n d o := fun o n d => by cases o <;> rfl
  unfold opSl at h
  split at h
  · cases h
    cases rx with
    | lst h1 r1 => exact .inl (.inl ⟨_, _, rfl, .inl (.inl (e _ _ h1)), fun p hp => k _ _ _ (.new hp) (.lst upd_same ((cut_rpA r1 lo hi).mono (same_new (f p hp))))⟩)
  · cases h
    cases rx with
    | @tup a' xs ds h1 r1 =>
      refine .inl (.inr ⟨_, _, rfl, same_t e h1, fun hw => ?_, fun _ p hp => k _ _ _ (.new hp) (.tup (.inl (.inl upd_same)) ((cut_rpA r1 lo hi).mono (same_new (f p hp))))⟩)
      rw [r1.length, es, es] at hw
      rw [whole_cut _ lo hi hw] at k
      exact k _ F H .id (.tup h1 r1)
  · split at h
    · rename_i z' hl
      cases h
      cases rx
      refine .inr ⟨_, rfl, line_of hl, ?_⟩
      have : cutS z' lo hi = ⟨(cutL z'.cps.toList lo hi).toArray⟩ := by
        unfold cutS cutL
        rw [es, es]
        have : z'.cps.toList.length = z'.length := by simp [Str.length]
        rw [this]
      rw [this]
      exact k _ F H .id (.str _)
    · cases h
  · cases h
theorem hpart {me : ME} : ∀ σ H Q F sd Qd, Rs K C F H σ sd → mPart me sd Qd → (∀ o H' F' sd', Rs K C F' H' σ sd' → Stp σ sd F H F' H' sd' → Qd o sd' → Q o H') → tPart (tD K C me) σ H Q := by
  intro σ H Q F sd Qd R h k
  refine ⟨F, sd, _, R, h, fun v H' F' d sd' R' S r q => ?_⟩
  obtain ⟨i, rfl, q⟩ := q
  cases r
  exact ⟨i, rfl, k (some i) H' F' sd' R' S q⟩
theorem hnopart : ∀ σ H Q F sd Qd, Rs K C F H σ sd → mNoPart sd Qd → (∀ o H' F' sd', Rs K C F' H' σ sd' → Stp σ sd F H F' H' sd' → Qd o sd' → Q o H') → tNoPart σ H Q :=
  fun σ H Q F sd Qd R h k => k none H F sd R .refl h
/-- x[a:b] -/
theorem pd_sl2 {e lo hi : Expr} {p2 pos : Pos} {me ml mh : ME} (he : PE X e (tD X.K C me)) (hl : PE X lo (tD X.K C ml)) (hh : PE X hi (tD X.K C mh)) : PE X (.Subscript e (.Slice (some lo) (some hi) none p2) pos) (tD X.K C (mSl opSl me (mPart ml) (mPart mh))) :=
  pd_slice rl_sl hpart hpart (pe_slice sl_any he (po_some hl) (po_some hh))
theorem pd_slA {e lo : Expr} {p2 pos : Pos} {me ml : ME} (he : PE X e (tD X.K C me)) (hl : PE X lo (tD X.K C ml)) : PE X (.Subscript e (.Slice (some lo) none none p2) pos) (tD X.K C (mSl opSl me (mPart ml) mNoPart)) :=
  pd_slice rl_sl hpart hnopart (pe_slice sl_any he (po_some hl) po_none)
theorem pd_slB {e hi : Expr} {p2 pos : Pos} {me mh : ME} (he : PE X e (tD X.K C me)) (hh : PE X hi (tD X.K C mh)) : PE X (.Subscript e (.Slice none (some hi) none p2) pos) (tD X.K C (mSl opSl me mNoPart (mPart mh))) :=
  pd_slice rl_sl hnopart hpart (pe_slice sl_any he po_none (po_some hh))
end
end DL
namespace DL
open PySem PySem.Spec PyProof.Rows L2
section
variable {K : PySem.W.Frag} {X : Cx} {C : Ct}
theorem pdg_name {i : Nat} {x : Str} {pos : Pos} (hN : X.N.Nodup) (hi : X.N[i]? = some x) (hx : Loc X.env.scope x) (hf : X.fn x = true ∨ X.env.scope.names.lookup x = some .local := by first | exact .inl rfl | exact .inr rfl) :
    PG X (.Name x pos) (tDG X.K C (mgName i)) := pg_imp (pg_name hN hi hx hf) (by
  rintro v σ H Q ⟨F, sd, d, Qd, R, r, h, k⟩
  exact k _ _ (R.setva r) h)
theorem pdgs_nil : PGs X [] (tDGs X.K C mgNil) := pgs_imp pgs_nil (by
  rintro v σ H Q ⟨F, sd, ds, Qd, R, r, h, k⟩
  obtain ⟨e, h⟩ := h
  subst e
  cases r
  exact ⟨rfl, k _ _ R h⟩)
theorem pdgs_cons {e : Expr} {es : List Expr} {g : MG} {gs : MGs} (h1 : PG X e (tDG X.K C g)) (h2 : PGs X es (tDGs X.K C gs)) (t : PGs X (e :: es) (gCons (tDG X.K C g) (tDGs X.K C gs))) : PGs X (e :: es) (tDGs X.K C (mgCons g gs)) := pgs_imp t (by
  rintro v σ H Q ⟨F, sd, ds, Qd, R, r, h, k⟩
  obtain ⟨d, rest, e, h⟩ := h
  subst e
  cases r with
  | cons r1 r2 => exact ⟨_, _, rfl, F, sd, d, _, R, r1, h, fun σ' sd' R' q => ⟨F, sd', rest, Qd, R', r2, q, k⟩⟩)
theorem td_tup {n : Nat} {gs : MGs} : ∀ v σ H Q, tDG K C (mgTup n gs) v σ H Q → (gTup K n (tDGs K C gs) v σ H Q ∨ gLst K n (tDGs K C gs) v σ H Q) := by
  rintro v σ H Q ⟨F, sd, d, Qd, R, r, h, k⟩
  obtain ⟨ds, hd, hl, h⟩ := h
  cases r with
  | tup h1 r1 =>
    cases hd
    exact .inl ⟨_, _, rfl, same_t R.ext h1, by rw [r1.length]; exact hl, F, sd, _, Qd, R, r1, h, k⟩
  | lst h1 r1 =>
    cases hd
    exact .inr ⟨_, _, rfl, .inl (.inl (R.ext _ _ h1)), by rw [r1.length]; exact hl, F, sd, _, Qd, R, r1, h, k⟩
  | _ => cases hd
theorem pdg_tup {es : List Expr} {kk : Nat} {pos : Pos} {gs : MGs} {n : Nat} (hc : X.calm = true) (h : PGs X es (tDGs X.K C gs)) (hn : (assignEach es X.env).length = n := by rfl) (hst : (assignEach es X.env).findIdx? (·.1) = none := by rfl) :
    PG X (.Tuple es kk pos) (tDG X.K C (mgTup n gs)) := pg_imp (pg_or (pg_tup hc h hn hst) (pg_lst hc h hn hst)) td_tup
theorem rpA_at {F : Hp} {vs : List V} {ds : List PyData} {i : Nat} {x : V} (r : RpA K F vs ds) (h : vs[i]? = some x) : ∃ d, ds[i]? = some d ∧ Rp K F x d := by
  have hl := (List.getElem?_eq_some_iff.mp h).1
  rw [r.length] at hl
  obtain ⟨v, e, q⟩ := r.get (i := i) (d := ds[i]) (by simp [hl])
  rw [h] at e; cases e
  exact ⟨_, by simp [hl], q⟩
theorem wk_list {a : Addr} {xs : List V} {F : Hp} {ds : List PyData} (h : SqL K F a xs) (r : RpA K F xs ds) : Wk K (Itl K a) F ds := by
  refine ⟨_, _, r.length ▸ walk_list, fun H e => e.seq h, fun i H x H' F' hi e1 e2 y => ?_⟩
  obtain ⟨rfl, y⟩ := y
  obtain ⟨d, hd, q⟩ := rpA_at r y
  exact ⟨F', d, .id, hd, q.mono e1⟩
theorem wk_tup {a : Addr} {xs : List V} {F : Hp} {ds : List PyData} (h : SqT K F a xs) (r : RpA K F xs ds) : Wk K (Itt K a) F ds := by
  refine ⟨_, _, r.length ▸ walk_tup, fun H e => same_t e h, fun i H x H' F' hi e1 e2 y => ?_⟩
  obtain ⟨rfl, y⟩ := y
  obtain ⟨d, hd, q⟩ := rpA_at r y
  exact ⟨F', d, .id, hd, q.mono e1⟩
theorem pi_or {tg e : Expr} {t t' : TI} (h : PI X tg e t) (h' : PI X tg e t') : PI X tg e (fun σ H R => t σ H R ∨ t' σ H R) :=
  ⟨fun pins s σ H R I q => q.elim (h.run pins s σ H R I) (h'.run pins s σ H R I)⟩
/-- over a value that is a list or a tuple: the reading chooses when the value is there -/
def iSeq (K : PySem.W.Frag) (te : TE) : TI := fun σ H R => te σ H fun x H1 => ∃ a, x = .ref a ∧ (((∃ xs, SqL K H1 a xs) ∧ R (Itl K a) H1) ∨ ((∃ xs, SqT K H1 a xs) ∧ R (Itt K a) H1))
theorem pi_seq {tg l : Expr} {tl : TE} (hl : PE X l tl) : PI X tg l (iSeq X.K tl) := by
  refine ⟨fun pins s σ H R I h => thn (hl.run pins s σ H _ I h) fun v s1 hv => ?_⟩
  obtain ⟨x, H1, I1, r1, a, rfl, hq⟩ := hv
  cases r1
  have fresh : FpOk X pins H1 s1.heap.objs.size := I1.fpOk (Nat.le_refl _) (I1.hok.fresh (Nat.le_refl _))
  rcases hq with ⟨⟨xs, hq⟩, q⟩ | ⟨⟨xs, hq⟩, q⟩
  · obtain ⟨its, rv, p, hz⟩ := I1.list hq
    refine wpAny_pyIter_list p.isList ⟨_, [s1.heap.objs.size], _, _, H1, rfl, I1.kept (t' := s1.toks) fun _ _ e => Heap.get?_push_of_some _ e, turn_list a _, ?_, fun b hb => ?_, q⟩
    · exact ⟨_, Heap.get?_push_size _ rfl, rfl, rfl⟩
    · rw [List.mem_singleton.mp hb]; exact fresh
  · obtain ⟨its, rv, p, hz⟩ := I1.tuple hq
    refine wpAny_pyIter_tuple (show s1.heap.IsTuple a its.toArray from p) ⟨_, [s1.heap.objs.size], _, _, H1, rfl, I1.kept (t' := s1.toks) fun _ _ e => Heap.get?_push_of_some _ e, turn_tuple a _, ?_, fun b hb => ?_, q⟩
    · exact ⟨_, Heap.get?_push_size _ rfl, rfl, rfl⟩
    · rw [List.mem_singleton.mp hb]; exact fresh
theorem pdi_seq {tg e : Expr} {m : ME} (h : PE X e (tD X.K C m)) : PI X tg e (tDI X.K C (miSeq m)) := pi_imp (pi_seq h) (by
  rintro σ H R0 ⟨F, sd, Qd, R, h, k⟩
  refine ⟨F, sd, _, R, h, fun x H1 F1 a sd1 R1 S1 rx h1 => ?_⟩
  obtain ⟨ds, hd, q⟩ := h1
  cases rx with
  | tup h2 r2 => cases hd; exact ⟨_, rfl, .inr ⟨⟨_, same_t R1.ext h2⟩, k _ H1 F1 _ sd1 R1 S1 (wk_tup h2 r2) q⟩⟩
  | lst h2 r2 => cases hd; exact ⟨_, rfl, .inl ⟨⟨_, .inl (.inl (R1.ext _ _ h2))⟩, k _ H1 F1 _ sd1 R1 S1 (wk_list (.inl (.inl h2)) r2) q⟩⟩
  | _ => cases hd)
theorem wk_range {F : Hp} {lo : Int} {n : Nat} : Wk K (Itr lo n) F (rangeL lo n) := by
  have hl : (rangeL lo n).length = n := by simp [rangeL]
  refine ⟨fun _ => True, YFn fun i => .int (lo + i), by rw [hl]; exact walk_range, fun _ _ => trivial, fun i H x H' F' hi e1 e2 y => ?_⟩
  obtain ⟨rfl, rfl⟩ := y
  refine ⟨F', _, .id, ?_, .int _⟩
  unfold rangeL
  rw [List.getElem?_map, List.getElem?_range (by rw [hl] at hi; exact hi)]
  rfl
theorem pdi_range1 {tg a : Expr} {p pos : Pos} {m : MA} (hm : X.mg "range" = none) (h : PA X [a] (tDA X.K C m)) (hg : Gl X "range" := by rfl) (t : PI X tg (.Call (.Name "range" p) [a] [] pos) (iRng1 (tDA X.K C m))) : PI X tg (.Call (.Name "range" p) [a] [] pos) (tDI X.K C (miRng1 m)) := pi_imp t (by
  rintro σ H R0 ⟨F, sd, Qd, R, h, k⟩
  refine ⟨F, sd, _, R, h, fun vs H1 F1 ds sd1 R1 S1 rs q => ?_⟩
  obtain ⟨j, rfl, l1, l2, q⟩ := q
  obtain ⟨x, rfl, r⟩ := rpA1 rs
  cases r
  exact ⟨j, rfl, l1, l2, k _ H1 F1 _ sd1 R1 S1 wk_range q⟩)
theorem pdi_range2 {tg a b : Expr} {p pos : Pos} {m : MA} (hm : X.mg "range" = none) (h : PA X [a, b] (tDA X.K C m)) (hg : Gl X "range" := by rfl) (t : PI X tg (.Call (.Name "range" p) [a, b] [] pos) (iRng2 (tDA X.K C m))) : PI X tg (.Call (.Name "range" p) [a, b] [] pos) (tDI X.K C (miRng2 m)) := pi_imp t (by
  rintro σ H R0 ⟨F, sd, Qd, R, h, k⟩
  refine ⟨F, sd, _, R, h, fun vs H1 F1 ds sd1 R1 S1 rs q => ?_⟩
  obtain ⟨i, j, rfl, l, q⟩ := q
  obtain ⟨x, y, rfl, r, r'⟩ := rpA2 rs
  cases r; cases r'
  exact ⟨i, j, rfl, l, k _ H1 F1 _ sd1 R1 S1 wk_range q⟩)
theorem pdi_str {tg e : Expr} {m : ME} (h : PE X e (tD X.K C m)) : PI X tg e (tDI X.K C (miStr m)) := pi_imp (pi_str h) (by
  rintro σ H R0 ⟨F, sd, Qd, R, h, k⟩
  refine ⟨F, sd, _, R, h, fun x H1 F1 a sd1 R1 S1 rx h1 => ?_⟩
  obtain ⟨z, rfl, q⟩ := h1
  cases rx
  refine ⟨z, rfl, k _ H1 F1 _ sd1 R1 S1 ?_ q⟩
  have hl : (signsD z).length = z.cps.size := by simp [signsD]
  refine ⟨fun _ => True, fun i H v H' => H' = H ∧ ∃ c, z.cps[i]? = some c ∧ v = .str ⟨#[c]⟩, by rw [hl]; exact walk_str, fun _ _ => trivial, fun i H x H' F' hi e1 e2 y => ?_⟩
  obtain ⟨rfl, c, hc, rfl⟩ := y
  refine ⟨F', _, .id, ?_, .str _⟩
  unfold signsD
  rw [List.getElem?_map, Array.getElem?_toList, hc]
  rfl)
theorem enumL_get : ∀ (ds : List PyData) (k i : Nat), (enumL k ds)[i]? = ds[i]?.map fun d => .tuple [.int ((k + i : Nat) : Int), d]
  | [], _, _ => rfl
  | d :: ds, k, 0 => rfl
  | d :: ds, k, i + 1 => by
    show (enumL (k + 1) ds)[i]? = _
    rw [enumL_get ds (k + 1) i, show k + 1 + i = k + (i + 1) by omega]
    rfl
theorem pair_al {F H H' : Hp} {T : Addr} {x y : V} {d e : PyData} (hT : H T = none) (e2 : Same F H) (hH : H' = upd H T (.tup [x, y])) (r1 : Rp K F x d) (r2 : Rp K F y e) : ∃ F', Al F H F' H' ∧ Rp K F' (.ref T) (.tuple [d, e]) := by
  subst hH
  have s := same_new (o := .tup [x, y]) (free_of e2 hT)
  exact ⟨_, .new hT, .tup (.inl (.inl upd_same)) (.cons (r1.mono s) (.cons (r2.mono s) .nil))⟩
theorem pdi_enum {elts : List Expr} {kk : Nat} {tpos : Pos} {e : Expr} {p pos : Pos} {m : MA} (t : PI X (.Tuple elts kk tpos) (.Call (.Name "enumerate" p) [e] [] pos) (iEnum X.K (tDA X.K C m))) :
    PI X (.Tuple elts kk tpos) (.Call (.Name "enumerate" p) [e] [] pos) (tDI X.K C (miEnum m)) := pi_imp t (by
  rintro σ H R0 ⟨F, sd, Qd, R, h, k⟩
  refine ⟨F, sd, _, R, h, fun vs H1 F1 ds sd1 R1 S1 rs q => ?_⟩
  obtain ⟨xs, rfl, q⟩ := q
  obtain ⟨x, rfl, r⟩ := rpA1 rs
  cases r with
  | @lst a ys _ h2 r2 =>
    refine ⟨_, _, rfl, .inl (.inl (R1.ext _ _ h2)), k _ H1 F1 _ sd1 R1 S1 ?_ q⟩
    have hl : (enumL 0 xs).length = ys.length := by
      rw [r2.length]
      have : ∀ (l : List PyData) n, (enumL n l).length = l.length := fun l => by
        induction l with
        | nil => intro _; rfl
        | cons d l ih => intro n; simp [enumL, ih]
      exact this xs 0
    refine ⟨fun H => SqL X.K H a ys, YPair (fun i => some (.int (i : Nat))) (fun i => ys[i]?), by rw [hl]; exact walk_enum, fun H e => .inl (.inl (e _ _ h2)), fun i H x H' F' hi e1 e2 y => ?_⟩
    obtain ⟨T, x1, x2, rfl, hT, hH, y1, y2⟩ := y
    cases y1
    obtain ⟨d, hd, rd⟩ := rpA_at r2 y2
    obtain ⟨F2, al, rr⟩ := pair_al hT e2 hH (.int (i : Int)) (rd.mono e1)
    refine ⟨F2, _, al, ?_, rr⟩
    rw [enumL_get, hd]
    simp)
theorem zipL_get : ∀ (xs ys : List PyData) (i : Nat) {x y : PyData}, xs[i]? = some x → ys[i]? = some y → (zipL xs ys)[i]? = some (.tuple [x, y])
  | x :: xs, y :: ys, 0, _, _, h1, h2 => by cases h1; cases h2; rfl
  | x :: xs, y :: ys, i + 1, _, _, h1, h2 => zipL_get xs ys i h1 h2
  | [], _, _, _, _, h1, _ => by simp at h1
  | _ :: _, [], _, _, _, _, h2 => by simp at h2
theorem zipL_len : ∀ (xs ys : List PyData), (zipL xs ys).length = min xs.length ys.length
  | x :: xs, y :: ys => by simp [zipL, zipL_len xs ys]
  | [], _ => by simp [zipL]
  | _ :: _, [] => by simp [zipL]
theorem walk_zipT {a b : Addr} {xs ys : List V} : Walk (RZ.ItzT K a b) (min xs.length ys.length) (fun H => SqT K H a xs ∧ SqT K H b ys) (YPair (fun i => xs[i]?) (fun i => ys[i]?)) := by
  refine ⟨fun i _ hi q => ?_, fun _ q => ⟨xs, ys, q.1, q.2, by omega⟩, fun i H v H' _ q y => ?_⟩
  · exact ⟨xs, ys, xs[i]'(by omega), ys[i]'(by omega), q.1, q.2, by simp [show i < xs.length by omega], by simp [show i < ys.length by omega]⟩
  · obtain ⟨T, x, z, h1, h2, h3, h4, h5⟩ := y
    exact ⟨T, x, z, h1, h2, h3, h4 xs q.1, h5 ys q.2⟩
theorem wk_pairs {J : It} {F : Hp} {xs ys : List V} {ds es : List PyData} {G : Hp → Prop} (hG : ∀ H, Same F H → G H) (w : Walk J (min xs.length ys.length) G (YPair (fun i => xs[i]?) (fun i => ys[i]?))) (r1 : RpA K F xs ds) (r2 : RpA K F ys es) : Wk K J F (zipL ds es) := by
  have hl : (zipL ds es).length = min xs.length ys.length := by rw [zipL_len, r1.length, r2.length]
  refine ⟨G, YPair (fun i => xs[i]?) (fun i => ys[i]?), by rw [hl]; exact w, hG, fun i H x H' F' hi e1 e2 y => ?_⟩
  obtain ⟨T, x1, x2, rfl, hT, hH, y1, y2⟩ := y
  obtain ⟨d, hd, rd⟩ := rpA_at r1 y1
  obtain ⟨e, he, re⟩ := rpA_at r2 y2
  obtain ⟨F2, al, rr⟩ := pair_al hT e2 hH (rd.mono e1) (re.mono e1)
  exact ⟨F2, _, al, zipL_get ds es i hd he, rr⟩
theorem pdi_zip {elts : List Expr} {kk : Nat} {tpos : Pos} {e e2 : Expr} {p pos : Pos} {m : MA} (t : PI X (.Tuple elts kk tpos) (.Call (.Name "zip" p) [e, e2] [] pos) (RZ.iZipA X.K (tDA X.K C m))) :
    PI X (.Tuple elts kk tpos) (.Call (.Name "zip" p) [e, e2] [] pos) (tDI X.K C (miZip m)) := pi_imp t (by
  rintro σ H R0 ⟨F, sd, Qd, R, h, k⟩
  refine ⟨F, sd, _, R, h, fun vs H1 F1 ds sd1 R1 S1 rs q => ?_⟩
  obtain ⟨xs, ys, hd, q⟩ := q
  rcases hd with rfl | rfl
  · obtain ⟨x, y, rfl, r, r'⟩ := rpA2 rs
    cases r with
    | lst h2 r2 =>
      cases r' with
      | lst h3 r3 => exact ⟨_, _, _, _, rfl, .inl ⟨.inl (.inl (R1.ext _ _ h2)), .inl (.inl (R1.ext _ _ h3)), k _ H1 F1 _ sd1 R1 S1 (wk_pairs (fun H e => ⟨.inl (.inl (e _ _ h2)), .inl (.inl (e _ _ h3))⟩) (walk_zip rfl) r2 r3) q⟩⟩
  · obtain ⟨x, y, rfl, r, r'⟩ := rpA2 rs
    cases r with
    | tup h2 r2 =>
      cases r' with
      | tup h3 r3 => exact ⟨_, _, _, _, rfl, .inr ⟨same_t R1.ext h2, same_t R1.ext h3, k _ H1 F1 _ sd1 R1 S1 (wk_pairs (fun H e => ⟨same_t e h2, same_t e h3⟩) walk_zipT r2 r3) q⟩⟩)
theorem pds_nil : PSs X [] (tDS X.K C mNext) := pss_imp pss_nil (by
  rintro D σ H ⟨F, sd, Dd, R, E, h⟩
  exact E.nx F H σ sd (Same.refl _) R h)
theorem pds_cons {st : Stmt} {rest : List Stmt} {a b : MS} (h1 : PS X st (tDS X.K C a)) (h2 : PSs X rest (tDS X.K C b)) : PSs X (st :: rest) (tDS X.K C (mSeq a b)) := pss_imp (pss_cons h1 h2) (by
  rintro D σ H ⟨F, sd, Dd, R, E, h⟩
  exact ⟨F, sd, { Dd with nx := b Dd }, R, ⟨fun F1 H1 σ1 sd1 e R1 q => ⟨F1, sd1, Dd, R1, E.mono e, q⟩, E.rt, E.bk, E.ct⟩, h⟩)
theorem pds_one {st : Stmt} {a : MS} (h : PS X st (tDS X.K C a)) : PSs X [st] (tDS X.K C a) := pss_one h
theorem pds_pass {pos : Pos} : PS X (.Pass pos) (tDS X.K C mNext) := ps_imp ps_pass (by
  rintro D σ H ⟨F, sd, Dd, R, E, h⟩
  exact E.nx F H σ sd (Same.refl _) R h)
theorem pds_break {pos : Pos} : PS X (.Break pos) (tDS X.K C mBreak) := ps_imp ps_break (by
  rintro D σ H ⟨F, sd, Dd, R, E, h⟩
  exact E.bk F H σ sd (Same.refl _) R h)
theorem pds_cont {pos : Pos} : PS X (.Continue pos) (tDS X.K C mCont) := ps_imp ps_continue (by
  rintro D σ H ⟨F, sd, Dd, R, E, h⟩
  exact E.ct F H σ sd (Same.refl _) R h)
theorem td_asg {me : ME} {mg : MG} : ∀ D σ H, tDS K C (mAsg me mg) D σ H → tAsg (tD K C me) (tDG K C mg) D σ H := by
  rintro D σ H ⟨F, sd, Dd, R, E, h⟩
  exact ⟨F, sd, _, R, h, fun v H1 F1 d sd1 R1 S1 r q => ⟨F1, sd1, d, Dd.nx, R1, r, q, fun σ2 sd2 R2 q2 => E.nx F1 H1 σ2 sd2 S1.fr R2 q2⟩⟩
theorem pds_asg {tg e : Expr} {pos : Pos} {me : ME} {mg : MG} (t : PS X (.Assign [tg] e pos) (tAsg (tD X.K C me) (tDG X.K C mg))) : PS X (.Assign [tg] e pos) (tDS X.K C (mAsg me mg)) := ps_imp t td_asg
theorem td_asgR {i : Nat} {mr : MR} : ∀ D σ H, tDS K C (mAsgR i mr) D σ H → tAsg (tDR K C mr) (gName i) D σ H := by
  rintro D σ H ⟨F, sd, Dd, R, E, h⟩
  exact ⟨F, sd, _, R, h, fun v H1 F1 r sd1 R1 S1 rv fre new q => E.nx F1 H1 _ _ S1.fr (R1.setr rv fre) q⟩
theorem pds_asgR {tg e : Expr} {pos : Pos} {i : Nat} {mr : MR} (t : PS X (.Assign [tg] e pos) (tAsg (tDR X.K C mr) (gName i))) : PS X (.Assign [tg] e pos) (tDS X.K C (mAsgR i mr)) := ps_imp t td_asgR
theorem pds_if {c : Expr} {a b : List Stmt} {t : MT} {ma mb : MS} {pos : Pos} (hc : PT X c (tDT X.K C t)) (ha : PSs X a (tDS X.K C ma)) (hb : PSs X b (tDS X.K C mb)) : PS X (.If c a b pos) (tDS X.K C (mIf t ma mb)) := ps_imp (ps_if hc ha hb) (by
  rintro D σ H ⟨F, sd, Dd, R, E, h⟩
  refine ⟨F, sd, _, R, h, fun b H1 F1 sd1 R1 S1 q => ?_⟩
  cases b with
  | true => exact ⟨F1, sd1, Dd, R1, E.mono S1.fr, q⟩
  | false => exact ⟨F1, sd1, Dd, R1, E.mono S1.fr, q⟩)
theorem pds_ret {e : Expr} {mr : MR} {pos : Pos} (he : PE X e (tDR X.K C mr)) : PS X (.Return (some e) pos) (tDS X.K C (mRet mr)) := ps_imp (ps_ret he) (by
  rintro D σ H ⟨F, sd, Dd, R, E, h⟩
  exact ⟨F, sd, _, R, h, fun v H1 F1 r sd1 R1 S1 rv fre new q => E.rt F1 H1 σ sd1 v r S1.fr R1 rv (fun o q' e => R.still q' (new o q' e)) q⟩)
theorem pds_retN {pos : Pos} : PS X (.Return none pos) (tDS X.K C mRetN) := ps_imp ps_retN (by
  rintro D σ H ⟨F, sd, Dd, R, E, h⟩
  exact E.rt F H σ sd .non (.va .none) (Same.refl _) R ⟨_, rfl, .non⟩ (fun z => nomatch z) h)
theorem pds_drop {e : Expr} {me : ME} {pos : Pos} (he : PE X e (tD X.K C me)) (hs : swapsWith e none pos.line X.env = pure false := by rfl) : PS X (.Expr e pos) (tDS X.K C (mDrop me)) := ps_imp (ps_expr he hs) (by
  rintro D σ H ⟨F, sd, Dd, R, E, h⟩
  exact ⟨F, sd, _, R, h, fun v H1 F1 d sd1 R1 S1 r q => E.nx F1 H1 σ sd1 S1.fr R1 q⟩)
theorem pds_doc {x j pos pos'} : PS X (.Expr (.Constant (.str x) j pos) pos') (tDS X.K C mNext) := ps_imp ps_doc (by
  rintro D σ H ⟨F, sd, Dd, R, E, h⟩
  exact E.nx F H σ sd (Same.refl _) R h)
theorem Rs.setOwn {F H : Hp} {σ : L2.St} {sd : DSt} (R : Rs K C F H σ sd) {i : Nat} {ds ds' : List PyData} {p : Addr} {vs' : List V} (h : sget sd i = .own ds) (e : gv σ i = some (.ref p)) (r : RpA K F vs' ds') : Rs K C F (upd H p (.lst vs')) σ (sset sd i (.own ds')) := by
  have hi := R.slot i
  rw [h] at hi
  obtain ⟨p', vs, e1, e2, e3, e4, r0⟩ := hi
  rw [e] at e1; cases e1
  have hl : i < sd.length := R.lt_of_own (by rw [h]; intro z; cases z)
  have other : ∀ j q, j ≠ i → isOwn (sget sd j) = true → gv σ j = some (.ref q) → q ≠ p := fun j q hj ho eq z => by
    subst z
    exact R.sep i j q (Ne.symm hj) (by rw [h]; rfl) ho e eq
  refine ⟨by rw [sset_length]; exact R.len, R.grow, fun a x q => ?_, R.new, fun a x q n => ?_, fun a q => ?_, fun j => ?_, fun j k q hjk o1 o2 z1 => ?_⟩
  · have : a ≠ p := fun z => by subst z; rw [e3] at q; cases q
    rw [upd_ne this]; exact R.ext a x q
  · have : a ≠ p := fun z => by subst z; rw [e4] at q; cases q
    rw [upd_ne this]; exact R.keep a x q n
  · by_cases z : a = p
    · subst z; exact e4
    · rw [upd_ne z] at q; exact R.still a q
  · by_cases hj : j = i
    · subst hj; rw [sget_sset hl]; exact ⟨p, vs', e, upd_same, e3, e4, r⟩
    · rw [sget_sset_ne hj]
      exact (R.slot j).grow (Same.refl _) fun q x ho eq eh en => ⟨by rw [upd_ne (other j q hj ho eq)]; exact eh, en⟩
  · have own_of : ∀ m, isOwn (sget (sset sd i (.own ds')) m) = true → isOwn (sget sd m) = true := fun m o => by
      by_cases hm : m = i
      · subst hm; rw [h]; rfl
      · rw [sget_sset_ne hm] at o; exact o
    exact R.sep j k q hjk (own_of j o1) (own_of k o2) z1
/-- x.append(e), x a slot that owns its list -/
theorem pds_app {i : Nat} {x : Str} {p apos cpos pos : Pos} {e : Expr} {me : ME}
    (t : PS X (.Expr (.Call (.Attribute (.Name x p) "append" apos) [e] [] cpos) pos) (tDrop (tBM X.K "list" rAppend (tVar i) (tCons (tD X.K C me) tNil)))) :
    PS X (.Expr (.Call (.Attribute (.Name x p) "append" apos) [e] [] cpos) pos) (tDS X.K C (mApp i me)) := ps_imp t (by
  rintro D σ H ⟨F, sd, Dd, R, E, ⟨ds0, h0⟩, h⟩
  have hi := R.slot i
  rw [h0] at hi
  obtain ⟨q, vs, e1, e2, e3, e4, r⟩ := hi
  refine ⟨.ref q, gv_some.mp e1, .inl ⟨rfl, vs, .inl (.inl e2)⟩, F, sd, _, R, h, fun v H1 F1 d sd1 R1 S1 rv hh => ?_⟩
  obtain ⟨ds, h1, hlen, hnx⟩ := hh
  have hi1 := R1.slot i
  rw [h1] at hi1
  obtain ⟨q', vs1, z1, z2, z3, z4, r1⟩ := hi1
  rw [e1] at z1; cases z1
  refine ⟨q, vs1, v, rfl, rfl, z2, by rw [r1.length]; exact line_lt hlen, ?_⟩
  exact E.nx F1 _ σ _ S1.fr (R1.setOwn h1 e1 (r1.snoc rv)) hnx)
theorem drop_get {α : Type} {l : List α} {i : Nat} {d : α} (h : l[i]? = some d) : l.drop i = d :: l.drop (i + 1) := by
  have hi := (List.getElem?_eq_some_iff.mp h).1
  rw [List.drop_eq_getElem_cons hi, (List.getElem?_eq_some_iff.mp h).2]
theorem td_for {mi : MI} {mg : MG} {body : MS} : ∀ D σ H, tDS K C (mFor mi mg body) D σ H → tFor (tDI K C mi) (tDG K C mg) (tDS K C body) D σ H := by
  rintro D σ H ⟨F, sd, Dd, R, E, h⟩
  refine ⟨F, sd, _, R, h, fun J H1 F1 ds sd1 R1 S1 W h1 => ?_⟩
  obtain ⟨G, Y, w, hG, hY⟩ := W.ex
  refine for_it w (fun i σ' H' => ∃ F' sd', Rs K C F' H' σ' sd' ∧ Same F1 F' ∧ forL mg body Dd (ds.drop i) sd') ⟨F1, sd1, R1, Same.refl _, h1⟩ (fun i σ' H' _ ⟨F', sd', R', e, _⟩ => hG H' (e.trans R'.ext)) (fun i x σ' H' H'' hi ⟨F', sd', R', e, q⟩ y => ?_) (fun σ' H' ⟨F', sd', R', e, q⟩ => ?_)
  · obtain ⟨F2, d, al, hd, rd⟩ := hY i H' x H'' F' hi e R'.ext y
    rw [drop_get hd] at q
    have s2 : Same F1 F2 := e.trans (Stp.al R' al).fr
    refine ⟨F2, sd', d, _, R'.al al, rd, q, fun σ2 sd2 R2 q2 => ⟨F2, sd2, _, R2, ?_, q2⟩⟩
    exact ⟨fun F3 H3 σ3 sd3 e3 R3 q3 => ⟨F3, sd3, R3, s2.trans e3, q3⟩, (E.mono (S1.fr.trans s2)).rt, fun F3 H3 σ3 sd3 e3 R3 q3 => E.nx F3 H3 σ3 sd3 ((S1.fr.trans s2).trans e3) R3 q3, fun F3 H3 σ3 sd3 e3 R3 q3 => ⟨F3, sd3, R3, s2.trans e3, q3⟩⟩
  · rw [List.drop_length] at q
    exact E.nx F' H' σ' sd' (S1.fr.trans e) R' q
theorem pds_for {tg iter : Expr} {body : List Stmt} {pos : Pos} {mi : MI} {mg : MG} {mb : MS} (t : PS X (.For tg iter body [] pos) (tFor (tDI X.K C mi) (tDG X.K C mg) (tDS X.K C mb))) : PS X (.For tg iter body [] pos) (tDS X.K C (mFor mi mg mb)) := ps_imp t td_for
theorem td_while {mt : MT} {body : MS} : ∀ D σ H, tDS K C (mWhile mt body) D σ H → tWhile (tDT K C mt) (tDS K C body) D σ H := by
  rintro D σ H ⟨F, sd, Dd, R, E, n, h⟩
  refine ⟨fun m σ' H' => ∃ F' sd', Rs K C F' H' σ' sd' ∧ Same F F' ∧ whileN mt body Dd m sd', ⟨n, F, sd, R, Same.refl _, h⟩, fun m σ' H' hw => ?_⟩
  obtain ⟨F', sd', R', e, q⟩ := hw
  cases m with
  | zero => exact q.elim
  | succ m =>
    refine ⟨F', sd', _, R', q, fun b H1 F1 sd1 R1 S1 q1 => ?_⟩
    have s1 := e.trans S1.fr
    cases b with
    | true =>
      refine ⟨fun σ2 H2 => ∃ F2 sd2, Rs K C F2 H2 σ2 sd2 ∧ Same F F2 ∧ whileN mt body Dd m sd2, fun σ2 H2 z => ⟨m, Nat.lt_succ_self m, z⟩, F1, sd1, _, R1, ?_, q1⟩
      exact ⟨fun F3 H3 σ3 sd3 e3 R3 q3 => ⟨F3, sd3, R3, s1.trans e3, q3⟩, (E.mono s1).rt, fun F3 H3 σ3 sd3 e3 R3 q3 => E.nx F3 H3 σ3 sd3 (s1.trans e3) R3 q3, fun F3 H3 σ3 sd3 e3 R3 q3 => ⟨F3, sd3, R3, s1.trans e3, q3⟩⟩
    | false => exact E.nx F1 H1 σ' sd1 s1 R1 q1
theorem pds_while {c : Expr} {body : List Stmt} {pos : Pos} {mt : MT} {mb : MS} (t : PS X (.While c body [] pos) (tWhile (tDT X.K C mt) (tDS X.K C mb))) : PS X (.While c body [] pos) (tDS X.K C (mWhile mt mb)) := ps_imp t td_while
end
end DL
namespace DL
open PySem PySem.Spec PyProof.Rows L2
section
variable {K : PySem.W.Frag} {X : Cx} {C : Ct}
theorem rs_wipe {F H : Hp} {σ : L2.St} {sd : DSt} (R : Rs K C F H σ sd) : ∀ vs : List Nat, Rs K C F H (wipe σ vs) (swipe sd vs)
  | [] => R
  | v :: vs => (rs_wipe R vs).setno
theorem sget_swipe : ∀ {sd : DSt} {vs : List Nat} {i : Nat}, i ∉ vs → sget (swipe sd vs) i = sget sd i
  | _, [], _, _ => rfl
  | sd, v :: vs, i, h => by
    show sget (sset (swipe sd vs) v .no) i = _
    rw [sget_sset_ne (fun z => h (by simp [z]))]
    exact sget_swipe fun z => h (by simp [z])
theorem sget_sback : ∀ {s0 sd : DSt} {vs : List Nat} {i : Nat}, i ∉ vs → sget (sback s0 sd vs) i = sget sd i
  | _, _, [], _, _ => rfl
  | s0, sd, v :: vs, i, h => by
    show sget (sset (sback s0 sd vs) v _) i = _
    rw [sget_sset_ne (fun z => h (by simp [z]))]
    exact sget_sback fun z => h (by simp [z])
theorem sback_length : ∀ {s0 sd : DSt} {vs : List Nat}, (sback s0 sd vs).length = sd.length
  | _, _, [] => rfl
  | s0, sd, v :: vs => by show (sset (sback s0 sd vs) v _).length = _; rw [sset_length]; exact sback_length
theorem swipe_length : ∀ {sd : DSt} {vs : List Nat}, (swipe sd vs).length = sd.length
  | _, [] => rfl
  | sd, v :: vs => by show (sset (swipe sd vs) v _).length = _; rw [sset_length]; exact swipe_length
theorem gv_wipe : ∀ {σ : L2.St} {vs : List Nat} {i : Nat}, i ∉ vs → gv (wipe σ vs) i = gv σ i
  | _, [], _, _ => rfl
  | σ, v :: vs, i, h => by
    show gv ((wipe σ vs).set v none) i = _
    rw [gv_set_ne (fun z => h (by simp [z]))]
    exact gv_wipe fun z => h (by simp [z])
theorem sget_sback_in : ∀ {s0 sd : DSt} {vs : List Nat} {i : Nat}, i ∈ vs → sd.length = s0.length → sget (sback s0 sd vs) i = sget s0 i
  | s0, sd, v :: vs, i, h, hl => by
    show sget (sset (sback s0 sd vs) v (sget s0 v)) i = _
    by_cases hv : i = v
    · subst hv
      by_cases hi : i < s0.length
      · rw [sget_sset (by rw [sback_length, hl]; exact hi)]
      · rw [sget_out (by rw [sset_length, sback_length, hl]; omega), sget_out (by omega)]
    · rw [sget_sset_ne hv]
      exact sget_sback_in (by simpa [hv] using h) hl
theorem unOwn_of {s : DSt} {vs : List Nat} (h : unOwn s vs = true) {j : Nat} (hj : j ∈ vs) : isOwn (sget s j) = false := by
  unfold unOwn at h
  have := List.all_eq_true.mp h j hj
  cases e : sget s j <;> rw [e] at this <;> first | rfl | cases this
/-- targets within a comprehension: only its own slots change -/
def tDGv (K : PySem.W.Frag) (C : Ct) (vs : List Nat) (m : MG) : TG := fun v σ H Q => ∃ F sd d Qd, Rs K C F H σ sd ∧ Rp K F v d ∧ m d sd Qd ∧ ∀ σ' sd', Rs K C F H σ' sd' → wipe σ' vs = wipe σ vs → (∀ a, Owned σ' sd' a → Owned σ sd a) → Qd sd' → Q σ' H
def tDGsv (K : PySem.W.Frag) (C : Ct) (vs : List Nat) (m : MGs) : TGs := fun v σ H Q => ∃ F sd d Qd, Rs K C F H σ sd ∧ RpA K F v d ∧ m d sd Qd ∧ ∀ σ' sd', Rs K C F H σ' sd' → wipe σ' vs = wipe σ vs → (∀ a, Owned σ' sd' a → Owned σ sd a) → Qd sd' → Q σ' H
theorem wipe_set {σ : L2.St} {x : Option V} : ∀ {vs : List Nat} {i : Nat}, i ∈ vs → wipe (σ.set i x) vs = wipe σ vs
  | v :: vs, i, h => by
    show (wipe (σ.set i x) vs).set v none = (wipe σ vs).set v none
    by_cases hi : i ∈ vs
    · rw [wipe_set hi]
    · have hv : i = v := by simpa [hi] using h
      subst hv
      have comm : ∀ (ws : List Nat), i ∉ ws → wipe (σ.set i x) ws = (wipe σ ws).set i x := by
        intro ws
        induction ws with
        | nil => intro _; rfl
        | cons w ws ih =>
          intro hn
          show (wipe (σ.set i x) ws).set w none = ((wipe σ ws).set w none).set i x
          rw [ih (fun z => hn (by simp [z])), List.set_comm _ _ (show i ≠ w from fun z => hn (by simp [z]))]
      rw [comm vs hi, List.set_set]
theorem pdgv_name {vs : List Nat} {i : Nat} {x : Str} {pos : Pos} (hv : i ∈ vs) (h : PG X (.Name x pos) (gName i)) : PG X (.Name x pos) (tDGv X.K C vs (mgName i)) := pg_imp h (by
  rintro v σ H Q ⟨F, sd, d, Qd, R, r, h, k⟩
  refine k _ _ (R.setva r) (wipe_set hv) (fun a ⟨j, o, e⟩ => ?_) h
  by_cases hj : j = i
  · subst hj
    by_cases hl : j < sd.length
    · rw [sget_sset hl] at o; cases o
    · rw [sget_out (by rw [sset_length]; omega)] at o; cases o
  · rw [sget_sset_ne hj] at o; rw [gv_set_ne hj] at e; exact ⟨j, o, e⟩)
theorem pdgsv_nil {vs : List Nat} : PGs X [] (tDGsv X.K C vs mgNil) := pgs_imp pgs_nil (by
  rintro v σ H Q ⟨F, sd, ds, Qd, R, r, h, k⟩
  obtain ⟨e, h⟩ := h
  subst e
  cases r
  exact ⟨rfl, k _ _ R rfl (fun _ h => h) h⟩)
theorem pdgsv_cons {vs : List Nat} {e : Expr} {es : List Expr} {g : MG} {gs : MGs} (t : PGs X (e :: es) (gCons (tDGv X.K C vs g) (tDGsv X.K C vs gs))) : PGs X (e :: es) (tDGsv X.K C vs (mgCons g gs)) := pgs_imp t (by
  rintro v σ H Q ⟨F, sd, ds, Qd, R, r, h, k⟩
  obtain ⟨d, rest, e, h⟩ := h
  subst e
  cases r with
  | cons r1 r2 => exact ⟨_, _, rfl, F, sd, d, _, R, r1, h, fun σ' sd' R' w o q => ⟨F, sd', rest, Qd, R', r2, q, fun σ2 sd2 R2 w2 o2 q2 => k σ2 sd2 R2 (w2.trans w) (fun a z => o a (o2 a z)) q2⟩⟩)
theorem pdgv_tup {vs : List Nat} {es : List Expr} {kk : Nat} {pos : Pos} {gs : MGs} {n : Nat} (hc : X.calm = true) (h : PGs X es (tDGsv X.K C vs gs)) (hn : (assignEach es X.env).length = n := by rfl) (hst : (assignEach es X.env).findIdx? (·.1) = none := by rfl) :
    PG X (.Tuple es kk pos) (tDGv X.K C vs (mgTup n gs)) := pg_imp (pg_or (pg_tup hc h hn hst) (pg_lst hc h hn hst)) (by
  rintro v σ H Q ⟨F, sd, d, Qd, R, r, h, k⟩
  obtain ⟨ds, hd, hl, h⟩ := h
  cases r with
  | tup h1 r1 =>
    cases hd
    exact .inl ⟨_, _, rfl, same_t R.ext h1, by rw [r1.length]; exact hl, F, sd, _, Qd, R, r1, h, k⟩
  | lst h1 r1 =>
    cases hd
    exact .inr ⟨_, _, rfl, .inl (.inl (R.ext _ _ h1)), by rw [r1.length]; exact hl, F, sd, _, Qd, R, r1, h, k⟩
  | _ => cases hd)
theorem wipe_comm {σ : L2.St} {x : Option V} {i : Nat} : ∀ (ws : List Nat), i ∉ ws → wipe (σ.set i x) ws = (wipe σ ws).set i x
  | [], _ => rfl
  | w :: ws, hn => by
    show (wipe (σ.set i x) ws).set w none = ((wipe σ ws).set w none).set i x
    rw [wipe_comm ws (fun z => hn (by simp [z])), List.set_comm _ _ (show i ≠ w from fun z => hn (by simp [z]))]
theorem wipe_wipe {σ : L2.St} : ∀ vs : List Nat, wipe (wipe σ vs) vs = wipe σ vs
  | [] => rfl
  | v :: vs => by
    show (wipe ((wipe σ vs).set v none) vs).set v none = (wipe σ vs).set v none
    by_cases hv : v ∈ vs
    · rw [wipe_set hv, wipe_wipe vs]
    · rw [wipe_comm vs hv, wipe_wipe vs, List.set_set]
/-- an object that nobody knows is written -/
theorem Rs.updH {F H : Hp} {σ : L2.St} {sd : DSt} {p : Addr} {o : HO} (R : Rs K C F H σ sd) (hF : F p = none) (ho : ¬ Owned σ sd p) (h0 : C.H0 p = none) : Rs K C F (upd H p o) σ sd where
  len := R.len
  grow := R.grow
  ext := fun a x e => by
    have : a ≠ p := fun z => by subst z; rw [hF] at e; cases e
    rw [upd_ne this]; exact R.ext a x e
  new := R.new
  keep := fun a x e n => by
    have : a ≠ p := fun z => by subst z; rw [h0] at e; cases e
    rw [upd_ne this]; exact R.keep a x e n
  still := fun a e => by
    by_cases z : a = p
    · subst z; exact h0
    · rw [upd_ne z] at e; exact R.still a e
  slot := fun i => (R.slot i).grow (Same.refl _) fun q x o2 e eh en => by
    have : q ≠ p := fun z => by subst z; exact ho ⟨i, o2, e⟩
    exact ⟨by rw [upd_ne this]; exact eh, en⟩
  sep := R.sep
theorem owned_at {F H : Hp} {σ : L2.St} {sd : DSt} {p : Addr} (R : Rs K C F H σ sd) (o : Owned σ sd p) : ∃ x, H p = some x := by
  obtain ⟨i, o, e⟩ := o
  have hs := R.slot i
  cases es : sget sd i with
  | no => rw [es] at o; cases o
  | va d => rw [es] at o; cases o
  | scr d => rw [es] at o; cases o
  | exc d => rw [es] at o; cases o
  | ins c fs => rw [es] at hs; obtain ⟨q2, _, _, _, e1, e2, _⟩ := hs; rw [e] at e1; cases e1; exact ⟨_, e2⟩
  | own ds' => rw [es] at hs; obtain ⟨q2, vs2, e1, e2, _⟩ := hs; rw [e] at e1; cases e1; exact ⟨_, e2⟩
  | well n => rw [es] at hs; obtain ⟨q2, _, _, _, e1, e2, _⟩ := hs; rw [e] at e1; cases e1; exact ⟨_, e2⟩
theorem owned_wipe {σ : L2.St} {sd : DSt} {vs : List Nat} {a : Addr} (h : Owned (wipe σ vs) (swipe sd vs) a) : Owned σ sd a := by
  obtain ⟨i, o, e⟩ := h
  by_cases hi : i ∈ vs
  · have : ∀ (ws : List Nat), i ∈ ws → sget (swipe sd ws) i = .no := by
      intro ws
      induction ws with
      | nil => intro h; simp at h
      | cons w ws ih =>
        intro h
        show sget (sset (swipe sd ws) w .no) i = .no
        by_cases hw : i = w
        · subst hw
          by_cases hl : i < sd.length
          · rw [sget_sset (by rw [swipe_length]; exact hl)]
          · rw [sget_out (by rw [sset_length, swipe_length]; omega)]
        · rw [sget_sset_ne hw]; exact ih (by simpa [hw] using h)
    rw [this vs hi] at o; cases o
  · rw [sget_swipe hi] at o
    rw [gv_wipe hi] at e
    exact ⟨i, o, e⟩
/-- the end of a comprehension: its slots as they were ahead of it -/
theorem rs_back {F1 H1 F H : Hp} {σ : L2.St} {s1 s : DSt} {vs : List Nat} (R1 : Rs K C F1 H1 σ s1) (hu : unOwn s1 vs = true) (R : Rs K C F H (wipe σ vs) (swipe s vs)) (e : Same F1 F) : Rs K C F H σ (sback s1 s vs) ∧ ∀ a, Owned σ (sback s1 s vs) a → Owned (wipe σ vs) (swipe s vs) a := by
  have hl : s.length = s1.length := by
    have a := R.len
    have b := R1.len
    rw [wipe_length, swipe_length] at a
    omega
  have own : ∀ j, isOwn (sget (sback s1 s vs) j) = true → j ∉ vs := fun j o hj => by
    rw [sget_sback_in hj hl, unOwn_of hu hj] at o; cases o
  refine ⟨⟨by rw [sback_length, hl]; exact R1.len, R.grow, R.ext, R.new, R.keep, R.still, fun j => ?_, fun j k q hjk o1 o2 z1 => ?_⟩, fun a ⟨j, o, ev⟩ => ?_⟩
  · by_cases hj : j ∈ vs
    · rw [sget_sback_in hj hl]
      have := R1.slot j
      have no := unOwn_of hu hj
      exact this.grow e fun q o ho _ _ _ => by rw [no] at ho; cases ho
    · rw [sget_sback hj]
      have := R.slot j
      rw [sget_swipe hj, gv_wipe hj] at this
      exact this
  · have n1 := own j o1
    have n2 := own k o2
    rw [sget_sback n1] at o1
    rw [sget_sback n2] at o2
    have := R.sep j k q hjk (by rw [sget_swipe n1]; exact o1) (by rw [sget_swipe n2]; exact o2) (by rw [gv_wipe n1]; exact z1)
    rw [gv_wipe n2] at this
    exact this
  · have n1 := own j o
    rw [sget_sback n1] at o
    exact ⟨j, by rw [sget_swipe n1]; exact o, by rw [gv_wipe n1]; exact ev⟩
/-- one turn's beginning: the new list at Dl holds what acc tells -/
structure LcSt (K : PySem.W.Frag) (C : Ct) (σ : L2.St) (s1 : DSt) (F1 H1 : Hp) (vs : List Nat) (Dl : Addr) (F' H' : Hp) (s : DSt) (acc : List PyData) : Prop where
  R : Rs K C F' H' (wipe σ vs) (swipe s vs)
  fr : Same F1 F'
  kp : ∀ a o, H1 a = some o → ¬ Owned σ s1 a → H' a = some o
  ow : ∀ a, Owned (wipe σ vs) (swipe s vs) a → Owned σ s1 a
  nw : ∀ a o, F' a = some o → F1 a = some o ∨ H1 a = none ∨ Owned σ s1 a
  st : ∀ a, H' a = none → H1 a = none
  dl : ∃ vacc, H' Dl = some (.lst vacc) ∧ RpA K F' vacc acc
  df : F' Dl = none
theorem lc_end {σ : L2.St} {s1 s : DSt} {F1 H1 F' H' : Hp} {vs : List Nat} {Dl : Addr} {acc : List PyData} (R1 : Rs K C F1 H1 σ s1) (hu : unOwn s1 vs = true) (hD : H1 Dl = none) (L : LcSt K C σ s1 F1 H1 vs Dl F' H' s acc) :
    ∃ vacc, H' Dl = some (.lst vacc) ∧ RpA K F' vacc acc ∧ F' Dl = none ∧ C.H0 Dl = none ∧ Rs K C F' H' σ (sback s1 s vs) ∧ Stp σ s1 F1 H1 F' H' (sback s1 s vs) ∧ ¬ Owned σ (sback s1 s vs) Dl := by
  obtain ⟨vacc, h1, h2⟩ := L.dl
  obtain ⟨Rb, ob⟩ := rs_back R1 hu L.R L.fr
  refine ⟨vacc, h1, h2, L.df, R1.still _ hD, Rb, ⟨L.fr, L.kp, fun a z => L.ow a (ob a z), L.nw, L.st⟩, fun z => ?_⟩
  obtain ⟨x, e⟩ := owned_at R1 (L.ow _ (ob _ z))
  rw [hD] at e; cases e
theorem lc_turn {σ σ2 : L2.St} {s1 s s2 : DSt} {F1 H1 F' H' F2 H2 F3 H3 : Hp} {vs : List Nat} {Dl : Addr} {acc : List PyData} (R1 : Rs K C F1 H1 σ s1) (hD : H1 Dl = none) (L : LcSt K C σ s1 F1 H1 vs Dl F' H' s acc) (al : Al F' H' F2 H2)
    {s0 : DSt} (hw : wipe σ2 vs = wipe σ vs) (ho : ∀ a, Owned σ2 s0 a → Owned (wipe σ vs) (swipe s vs) a) (R3 : Rs K C F3 H3 σ2 s2) (S3 : Stp σ2 s0 F2 H2 F3 H3 s2) : LcSt K C σ s1 F1 H1 vs Dl F3 H3 s2 acc ∧ ¬ Owned (wipe σ vs) (swipe s2 vs) Dl ∧ C.H0 Dl = none := by
  have A := Stp.al L.R al
  have ow3 : ∀ a, Owned (wipe σ vs) (swipe s2 vs) a → Owned σ s1 a := fun a z => by
    rw [← hw] at z
    exact L.ow a (ho a (S3.ow a (owned_wipe z)))
  have nD : ¬ Owned σ s1 Dl := fun z => by
    obtain ⟨x, e⟩ := owned_at R1 z
    rw [hD] at e; cases e
  obtain ⟨vacc, h1, h2⟩ := L.dl
  have h12 : H2 Dl = some (.lst vacc) := A.kp _ _ h1 fun z => nD (L.ow _ z)
  have nD0 : ¬ Owned σ2 s0 Dl := fun z => nD (L.ow _ (ho _ z))
  refine ⟨⟨by rw [← hw]; exact rs_wipe R3 vs, (L.fr.trans A.fr).trans S3.fr, fun a o e n => S3.kp a o (A.kp a o (L.kp a o e n) fun z => n (L.ow a z)) fun z => n (L.ow a (ho a z)), ow3, fun a o e => ?_, fun a e => L.st a (A.st a (S3.st a e)), ⟨vacc, S3.kp _ _ h12 nD0, (h2.mono A.fr).mono S3.fr⟩, ?_⟩, fun z => nD (ow3 _ z), R1.still _ hD⟩
  · rcases S3.nw a o e with e | e | e
    · rcases A.nw a o e with e | e | e
      · exact L.nw a o e
      · exact .inr (.inl (L.st a e))
      · exact .inr (.inr (L.ow a e))
    · exact .inr (.inl (L.st a (A.st a e)))
    · exact .inr (.inr (L.ow a (ho a e)))
  · cases e : F3 Dl with
    | none => rfl
    | some o =>
      rcases S3.nw _ o e with e | e | e
      · rcases A.nw _ o e with e | e | e
        · rw [L.df] at e; cases e
        · rw [h1] at e; cases e
        · exact (nD (L.ow _ e)).elim
      · rw [h12] at e; cases e
      · exact (nD0 e).elim
theorem td_lc {mi : MI} {mg : MG} {mt : MT} {me : ME} {vs : List Nat} {σ : L2.St} {H : Hp} {Q : VK} {F : Hp} {sd : DSt} {P : List PyData → DSt → Prop} (R : Rs K C F H σ sd) (h : mi sd fun ds s => unOwn s vs = true ∧ lcL mg mt me vs (fun out s' => P out (sback s s' vs)) ds s [])
    (k : ∀ Dl H' F' out vout sd', Rs K C F' H' σ sd' → Stp σ sd F H F' H' sd' → H' Dl = some (.lst vout) → RpA K F' vout out → F' Dl = none → C.H0 Dl = none → ¬ Owned σ sd' Dl → H Dl = none → P out sd' → Q (.ref Dl) H') : tLc (tDI K C mi) (tDGv K C vs mg) (tDT K C mt) (tD K C me) vs σ H Q := by
  refine ⟨F, sd, _, R, h, fun J H1 F1 ds s1 R1 S1 W h1 => fun Dl hD => ?_⟩
  obtain ⟨hu, h1⟩ := h1
  obtain ⟨G, Y, w, hG, hY⟩ := W.ex
  have nD : ¬ Owned σ s1 Dl := fun z => by
    obtain ⟨x, e⟩ := owned_at R1 z
    rw [hD] at e; cases e
  refine lc_it w (fun i H' => ∃ F' s acc, LcSt K C σ s1 F1 H1 vs Dl F' H' s acc ∧ lcL mg mt me vs (fun out s' => P out (sback s1 s' vs)) (ds.drop i) s acc) ⟨F1, s1, [], ?_, h1⟩ (fun i H' _ ⟨F', s, acc, L, _⟩ => hG H' (L.fr.trans L.R.ext)) (fun i x H' H'' hi ⟨F', s, acc, L, q⟩ y => ?_) (fun H' ⟨F', s, acc, L, q⟩ => ?_)
  · refine ⟨rs_wipe (R1.allocH hD) vs, Same.refl _, fun a o e _ => same_new hD a o e, fun a z => owned_wipe z, fun a o e => .inl e, fun a e => ?_, ⟨[], upd_same, .nil⟩, R1.free hD⟩
    by_cases z : a = Dl
    · subst z; exact hD
    · rw [upd_ne z] at e; exact e
  · obtain ⟨F2, d, al, hd, rd⟩ := hY i H' x H'' F' hi L.fr L.R.ext y
    rw [drop_get hd] at q
    refine ⟨F2, swipe s vs, d, _, L.R.al al, rd, q, fun σ2 s2 R2 hw ho q2 => ⟨by rw [hw, wipe_wipe], F2, s2, _, R2, q2, fun b H3 F3 s3 R3 S3 q3 => ?_⟩⟩
    rw [wipe_wipe] at hw
    cases b with
    | true =>
      refine ⟨F3, s3, _, R3, q3, fun y H4 F4 dy s4 R4 S4 ry q4 => ?_⟩
      obtain ⟨L4, no4, h04⟩ := lc_turn R1 hD L al hw ho R4 (S3.trans S4)
      obtain ⟨vacc, e1, e2⟩ := L4.dl
      refine ⟨vacc, e1, by rw [e2.length]; exact line_lt q4.1, F4, s4, acc ++ [dy], ⟨L4.R.updH L4.df no4 h04, L4.fr, fun a o e n => ?_, L4.ow, L4.nw, fun a e => ?_, ⟨_, upd_same, e2.snoc ry⟩, L4.df⟩, q4.2⟩
      · have : a ≠ Dl := fun z => by subst z; rw [hD] at e; cases e
        rw [upd_ne this]; exact L4.kp a o e n
      · by_cases z : a = Dl
        · subst z; exact hD
        · rw [upd_ne z] at e; exact L4.st a e
    | false =>
      obtain ⟨L4, _, _⟩ := lc_turn R1 hD L al hw ho R3 S3
      exact ⟨F3, s3, acc, L4, q3⟩
  · rw [List.drop_length] at q
    obtain ⟨vacc, a1, a2, a3, a4, a5, a6, a7⟩ := lc_end R1 hu hD L
    exact k Dl H' F' acc vacc _ a5 (S1.trans a6) a1 a2 a3 a4 a7 (S1.st _ hD) q
end
end DL
namespace DL
open PySem PySem.Spec PyProof.Rows L2
/-- room for k calls, and nothing is being shown -/
structure RoomG (k : Nat) (A : Around) : Prop where
  r : Room k A
  g : A.guards = some []
theorem RoomG.mono {j k : Nat} {A : Around} (h : RoomG k A) (hj : j ≤ k) : RoomG j A := ⟨h.r.mono hj, h.g⟩
theorem RoomG.deeper {k : Nat} {A : Around} (h : RoomG (k + 1) A) (env : Env) : RoomG k (A.deeper env) := ⟨h.r.deeper env, h.g⟩
structure FnG (P : Program) (w : World) (K : PySem.W.Frag) (mg : Str → Option Value) (base : Heap) (k : Nat) (f : Addr) (fd : FuncData) (ps : List Str) (sp : Sp) : Prop where
  len : ∀ vs H Q E, sp vs H Q E → vs.length = ps.length
  run : ∀ {A : Around} {outer : List Env} {s : Shared} {H : Hp} {args : Args} {us : List Value} {vs : List V} {Q : VK} {E : XK}, RoomG k A → Env0 P w K mg base A outer s H → BindsTo s fd args (ps.zip us) → Vals vs us → sp vs H Q E →
    codeAny (model P w) A (.call (.ref f) args) (CR (L2.CX P w) outer P w H s Q E) s
theorem FnG.of {P : Program} {w : World} {K : PySem.W.Frag} {mg : Str → Option Value} {base : Heap} {k : Nat} {f : Addr} {fd : FuncData} {ps : List Str} {sp : Sp} (F : FnOk P w K mg base (L2.CX P w) k f fd ps sp) : FnG P w K mg base k f fd ps sp :=
  ⟨F.len, fun hr e b r h => F.run _ _ _ _ _ _ _ _ _ hr.r e b r h⟩
section
variable {P : Program} {w : World} {K : PySem.W.Frag} {mg : Str → Option Value} {base : Heap} {k : Nat}
/-- a def's promise from its body -/
theorem fun_okG {x qual : Str} {st : Stmt} {f : Addr} {fd : FuncData} {N ps : List Str} {sp : Sp} (F : Fun K x qual st f fd) (S : FnScope N ps (defScope st)) (len : ∀ vs H Q E, sp vs H Q E → vs.length = ps.length)
    (body : ∀ (cdv : Value) (A : Around) (outer : List Env) (s : Shared) (H : Hp) (vs : List V) (Q : VK) (E : XK), RoomG k (A.deeper (envOfC qual (defScope st) s.heap.objs.size f cdv)) → sp vs H Q E →
      ∃ t, PSs (cxOf (L2.CX P w) P w K mg base N qual (defScope st) f cdv A outer s H E) (defBody st) t ∧ t { nx := fun _ H' => Q .non H', rt := Q } (L2.start N vs) H) : FnG P w K mg base (k + 1) f fd ps sp := by
  obtain ⟨oc, od, kV, doc, pm, an, cdv, ct, osl, rfl, lk, code⟩ := F.ex
  refine ⟨len, fun {A outer s H args us vs Q E} hr e0 hb rv hs => ?_⟩
  have stays : ∀ b o, base.get? b = some o → s.heap.get? b = some o := fun b o e => (e0.bs b o e).1
  have KX := e0.mod.kin.keeps stays
  refine codeAny_call_function hr.r.depth (KX _ _ lk) rfl S.co S.gen rfl (PySem.W.codeRec_of KX code) (hb _ _ _ _ (wpAny_newFunctionEnv_cells S.kind (fun y hy => ?_) fun env he s1 x1 => ?_))
  · have hp := S.par y.1 (List.of_mem_zip (show (y.1, y.2) ∈ ps.zip us from hy)).1
    exact hp.imp id fun c => ⟨c, PySem.W.cellsFrom_some _ _ _ (.inl c)⟩
  · subst he
    obtain ⟨t, ht, ht2⟩ := body cdv A outer s H vs Q E (hr.deeper _) hs
    have I0 := inv_start (CX := L2.CX P w) (E := E) S hr.r.hd e0 (len _ _ _ _ hs) rv x1
    refine ⟨(e0.mod.nolimit.keeps stays).keeps x1.toInCall.keep, codeAny_func (wpAny_mono (ht.run [] s1 _ H _ I0 ht2) (fun fl s2 h2 => ?_) fun _ _ h2 => h2)⟩
    cases fl with
    | brk => exact h2.elim fun _ h => h.elim fun _ h => h.2.elim
    | cont => exact h2.elim fun _ h => h.elim fun _ h => h.2.elim
    | next => exact h2.elim fun σ2 h => h.elim fun H2 h => ⟨V.non, H2, h.1.os, h.1.bare, h.1.base, h.1.hok, rfl, h.2⟩
    | ret u => exact h2.elim fun v h => h.elim fun σ2 h => h.elim fun H2 h => ⟨v, H2, h.1.os, h.1.bare, h.1.base, h.1.hok, h.2.1, h.2.2⟩
end
section
variable {X : Cx} {k : Nat} {f : Addr} {fd : FuncData} {ps ks : List Str} {sp : Sp} {E : L2.St → XK} {x : Str} {p pos : Pos} {e : Expr} {es : List Expr} {t tk : TA}
theorem run_fnG {pins : List (Addr × Obj)} {σ : L2.St} {H : Hp} {s : Shared} {Q : VK} {us : List Value} {vs : List V} {args : Args} {n : Nat} (F : FnG X.prog X.w X.K X.mg X.base k f fd ps sp) (hr : RoomG k X.A) (hb : BindsTo s fd args (ps.zip us)) (hx : PassesAt (L2.CX X.prog X.w) X σ (E σ))
    (I : Inv X pins σ H s) (r : Vals vs us) (h : sp vs H Q (E σ)) : codeAny (model X.prog X.w) X.A (.call (.ref f) args) (fun r s' => match r with
      | .error e => X.xe e s'
      | .ok (.ret u) => EP X pins σ Q u s'
      | .ok _ => False) s := by
  refine codeAny_mono (F.run hr I.env0 hb r h) fun r s' hq => ?_
  cases r with
  | error e => exact hx pins H s e s' I hq
  | ok fl =>
    cases fl with
    | ret u => exact I.after hq
    | next => exact hq
    | brk => exact hq
    | cont => exact hq
/-- f(e, ..), and what f raises is wished for at the slots as they stand -/
def tCallG (sp : Sp) (E : L2.St → XK) (t : TA) : TE := fun σ H Q => t σ H fun vs H1 => sp vs H1 Q (E σ)
theorem wp_callG {pins : List (Addr × Obj)} {σ : L2.St} {H : Hp} {s : Shared} {Q : VK} {us : List Value} {vs : List V} (F : FnG X.prog X.w X.K X.mg X.base k f fd ps sp) (hr : RoomG k X.A) (hb : Binds X.K fd ps []) (hx : PassesAt (L2.CX X.prog X.w) X σ (E σ))
    (I : Inv X pins σ H s) (r : Vals vs us) (h : sp vs H Q (E σ)) : wpAny (model X.prog X.w) X.A (call (.ref f) us) (EP X pins σ Q) X.xe s := by
  have hl : (us ++ []).length = ps.length := by rw [List.append_nil, ← r.length]; exact F.len _ _ _ _ h
  have b := hb s us I.kIn hl
  rw [List.append_nil] at b
  refine wpAny_call (codeAny_mono (run_fnG (args := ⟨us, []⟩) (n := 0) F hr b hx I r h) fun r s' hq => ?_)
  rcases r with _ | (_ | _ | _ | _) <;> exact hq
theorem pe_callG (F : FnG X.prog X.w X.K X.mg X.base k f fd ps sp) (hr : RoomG k X.A) (hg : Gl X x) (hm : X.mg x = some (.ref f)) (hk : PySem.W.keepIn X.K (.ref f) = true) (hb : Binds X.K fd ps []) (hx : ∀ σ, PassesAt (L2.CX X.prog X.w) X σ (E σ))
    (ha : PA X (e :: es) t) (hdb : (x == ("__debug__" : Str)) = false) (he : starEach (e :: es) X.env = (false, eval e X.env) :: starEach es X.env) (hpl : (backTo pos (starEach es X.env)).any (·.1) = false) :
    PE X (.Call (.Name x p) (e :: es) [] pos) (tCallG sp E t) :=
  ⟨fun pins s σ H Q I h => wpAny_Call_Name_kw (ld_glob I hg hm (PySem.W.callWith_K (h₀ := X.base) I.ok.mod.kin hk (thn (ha.run pos pins s σ H _ I h) fun us s1 hh => by
    obtain ⟨vs, H1, I1, r, q⟩ := hh
    exact ⟨I1.kIn, wp_callG F hr hb (hx σ) I1 r q⟩) he hpl) hdb)⟩
theorem pe_callG0 (F : FnG X.prog X.w X.K X.mg X.base k f fd ps sp) (hr : RoomG k X.A) (hg : Gl X x) (hm : X.mg x = some (.ref f)) (hk : PySem.W.keepIn X.K (.ref f) = true) (hb : Binds X.K fd ps []) (hx : ∀ σ, PassesAt (L2.CX X.prog X.w) X σ (E σ))
    (hdb : (x == ("__debug__" : Str)) = false) : PE X (.Call (.Name x p) [] [] pos) (tCallG sp E tNil) :=
  ⟨fun pins s σ H Q I h => wpAny_Call_Name_kw (ld_glob I hg hm (PySem.W.callWith_K0 I.kIn hk (wp_callG (us := []) F hr hb (hx σ) I .nil h)) hdb)⟩
/-- f(a, .., k=b, ..) -/
def tCallGK (sp : Sp) (gV : List V → List V → List V) (E : L2.St → XK) (t tk : TA) : TE := fun σ H Q => t σ H fun vs H1 => tk σ H1 fun zs H2 => sp (gV vs zs) H2 Q (E σ)
variable {g : List Value → List Value → List Value} {gV : List V → List V → List V} {kws : List Keyword}
theorem wp_callGK {pins : List (Addr × Obj)} {σ : L2.St} {H : Hp} {s : Shared} {Q : VK} {us ws : List Value} {vs zs : List V} (F : FnG X.prog X.w X.K X.mg X.base k f fd ps sp) (hr : RoomG k X.A) (hb : KBinds X.K fd ps ks g gV) (hx : PassesAt (L2.CX X.prog X.w) X σ (E σ))
    (I : Inv X pins σ H s) (r : Vals vs us) (rz : Vals zs ws) (h : sp (gV vs zs) H Q (E σ)) : wpAny (model X.prog X.w) X.A (call (.ref f) us (ks.zip ws)) (EP X pins σ Q) X.xe s := by
  have rg := hb.rel r rz
  have hl : (g us ws).length = ps.length := rg.length ▸ F.len _ _ _ _ h
  refine wpAny_call (codeAny_mono (run_fnG (args := ⟨us, ks.zip ws⟩) (n := 0) F hr (hb.to s us ws I.kIn hl) hx I rg h) fun r s' hq => ?_)
  rcases r with _ | (_ | _ | _ | _) <;> exact hq
theorem pe_callGK (F : FnG X.prog X.w X.K X.mg X.base k f fd ps sp) (hr : RoomG k X.A) (hg : Gl X x) (hm : X.mg x = some (.ref f)) (hk : PySem.W.keepIn X.K (.ref f) = true) (hb : KBinds X.K fd ps ks g gV) (hx : ∀ σ, PassesAt (L2.CX X.prog X.w) X σ (E σ))
    (ha : PA X (e :: es) t) (hkw : PK X kws tk) (hall : (backToKw pos (keywordEach kws X.env)).all (·.1.isSome) = true) (hks : (backToKw pos (keywordEach kws X.env)).filterMap (·.1) = ks)
    (hdb : (x == ("__debug__" : Str)) = false) (he : starEach (e :: es) X.env = (false, eval e X.env) :: starEach es X.env)
    (hpl : ((backTo pos (starEach (e :: es) X.env)).any (·.1) || (backToKw pos (keywordEach kws X.env)).any (·.1.isNone)) = false) : PE X (.Call (.Name x p) (e :: es) kws pos) (tCallGK sp gV E t tk) := by
  refine ⟨fun pins s σ H Q I h => wpAny_Call_Name_kw (ld_glob I hg hm (PySem.W.callWith_KW (h₀ := X.base) I.ok.mod.kin hk hall (thn (ha.run pos pins s σ H _ I h) fun us s1 hh => ?_) hpl he) hdb)⟩
  obtain ⟨vs, H1, I1, r, q⟩ := hh
  refine thn (hkw.run pos pins s1 σ H1 _ I1 q) fun ws s2 h2 => ?_
  obtain ⟨zs, H2, I2, rz, q2⟩ := h2
  refine ⟨I2.kIn, ?_⟩
  rw [hks]
  exact wp_callGK F hr hb (hx σ) I2 r rz q2
theorem pe_callGK0 (F : FnG X.prog X.w X.K X.mg X.base k f fd ps sp) (hr : RoomG k X.A) (hg : Gl X x) (hm : X.mg x = some (.ref f)) (hk : PySem.W.keepIn X.K (.ref f) = true) (hb : KBinds X.K fd ps ks g gV) (hx : ∀ σ, PassesAt (L2.CX X.prog X.w) X σ (E σ))
    (hkw : PK X kws tk) (hall : (backToKw pos (keywordEach kws X.env)).all (·.1.isSome) = true) (hks : (backToKw pos (keywordEach kws X.env)).filterMap (·.1) = ks)
    (hdb : (x == ("__debug__" : Str)) = false) (hpl : ((backTo pos (starEach [] X.env)).any (·.1) || (backToKw pos (keywordEach kws X.env)).any (·.1.isNone)) = false) : PE X (.Call (.Name x p) [] kws pos) (tCallGK sp gV E tNil tk) := by
  refine ⟨fun pins s σ H Q I h => wpAny_Call_Name_kw (ld_glob I hg hm (PySem.W.callWith_KW0 (h₀ := X.base) I.ok.mod.kin hk hall (thn (hkw.run pos pins s σ H _ I h) fun ws s2 h2 => ?_) hpl) hdb)⟩
  obtain ⟨zs, H2, I2, rz, q2⟩ := h2
  refine ⟨I2.kIn, ?_⟩
  rw [hks]
  exact wp_callGK F hr hb (hx σ) I2 .nil rz q2
end
end DL
namespace DL
open PySem PySem.Spec PyProof.Rows L2
section
variable {K : PySem.W.Frag} {X : Cx} {C : Ct}
/-- a list that nobody knows is made known -/
theorem Rs.freezeD {F H : Hp} {σ : L2.St} {sd : DSt} {p : Addr} {vs : List V} {ds : List PyData} (R : Rs K C F H σ sd) (h : H p = some (.lst vs)) (hF : F p = none) (h0 : C.H0 p = none) (ho : ¬ Owned σ sd p) (r : RpA K F vs ds) :
    Rs K C (upd F p (.lst vs)) H σ sd ∧ Rp K (upd F p (.lst vs)) (.ref p) (.list ds) := by
  have sF : Same F (upd F p (.lst vs)) := same_new hF
  refine ⟨⟨R.len, R.grow.trans sF, fun a x e => ?_, fun a x e => ?_, R.keep, R.still, fun i => ?_, R.sep⟩, .lst upd_same (r.mono sF)⟩
  · by_cases z : a = p
    · subst z; rw [upd_same] at e; cases e; exact h
    · rw [upd_ne z] at e; exact R.ext a x e
  · by_cases z : a = p
    · subst z; exact .inr h0
    · rw [upd_ne z] at e; exact R.new a x e
  · refine (R.slot i).grow sF fun q x o e eh en => ⟨eh, ?_⟩
    have : q ≠ p := fun z => by subst z; exact ho ⟨i, o, e⟩
    rw [upd_ne this]; exact en
theorem Stp.freezeD {F H F' H' : Hp} {σ : L2.St} {sd sd' : DSt} {p : Addr} {o : HO} (S : Stp σ sd F H F' H' sd') (hF : F' p = none) (hn : H p = none) : Stp σ sd F H (upd F' p o) H' sd' where
  fr := S.fr.trans (same_new hF)
  kp := S.kp
  ow := S.ow
  nw := fun a x e => by
    by_cases z : a = p
    · subst z; exact .inr (.inl hn)
    · rw [upd_ne z] at e; exact S.nw a x e
  st := S.st
theorem td_lcV {mi : MI} {mg : MG} {mt : MT} {me : ME} {vs : List Nat} : ∀ σ H Q, tD K C (mLc mi mg mt me vs) σ H Q → tLc (tDI K C mi) (tDGv K C vs mg) (tDT K C mt) (tD K C me) vs σ H Q := by
  rintro σ H Q ⟨F, sd, Qd, R, h, k⟩
  refine td_lc R h fun Dl H' F' out vout sd' R' S h1 r hF h0 ho hn q => ?_
  obtain ⟨R2, rp⟩ := R'.freezeD h1 hF h0 ho r
  exact k _ H' _ _ sd' R2 (S.freezeD hF hn) rp q
theorem td_lcR {mi : MI} {mg : MG} {mt : MT} {me : ME} {vs : List Nat} : ∀ σ H Q, tDR K C (mrLc mi mg mt me vs) σ H Q → tLc (tDI K C mi) (tDGv K C vs mg) (tDT K C mt) (tD K C me) vs σ H Q := by
  rintro σ H Q ⟨F, sd, Qd, R, h, k⟩
  refine td_lc R h fun Dl H' F' out vout sd' R' S h1 r hF h0 ho hn q => ?_
  exact k _ H' F' (.own out) sd' R' S ⟨Dl, vout, rfl, h1, hF, h0, r⟩ (fun _ z e => by cases e; exact ho) (fun _ z e => by cases e; exact hn) q
variable {elt tg iter : Expr} {ifs : List Expr} {scope : Scope} {pos : Pos} {mi : MI} {mg : MG} {mt : MT} {me : ME} {vs : List Nat}
theorem pd_lc (t : PE X (.ListComp elt [⟨tg, iter, ifs, 0⟩] scope pos) (tLc (tDI X.K C mi) (tDGv X.K C vs mg) (tDT X.K C mt) (tD X.K C me) vs)) : PE X (.ListComp elt [⟨tg, iter, ifs, 0⟩] scope pos) (tD X.K C (mLc mi mg mt me vs)) := pe_imp t td_lcV
theorem pdr_lc (t : PE X (.ListComp elt [⟨tg, iter, ifs, 0⟩] scope pos) (tLc (tDI X.K C mi) (tDGv X.K C vs mg) (tDT X.K C mt) (tD X.K C me) vs)) : PE X (.ListComp elt [⟨tg, iter, ifs, 0⟩] scope pos) (tDR X.K C (mrLc mi mg mt me vs)) := pe_imp t td_lcR
/-- y = [..] on one line -/
theorem pds_setLc {y : Expr} {spos : Pos} {i : Nat} (t : PS X (.Assign [y] (.ListComp elt [⟨tg, iter, ifs, 0⟩] scope pos) spos) (tAsg (tLc (tDI X.K C mi) (tDGv X.K C vs mg) (tDT X.K C mt) (tD X.K C me) vs) (gName i))) :
    PS X (.Assign [y] (.ListComp elt [⟨tg, iter, ifs, 0⟩] scope pos) spos) (tDS X.K C (mAsg (mLc mi mg mt me vs) (mgName i))) := ps_imp t (by
  rintro D σ H ⟨F, sd, Dd, R, E, h⟩
  refine td_lcV σ H _ ⟨F, sd, _, R, h, fun v H1 F1 d sd1 R1 S1 r q => ?_⟩
  exact E.nx F1 H1 _ _ S1.fr (R1.setva r) q)
theorem pds_setLcR {y : Expr} {spos : Pos} {i : Nat} (t : PS X (.Assign [y] (.ListComp elt [⟨tg, iter, ifs, 0⟩] scope pos) spos) (tAsg (tLc (tDI X.K C mi) (tDGv X.K C vs mg) (tDT X.K C mt) (tD X.K C me) vs) (gName i))) :
    PS X (.Assign [y] (.ListComp elt [⟨tg, iter, ifs, 0⟩] scope pos) spos) (tDS X.K C (mAsgR i (mrLc mi mg mt me vs))) := ps_imp t (by
  rintro D σ H ⟨F, sd, Dd, R, E, h⟩
  refine td_lcR σ H _ ⟨F, sd, _, R, h, fun v H1 F1 r sd1 R1 S1 rv fre new q => ?_⟩
  exact E.nx F1 H1 _ _ S1.fr (R1.setr rv fre) q)
theorem pdts_nil : PTs X [] (tDT X.K C mTYes) := ⟨fun pins s σ H Q I h => (pts_nil (X := X)).run pins s σ H Q I (by
  obtain ⟨F, sd, Qd, R, h, k⟩ := h
  exact k true H F sd R .refl h)⟩
theorem pdts_one {c : Expr} {t : MT} (h : PT X c (tDT X.K C t)) : PTs X [c] (tDT X.K C t) := pts_one h
end
/-- behind a call that was handed frozen data alone -/
structure Post (K : PySem.W.Frag) (F H F' H' : Hp) : Prop where
  fr : Same F F'
  ext : Same F' H'
  kp : Same H H'
  nw : ∀ a o, F' a = some o → F a = some o ∨ H a = none
def ResOk (K : PySem.W.Frag) (F' H H' : Hp) (v : V) : S → Prop
  | .no => True
  | .scr ns => ∃ p, v = .ref p ∧ SqL K F' p (ns.map V.int)
  | .exc a => v = .ref a
  | .ins c es => ∃ p Cc dx fs, v = .ref p ∧ H' p = some (.ins Cc dx fs) ∧ F' p = none ∧ H p = none ∧ ObjC K c Cc ∧ RpF K F' fs es
  | .va d => Rp K F' v d
  | .own ds => ∃ p vs, v = .ref p ∧ H' p = some (.lst vs) ∧ F' p = none ∧ H p = none ∧ RpA K F' vs ds
  | .well n => ∃ p a b c, v = .ref p ∧ H' p = some (.lst [.int a, .int b, .int c]) ∧ F' p = none ∧ H p = none ∧ WellOk n a b c
def spP (K : PySem.W.Frag) (CN : String → Option Addr) (spec : PSpec) : Sp := fun vs H Q E => ∃ F ds Qd Ed, Same F H ∧ RpA K F vs ds ∧ spec ds Qd Ed ∧
  (∀ v H' F' r, Post K F H F' H' → ResOk K F' H H' v r → Qd r → Q v H') ∧ ∀ c a H' F', CN c = some a → Post K F H F' H' → Ed c → E (.ref a) none H'
/-- .. and the well -/
structure PostW (K : PySem.W.Frag) (p : Addr) (F H F' H' : Hp) (n' : Nat) : Prop where
  fr : Same F F'
  ext : Same F' H'
  kp : ∀ a o, a ≠ p → H a = some o → H' a = some o
  nw : ∀ a o, F' a = some o → F a = some o ∨ H a = none
  wl : ∃ a b c, H' p = some (.lst [.int a, .int b, .int c]) ∧ WellOk n' a b c
def spW (K : PySem.W.Frag) (spec : WSpec) : Sp := fun vs H Q _ => ∃ F p ws n a b c ds Qd, vs = .ref p :: ws ∧ Same F H ∧ F p = none ∧ H p = some (.lst [.int a, .int b, .int c]) ∧ WellOk n a b c ∧ RpA K F ws ds ∧ spec n ds Qd ∧
  ∀ v H' F' r n', PostW K p F H F' H' n' → ResOk K F' H H' v r → Qd r n' → Q v H'
section
variable {K : PySem.W.Frag} {X : Cx} {C : Ct} {F H F' H' : Hp} {σ : L2.St} {sd : DSt}
theorem Rs.post (R : Rs K C F H σ sd) (P : Post K F H F' H') : Rs K C F' H' σ sd ∧ Stp σ sd F H F' H' sd := by
  have ns : ∀ a, H' a = none → H a = none := fun a e => P.kp.free e
  refine ⟨⟨R.len, R.grow.trans P.fr, P.ext, fun a o e => ?_, fun a o e n => P.kp a o (R.keep a o e n), fun a e => R.still a (ns a e), fun i => (R.slot i).grow P.fr fun q x o e eh en => ⟨P.kp q x eh, ?_⟩, R.sep⟩, ⟨P.fr, fun a o e _ => P.kp a o e, fun _ z => z, fun a o e => ?_, ns⟩⟩
  · rcases P.nw a o e with e | e
    · exact R.new a o e
    · exact .inr (R.still a e)
  · cases z : F' q with
    | none => rfl
    | some y =>
      rcases P.nw q y z with z | z
      · rw [en] at z; cases z
      · rw [eh] at z; cases z
  · rcases P.nw a o e with e | e
    · exact .inl e
    · exact .inr (.inl e)
/-- the result of a call, frozen where it is a list -/
theorem Rs.res {H0 : Hp} {F0 : Hp} {sd0 : DSt} {v : V} {r : S} {d : PyData} (R : Rs K C F' H' σ sd) (S : Stp σ sd0 F0 H0 F' H' sd) (h : ResOk K F' H H' v r) (hn : ∀ p, H p = none → H0 p = none ∧ ¬ Owned σ sd p ∧ C.H0 p = none) (hf : fz r = some d) :
    ∃ F2, Rs K C F2 H' σ sd ∧ Stp σ sd0 F0 H0 F2 H' sd ∧ Rp K F2 v d := by
  cases r with
  | no => cases hf
  | scr _ => cases hf
  | exc _ => cases hf
  | ins _ _ => cases hf
  | well n => cases hf
  | va d' => cases hf; exact ⟨F', R, S, h⟩
  | own ds =>
    cases hf
    obtain ⟨p, vs, rfl, h1, h2, h3, h4⟩ := h
    have hn3 := hn p h3
    obtain ⟨n1, n2, n3⟩ := hn3
    obtain ⟨R2, rp⟩ := R.freezeD h1 h2 n3 n2 h4
    exact ⟨_, R2, S.freezeD h2 n1, rp⟩
theorem Rs.fresh (R : Rs K C F H σ sd) {p : Addr} (h : H p = none) : ¬ Owned σ sd p ∧ C.H0 p = none :=
  by
  refine ⟨fun z => ?_, R.still p h⟩
  have e := owned_at R z
  rw [h] at e
  exact nomatch e
/-- a def of the text and its promise -/
structure CalP (P : Program) (w : World) (K : PySem.W.Frag) (mg : Str → Option Value) (base : Heap) (CN : String → Option Addr) (k : Nat) (x : Str) (spec : PSpec) : Prop where
  ex : ∃ f fd ps, FnG P w K mg base k f fd ps (spP K CN spec) ∧ mg x = some (.ref f) ∧ PySem.W.keepIn K (.ref f) = true ∧ Binds K fd ps []
structure CalW (P : Program) (w : World) (K : PySem.W.Frag) (mg : Str → Option Value) (base : Heap) (k : Nat) (x : Str) (spec : WSpec) : Prop where
  ex : ∃ f fd ps, FnG P w K mg base k f fd ps (spW K spec) ∧ mg x = some (.ref f) ∧ PySem.W.keepIn K (.ref f) = true ∧ Binds K fd ps []
theorem td_call {CN : String → Option Addr} {spec : PSpec} {W : WD} {ma : MA} : ∀ σ H Q, tD K C (mCall spec W ma) σ H Q → tCallG (spP K CN spec) (WE (wD K C CN W)) (tDA K C ma) σ H Q := by
  rintro σ H Q ⟨F, sd, Qd, R, h, k⟩
  refine ⟨F, sd, _, R, h, fun vs H1 F1 ds sd1 R1 S1 rs h1 => ⟨F1, ds, _, _, R1.ext, rs, h1, fun v H' F' r P ro q => ?_, fun c a H' F' hc P q => ?_⟩⟩
  · obtain ⟨d, hf, q⟩ := q
    obtain ⟨R2, S2⟩ := R1.post P
    obtain ⟨F2, R3, S3, rp⟩ := R2.res (S1.trans S2) ro (fun p hp => ⟨S1.st p hp, fun z => (R1.fresh hp).1 (S2.ow p z), (R1.fresh hp).2⟩) hf
    exact k v H' F2 d sd1 R3 S3 rp q
  · exact ⟨c, a, F', sd1, hc, rfl, rfl, (R1.post P).1, q⟩
theorem pd_call {CN : String → Option Addr} {spec : PSpec} {W : WD} {ma : MA} {x : Str} {p pos : Pos} {e : Expr} {es : List Expr} {k j : Nat} (c : CalP X.prog X.w X.K X.mg X.base CN k x spec) (hr : RoomG j X.A) (hk : k ≤ j) (tk : Takes X (wD X.K C CN W)) (ha : PA X (e :: es) (tDA X.K C ma)) (hg : Gl X x := by rfl)
    (hdb : (x == ("__debug__" : Str)) = false := by decide) (he : starEach (e :: es) X.env = (false, eval e X.env) :: starEach es X.env := by rfl) (hpl : (backTo pos (starEach es X.env)).any (·.1) = false := by rfl) :
    PE X (.Call (.Name x p) (e :: es) [] pos) (tD X.K C (mCall spec W ma)) := by
  obtain ⟨f, fd, ps, F, hm, hkp, hb⟩ := c.ex
  exact pe_imp (pe_callG F (hr.mono hk) hg hm hkp hb (passAt tk) ha hdb he hpl) td_call
/-- .. its result still owned -/
theorem td_callR {CN : String → Option Addr} {spec : PSpec} {W : WD} {ma : MA} (hw : C.isW = false) : ∀ σ H Q, tDR K C (mrCall spec W ma) σ H Q → tCallG (spP K CN spec) (WE (wD K C CN W)) (tDA K C ma) σ H Q := by
  rintro σ H Q ⟨F, sd, Qd, R, h, k⟩
  refine ⟨F, sd, _, R, h, fun vs H1 F1 ds sd1 R1 S1 rs h1 => ⟨F1, ds, _, _, R1.ext, rs, h1, fun v H' F' r P ro q => ?_, fun c a H' F' hc P q => ?_⟩⟩
  · obtain ⟨R2, S2⟩ := R1.post P
    have S3 := S1.trans S2
    have fr : ∀ p, H1 p = none → ¬ Owned σ sd1 p := fun p hp => (R1.fresh hp).1
    cases r with
    | no => exact k v H' F' .no sd1 R2 S3 trivial (fun z => nomatch z) (fun z => nomatch z) q
    | exc a => exact k v H' F' (.exc a) sd1 R2 S3 (congrArg some (show v = .ref a from ro)) (fun z => nomatch z) (fun z => nomatch z) q
    | scr ns => obtain ⟨p, rfl, h1⟩ := ro; exact k _ H' F' (.scr ns) sd1 R2 S3 ⟨p, rfl, h1⟩ (fun z => nomatch z) (fun z => nomatch z) q
    | va d => exact k v H' F' (.va d) sd1 R2 S3 ⟨v, rfl, ro⟩ (fun z => nomatch z) (fun z => nomatch z) q
    | own ds =>
      obtain ⟨p, vs', rfl, h1, h2, h3, h4⟩ := ro
      exact k _ H' F' (.own ds) sd1 R2 S3 ⟨p, vs', rfl, h1, h2, R1.still p h3, h4⟩ (fun _ z e => by cases e; exact fr p h3) (fun _ z e => by cases e; exact S1.st p h3) q
    | ins c es =>
      obtain ⟨p, Cc, dx, fs, rfl, h1, h2, h3, oc, h4⟩ := ro
      exact k _ H' F' (.ins c es) sd1 R2 S3 ⟨p, Cc, dx, fs, rfl, h1, h2, .inr ⟨hw, R1.still p h3⟩, oc, h4⟩ (fun _ z e => by cases e; exact fr p h3) (fun _ z e => by cases e; exact S1.st p h3) q
    | well n =>
      obtain ⟨p, a, b, cc, rfl, h1, h2, h3, h4⟩ := ro
      exact k _ H' F' (.well n) sd1 R2 S3 ⟨p, a, b, cc, rfl, h1, h2, .inr ⟨hw, R1.still p h3⟩, h4⟩ (fun _ z e => by cases e; exact fr p h3) (fun _ z e => by cases e; exact S1.st p h3) q
  · exact ⟨c, a, F', sd1, hc, rfl, rfl, (R1.post P).1, q⟩
theorem pdr_call {CN : String → Option Addr} {spec : PSpec} {W : WD} {ma : MA} {x : Str} {p pos : Pos} {e : Expr} {es : List Expr} {k j : Nat} (hw : C.isW = false) (c : CalP X.prog X.w X.K X.mg X.base CN k x spec) (hr : RoomG j X.A) (hk : k ≤ j) (tk : Takes X (wD X.K C CN W)) (ha : PA X (e :: es) (tDA X.K C ma)) (hg : Gl X x := by rfl)
    (hdb : (x == ("__debug__" : Str)) = false := by decide) (he : starEach (e :: es) X.env = (false, eval e X.env) :: starEach es X.env := by rfl) (hpl : (backTo pos (starEach es X.env)).any (·.1) = false := by rfl) :
    PE X (.Call (.Name x p) (e :: es) [] pos) (tDR X.K C (mrCall spec W ma)) := by
  obtain ⟨f, fd, ps, F, hm, hkp, hb⟩ := c.ex
  exact pe_imp (pe_callG F (hr.mono hk) hg hm hkp hb (passAt tk) ha hdb he hpl) (td_callR hw)
/-- f(well, e, ..) -/
theorem Rs.postW {i : Nat} {n n' : Nat} {p : Addr} (R : Rs K C F H σ sd) (h : sget sd i = .well n) (e : gv σ i = some (.ref p)) (hn : ∃ a b c, H p = some (.lst [.int a, .int b, .int c]) ∧ WellOk n a b c) (P : PostW K p F H F' H' n') :
    Rs K C F' H' σ (sset sd i (.well n')) ∧ Stp σ sd F H F' H' (sset sd i (.well n')) := by
  obtain ⟨a0, b0, c0, hp, _⟩ := hn
  have hi := R.slot i
  rw [h] at hi
  obtain ⟨p', a1, b1, c1, z1, z2, z3, z4, _⟩ := hi
  rw [e] at z1; cases z1
  have hl : i < sd.length := R.lt_of_own (by rw [h]; intro z; cases z)
  obtain ⟨a2, b2, c2, w1, w2⟩ := P.wl
  have Fp : F' p = none := by
    cases z : F' p with
    | none => rfl
    | some y =>
      rcases P.nw p y z with z | z
      · rw [z3] at z; cases z
      · rw [hp] at z; cases z
  have own : Owned σ sd p := ⟨i, by rw [h]; rfl, e⟩
  have other : ∀ j q, j ≠ i → isOwn (sget sd j) = true → gv σ j = some (.ref q) → q ≠ p := fun j q hj ho eq z => by
    subst z
    exact R.sep i j q (Ne.symm hj) (by rw [h]; rfl) ho e eq
  have ns : ∀ a, H' a = none → H a = none := fun a z => by
    by_cases za : a = p
    · subst za; rw [w1] at z; cases z
    · cases q : H a with
      | none => rfl
      | some o => rw [P.kp a o za q] at z; cases z
  have ow : ∀ a, Owned σ (sset sd i (.well n')) a → Owned σ sd a := fun a ⟨j, o, ev⟩ => by
    by_cases hj : j = i
    · subst hj; rw [e] at ev; cases ev; exact own
    · rw [sget_sset_ne hj] at o; exact ⟨j, o, ev⟩
  refine ⟨⟨by rw [sset_length]; exact R.len, R.grow.trans P.fr, P.ext, fun a o q => ?_, fun a o q n => ?_, fun a z => R.still a (ns a z), fun j => ?_, fun j k q hjk o1 o2 z1 => ?_⟩, ⟨P.fr, fun a o q n => P.kp a o (fun z => n (z ▸ own)) q, ow, fun a o q => ?_, ns⟩⟩
  · rcases P.nw a o q with q | q
    · exact R.new a o q
    · exact .inr (R.still a q)
  · have ha := R.keep a o q n
    by_cases za : a = p
    · subst za
      rcases z4 with z4 | z4
      · exact (n z4.2).elim
      · rw [z4.2] at q; cases q
    · exact P.kp a o za ha
  · by_cases hj : j = i
    · subst hj; rw [sget_sset hl]; exact ⟨p, a2, b2, c2, e, w1, Fp, z4, w2⟩
    · rw [sget_sset_ne hj]
      refine (R.slot j).grow P.fr fun q x ho eq eh en => ⟨P.kp q x (other j q hj ho eq) eh, ?_⟩
      cases z : F' q with
      | none => rfl
      | some y =>
        rcases P.nw q y z with z | z
        · rw [en] at z; cases z
        · rw [eh] at z; cases z
  · have own_of : ∀ m, isOwn (sget (sset sd i (.well n')) m) = true → isOwn (sget sd m) = true := fun m o => by
      by_cases hm : m = i
      · subst hm; rw [h]; rfl
      · rw [sget_sset_ne hm] at o; exact o
    exact R.sep j k q hjk (own_of j o1) (own_of k o2) z1
  · rcases P.nw a o q with q | q
    · exact .inl q
    · exact .inr (.inl q)
theorem td_callW {spec : WSpec} {i : Nat} {ma : MA} {E : L2.St → XK} : ∀ σ H Q, tD K C (mCallW spec i ma) σ H Q → tCallG (spW K spec) E (tCons (tVar i) (tDA K C ma)) σ H Q := by
  rintro σ H Q ⟨F, sd, Qd, R, ⟨⟨n0, hn0⟩, h⟩, k⟩
  have hi := R.slot i
  rw [hn0] at hi
  obtain ⟨p, _, _, _, e1, _⟩ := hi
  refine ⟨.ref p, gv_some.mp e1, F, sd, _, R, h, fun vs H1 F1 ds sd1 R1 S1 rs h1 => ?_⟩
  obtain ⟨n, hn, h1⟩ := h1
  have hi1 := R1.slot i
  rw [hn] at hi1
  obtain ⟨p', a, b, c, z1, z2, z3, z4, z5⟩ := hi1
  rw [e1] at z1; cases z1
  refine ⟨F1, p, vs, n, a, b, c, ds, _, rfl, R1.ext, z3, z2, z5, rs, h1, fun v H' F' r n' P ro q => ?_⟩
  obtain ⟨d, hf, q⟩ := q
  obtain ⟨R2, S2⟩ := R1.postW hn e1 ⟨a, b, c, z2, z5⟩ P
  obtain ⟨F2, R3, S3, rp⟩ := R2.res (S1.trans S2) ro (fun p hp => ⟨S1.st p hp, fun z => (R1.fresh hp).1 (S2.ow p z), (R1.fresh hp).2⟩) hf
  exact k v H' F2 d _ R3 S3 rp q
theorem pd_callW {spec : WSpec} {i : Nat} {ma : MA} {x y : Str} {p p2 pos : Pos} {es : List Expr} {k j : Nat} {W : WX} (c : CalW X.prog X.w X.K X.mg X.base k x spec) (hr : RoomG j X.A) (hk : k ≤ j) (tk : Takes X W) (hy : PE X (.Name y p2) (tVar i)) (ha : PA X es (tDA X.K C ma)) (hg : Gl X x := by rfl)
    (hdb : (x == ("__debug__" : Str)) = false := by decide) (he : starEach (.Name y p2 :: es) X.env = (false, eval (.Name y p2) X.env) :: starEach es X.env := by rfl) (hpl : (backTo pos (starEach es X.env)).any (·.1) = false := by rfl) :
    PE X (.Call (.Name x p) (.Name y p2 :: es) [] pos) (tD X.K C (mCallW spec i ma)) := by
  obtain ⟨f, fd, ps, F, hm, hkp, hb⟩ := c.ex
  exact pe_imp (pe_callG F (hr.mono hk) hg hm hkp hb (passAt tk) (pa_cons hy ha he) hdb he hpl) td_callW
/-- the def's order out of what is given by place and by keyword -/
structure Ord (g : {α : Type} → List α → List α → List α) : Prop where
  rel : ∀ {α β : Type} (R : α → β → Prop) {as cs : List α} {bs ds : List β}, Paired R as bs → Paired R cs ds → Paired R (g as cs) (g bs ds)
theorem rpA_paired {F : Hp} : ∀ {vs : List V} {ds : List PyData}, RpA K F vs ds → Paired (Rp K F) vs ds
  | _, _, .nil => .nil
  | _, _, .cons h r => .cons h (rpA_paired r)
theorem paired_rpA {F : Hp} : ∀ {vs : List V} {ds : List PyData}, Paired (Rp K F) vs ds → RpA K F vs ds
  | _, _, .nil => .nil
  | _, _, .cons h r => .cons h (paired_rpA r)
structure CalK (P : Program) (w : World) (K : PySem.W.Frag) (mg : Str → Option Value) (base : Heap) (CN : String → Option Addr) (k : Nat) (x : Str) (spec : PSpec) (ks : List Str) (g : {α : Type} → List α → List α → List α) : Prop where
  ex : ∃ f fd ps, FnG P w K mg base k f fd ps (spP K CN spec) ∧ mg x = some (.ref f) ∧ PySem.W.keepIn K (.ref f) = true ∧ KBinds K fd ps ks g g
  ord : Ord g
theorem td_callK {CN : String → Option Addr} {spec : PSpec} {W : WD} {ma mk : MA} {g : {α : Type} → List α → List α → List α} (og : Ord g) : ∀ σ H Q, tD K C (mCallK spec W g ma mk) σ H Q → tCallGK (spP K CN spec) g (WE (wD K C CN W)) (tDA K C ma) (tDA K C mk) σ H Q := by
  rintro σ H Q ⟨F, sd, Qd, R, h, k⟩
  refine ⟨F, sd, _, R, h, fun vs H1 F1 ds sd1 R1 S1 rs h1 => ⟨F1, sd1, _, R1, h1, fun zs H2 F2 es sd2 R2 S2 rz h2 => ?_⟩⟩
  refine ⟨F2, g ds es, _, _, R2.ext, paired_rpA (og.rel _ (rpA_paired (rs.mono S2.fr)) (rpA_paired rz)), h2, fun v H' F' r P ro q => ?_, fun c a H' F' hc P q => ?_⟩
  · obtain ⟨d, hf, q⟩ := q
    obtain ⟨R3, S3⟩ := R2.post P
    have S12 := S1.trans S2
    obtain ⟨F3, R4, S4, rp⟩ := R3.res (S12.trans S3) ro (fun p hp => ⟨S12.st p hp, fun z => (R2.fresh hp).1 (S3.ow p z), (R2.fresh hp).2⟩) hf
    exact k v H' F3 d sd2 R4 S4 rp q
  · exact ⟨c, a, F', sd2, hc, rfl, rfl, (R2.post P).1, q⟩
theorem pd_callK {CN : String → Option Addr} {spec : PSpec} {W : WD} {ma mk : MA} {x : Str} {p pos : Pos} {e : Expr} {es : List Expr} {kws : List Keyword} {ks : List Str} {k j : Nat} {g : {α : Type} → List α → List α → List α} (c : CalK X.prog X.w X.K X.mg X.base CN k x spec ks g) (hr : RoomG j X.A) (hk : k ≤ j) (tk : Takes X (wD X.K C CN W))
    (ha : PA X (e :: es) (tDA X.K C ma)) (hkw : PK X kws (tDA X.K C mk)) (hg : Gl X x := by rfl) (hall : (backToKw pos (keywordEach kws X.env)).all (·.1.isSome) = true := by rfl) (hks : (backToKw pos (keywordEach kws X.env)).filterMap (·.1) = ks := by rfl)
    (hdb : (x == ("__debug__" : Str)) = false := by decide) (he : starEach (e :: es) X.env = (false, eval e X.env) :: starEach es X.env := by rfl)
    (hpl : ((backTo pos (starEach (e :: es) X.env)).any (·.1) || (backToKw pos (keywordEach kws X.env)).any (·.1.isNone)) = false := by rfl) : PE X (.Call (.Name x p) (e :: es) kws pos) (tD X.K C (mCallK spec W g ma mk)) := by
  obtain ⟨f, fd, ps, F, hm, hkp, hb⟩ := c.ex
  exact pe_imp (pe_callGK F (hr.mono hk) hg hm hkp hb (passAt tk) ha hkw hall hks hdb he hpl) (td_callK c.ord)
theorem pd_callK0 {CN : String → Option Addr} {spec : PSpec} {W : WD} {mk : MA} {x : Str} {p pos : Pos} {kws : List Keyword} {ks : List Str} {k j : Nat} {g : {α : Type} → List α → List α → List α} (c : CalK X.prog X.w X.K X.mg X.base CN k x spec ks g) (hr : RoomG j X.A) (hk : k ≤ j) (tk : Takes X (wD X.K C CN W))
    (hkw : PK X kws (tDA X.K C mk)) (hg : Gl X x := by rfl) (hall : (backToKw pos (keywordEach kws X.env)).all (·.1.isSome) = true := by rfl) (hks : (backToKw pos (keywordEach kws X.env)).filterMap (·.1) = ks := by rfl)
    (hdb : (x == ("__debug__" : Str)) = false := by decide) (hpl : ((backTo pos (starEach [] X.env)).any (·.1) || (backToKw pos (keywordEach kws X.env)).any (·.1.isNone)) = false := by rfl) : PE X (.Call (.Name x p) [] kws pos) (tD X.K C (mCallK spec W g mNil mk)) := by
  obtain ⟨f, fd, ps, F, hm, hkp, hb⟩ := c.ex
  refine pe_imp (pe_callGK0 F (hr.mono hk) hg hm hkp hb (passAt tk) hkw hall hks hdb hpl) fun σ H Q h => ?_
  have h' := td_callK (CN := CN) c.ord σ H Q h
  obtain ⟨F, sd, Qd, R, h1, h2⟩ := h'
  exact h2 [] H F [] sd R .refl .nil h1
/-- a call without arguments -/
theorem pd_call0 {CN : String → Option Addr} {spec : PSpec} {W : WD} {x : Str} {p pos : Pos} {k j : Nat} (c : CalP X.prog X.w X.K X.mg X.base CN k x spec) (hr : RoomG j X.A) (hk : k ≤ j) (tk : Takes X (wD X.K C CN W)) (hg : Gl X x := by rfl)
    (hdb : (x == ("__debug__" : Str)) = false := by decide) : PE X (.Call (.Name x p) [] [] pos) (tD X.K C (mCall spec W mNil)) := by
  obtain ⟨f, fd, ps, F, hm, hkp, hb⟩ := c.ex
  refine pe_imp (pe_callG0 F (hr.mono hk) hg hm hkp hb (passAt tk) hdb) fun σ H Q h => ?_
  obtain ⟨F, sd, Qd, R, h1, h2⟩ := td_call (CN := CN) σ H Q h
  exact h2 [] H F [] sd R .refl .nil h1
end
end DL
namespace DL
open PySem PySem.Spec PyProof.Rows L2
/-- a def's body's context -/
abbrev cxD (P : Program) (w : World) (K : PySem.W.Frag) (mg : Str → Option Value) (base : Heap) (N : List Str) (qual : Str) (sc : Scope) (f : Addr) (cdv : Value) (A : Around) (outer : List Env) (s : Shared) (H : Hp) (E : XK) : Cx :=
  cxOf (L2.CX P w) P w K mg base N qual sc f cdv A outer s H E
theorem sget_va : ∀ {ds : List PyData} {k i : Nat} {s : S}, sget (ds.map S.va ++ List.replicate k .no) i = s → (∃ d, ds[i]? = some d ∧ s = .va d) ∨ s = .no
  | [], k, i, s, h => by
    right
    rw [← h]
    have : ∀ (k i : Nat), sget (List.replicate k S.no) i = .no := by
      intro k
      induction k with
      | zero => intro _; rfl
      | succ k ih => intro i; cases i with
        | zero => rfl
        | succ i => exact ih i
    exact this k i
  | d :: ds, k, 0, s, h => .inl ⟨d, rfl, h.symm⟩
  | d :: ds, k, i + 1, s, h => by
    rcases sget_va (ds := ds) (k := k) (i := i) h with ⟨d', h1, h2⟩ | h
    · exact .inl ⟨d', by simpa using h1, h2⟩
    · exact .inr h
theorem start_gv {N : List Str} {vs : List V} {i : Nat} {v : V} (h : vs[i]? = some v) : gv (L2.start N vs) i = some v := by
  unfold L2.start gv
  have hi := (List.getElem?_eq_some_iff.mp h).1
  rw [List.getElem?_append_left (by simpa using hi), List.getElem?_map, h]
  rfl
section
variable {P : Program} {w : World} {K : PySem.W.Frag} {mg : Str → Option Value} {base : Heap} {CN : String → Option Addr}
theorem rs_start {F H : Hp} {N : List Str} {vs : List V} {ds : List PyData} (e : Same F H) (r : RpA K F vs ds) (hl : ds.length ≤ N.length) : Rs K ⟨F, H, fun _ => False, false⟩ F H (L2.start N vs) (slots0 N.length ds) where
  len := by unfold L2.start slots0; simp [r.length]
  grow := Same.refl _
  ext := e
  new := fun a o h => .inl h
  keep := fun a o h _ => h
  still := fun a h => h
  slot := fun i => by
    rcases sget_va (s := sget (slots0 N.length ds) i) rfl with ⟨d, h1, h2⟩ | h
    · rw [h2]
      obtain ⟨v, e1, rv⟩ := r.get h1
      exact ⟨v, start_gv e1, rv⟩
    · rw [h]; trivial
  sep := fun i j p _ o _ _ => by
    rcases sget_va (s := sget (slots0 N.length ds) i) rfl with ⟨d, h1, h2⟩ | h
    · rw [h2] at o; cases o
    · rw [h] at o; cases o
theorem takes_cxD {N : List Str} {qual : Str} {sc : Scope} {f : Addr} {cdv : Value} {A : Around} {outer : List Env} {s : Shared} {H : Hp} {E : XK} {W : WX} (h : ∀ cls d σ H, W cls d σ H → E cls d H) : Takes (cxD P w K mg base N qual sc f cdv A outer s H E) W :=
  (takes_of (X := cxD P w K mg base N qual sc f cdv A outer s H E) rfl rfl rfl rfl).imp h
/-- a def that is handed data -/
theorem fun_okP {x qual : Str} {st : Stmt} {f : Addr} {fd : FuncData} {N ps : List Str} {k : Nat} {spec : PSpec} {m : WD → MS} (F : Fun K x qual st f fd) (S : FnScope N ps (defScope st)) (hN : ps.length ≤ N.length) (len : ∀ ds Q E, spec ds Q E → ds.length = ps.length)
    (hbody : ∀ (cdv : Value) (A : Around) (outer : List Env) (s : Shared) (H : Hp) (E : XK) (C : Ct) (W : WD), C.isW = false → RoomG k (A.deeper (envOfC qual (defScope st) s.heap.objs.size f cdv)) →
      Takes (cxD P w K mg base N qual (defScope st) f cdv A outer s H E) (wD K C CN W) → PSs (cxD P w K mg base N qual (defScope st) f cdv A outer s H E) (defBody st) (tDS K C (m W)))
    (rd : ∀ ds Q E, spec ds Q E → m (fun c _ => E c) (endP Q) (slots0 N.length ds)) : FnG P w K mg base (k + 1) f fd ps (spP K CN spec) := by
  refine fun_okG F S (fun vs H Q E h => ?_) (fun cdv A outer s H vs Q E hr h => ?_)
  · obtain ⟨F0, ds, Qd, Ed, _, r, hs, _⟩ := h
    rw [r.length]; exact len _ _ _ hs
  · obtain ⟨F0, ds, Qd, Ed, e, r, hs, hq, he⟩ := h
    have R0 := rs_start (N := N) e r (by rw [len _ _ _ hs]; exact hN)
    have post : ∀ {F1 H1 : Hp} {σ : L2.St} {sd : DSt}, Rs K ⟨F0, H, fun _ => False, false⟩ F1 H1 σ sd → Post K F0 H F1 H1 := fun R => ⟨R.grow, R.ext, fun a o z => R.keep a o z (fun q => q), R.new⟩
    refine ⟨_, hbody cdv A outer s H E ⟨F0, H, fun _ => False, false⟩ (fun c _ => Ed c) rfl hr (takes_cxD fun cls d σ H' hw => ?_), F0, _, endP Qd, R0, ⟨fun F1 H1 σ sd _ R q => ?_, fun F1 H1 σ sd v r _ R rv own q => ?_, fun _ _ _ _ _ _ z => z.elim, fun _ _ _ _ _ _ z => z.elim⟩, rd ds Qd Ed hs⟩
    · obtain ⟨c, a, F1, sd, hc, rfl, rfl, R, q⟩ := hw
      exact he c a H' F1 hc (post R) q
    · exact hq .non H1 F1 (.va .none) (post R) .non q
    · refine hq v H1 F1 r (post R) ?_ q
      cases r with
      | no => trivial
      | va d => obtain ⟨v', e1, q⟩ := rv; cases e1; exact q
      | own ds' => obtain ⟨p, vs', e1, h1, h2, h3, h4⟩ := rv; cases e1; exact ⟨p, vs', rfl, h1, h2, h3, h4⟩
      | scr ns => obtain ⟨p, e1, h1⟩ := rv; cases e1; exact ⟨p, rfl, h1⟩
      | exc a => exact Option.some.inj rv
      | ins c es => obtain ⟨p, Cc, dx, fs, e1, h1, h2, h3, oc, h4⟩ := rv; cases e1; exact ⟨p, Cc, dx, fs, rfl, h1, h2, own rfl p rfl, oc, h4⟩
      | well n => obtain ⟨p, a, b, c, e1, h1, h2, h3, h4⟩ := rv; cases e1; exact ⟨p, a, b, c, rfl, h1, h2, own rfl p rfl, h4⟩
theorem rs_startW {F H : Hp} {N : List Str} {p : Addr} {vs : List V} {ds : List PyData} {n : Nat} {a b c : Int} (e : Same F H) (hF : F p = none) (hp : H p = some (.lst [.int a, .int b, .int c])) (hw : WellOk n a b c) (r : RpA K F vs ds) (hl : ds.length + 1 ≤ N.length) :
    Rs K ⟨F, H, fun q => q = p, true⟩ F H (L2.start N (.ref p :: vs)) (slotsW N.length n ds) where
  len := by unfold L2.start slotsW slots0; simp [r.length]; omega
  grow := Same.refl _
  ext := e
  new := fun a o h => .inl h
  keep := fun a o h _ => h
  still := fun a h => h
  slot := fun i => by
    cases i with
    | zero => exact ⟨p, a, b, c, rfl, hp, hF, .inl ⟨rfl, rfl⟩, hw⟩
    | succ i =>
      show SlotOk K _ F H _ (sget (slots0 (N.length - 1) ds) i)
      rcases sget_va (s := sget (slots0 (N.length - 1) ds) i) rfl with ⟨d, h1, h2⟩ | h
      · rw [h2]
        obtain ⟨v, e1, rv⟩ := r.get h1
        exact ⟨v, start_gv (i := i + 1) (by simpa using e1), rv⟩
      · rw [h]; trivial
  sep := fun i j q hij o1 o2 => by
    have z : ∀ k, isOwn (sget (slotsW N.length n ds) k) = true → k = 0 := fun k o => by
      cases k with
      | zero => rfl
      | succ k =>
        have o : isOwn (sget (slots0 (N.length - 1) ds) k) = true := o
        rcases sget_va (s := sget (slots0 (N.length - 1) ds) k) rfl with ⟨d, h1, h2⟩ | h
        · rw [h2] at o; cases o
        · rw [h] at o; cases o
    exact absurd ((z i o1).trans (z j o2).symm) hij
theorem fun_okW {x qual : Str} {st : Stmt} {f : Addr} {fd : FuncData} {N ps : List Str} {k : Nat} {spec : WSpec} {m : MS} (F : Fun K x qual st f fd) (S : FnScope N ps (defScope st)) (hN : ps.length ≤ N.length) (len : ∀ n ds Q, spec n ds Q → ds.length + 1 = ps.length)
    (hbody : ∀ (cdv : Value) (A : Around) (outer : List Env) (s : Shared) (H : Hp) (E : XK) (C : Ct), RoomG k (A.deeper (envOfC qual (defScope st) s.heap.objs.size f cdv)) →
      Takes (cxD P w K mg base N qual (defScope st) f cdv A outer s H E) (wD K C CN fun _ _ => False) → PSs (cxD P w K mg base N qual (defScope st) f cdv A outer s H E) (defBody st) (tDS K C m))
    (rd : ∀ n ds Q, spec n ds Q → m (endW Q) (slotsW N.length n ds)) : FnG P w K mg base (k + 1) f fd ps (spW K spec) := by
  refine fun_okG F S (fun vs H Q E h => ?_) (fun cdv A outer s H vs Q E hr h => ?_)
  · obtain ⟨F0, p, ws, n, a, b, c, ds, Qd, rfl, _, _, _, _, r, hs, _⟩ := h
    have := len _ _ _ hs
    have := r.length
    simp; omega
  · obtain ⟨F0, p, ws, n, a, b, c, ds, Qd, rfl, e, hF, hp, hw, r, hs, hq⟩ := h
    have R0 := rs_startW (N := N) e hF hp hw r (by rw [len _ _ _ hs]; exact hN)
    have post : ∀ {F1 H1 : Hp} {σ : L2.St} {sd : DSt} {n' : Nat}, Rs K ⟨F0, H, fun q => q = p, true⟩ F1 H1 σ sd → sget sd 0 = .well n' → PostW K p F0 H F1 H1 n' := fun {F1 H1 σ sd n'} R h0 => by
      have hs0 := R.slot 0
      rw [h0] at hs0
      obtain ⟨p', a', b', c', _, z2, _, z4, z5⟩ := hs0
      refine ⟨R.grow, R.ext, fun a o za z => R.keep a o z za, R.new, ?_⟩
      rcases z4 with z4 | z4
      · have : p' = p := z4.2
        subst this
        exact ⟨a', b', c', z2, z5⟩
      · cases z4.1
    refine ⟨_, hbody cdv A outer s H E ⟨F0, H, fun q => q = p, true⟩ hr (takes_cxD fun cls d σ H' hw => ?_), F0, _, endW Qd, R0, ⟨fun F1 H1 σ sd _ R q => ?_, fun F1 H1 σ sd v r _ R rv own q => ?_, fun _ _ _ _ _ _ z => z.elim, fun _ _ _ _ _ _ z => z.elim⟩, rd n ds Qd hs⟩
    · obtain ⟨c, a, F1, sd, hc, _, _, R, q⟩ := hw
      exact q.elim
    · obtain ⟨n', h0, q⟩ := q
      exact hq .non H1 F1 (.va .none) n' (post R h0) .non q
    · obtain ⟨n', h0, q⟩ := q
      refine hq v H1 F1 r n' (post R h0) ?_ q
      cases r with
      | no => trivial
      | va d => obtain ⟨v', e1, q⟩ := rv; cases e1; exact q
      | own ds' => obtain ⟨p, vs', e1, h1, h2, h3, h4⟩ := rv; cases e1; exact ⟨p, vs', rfl, h1, h2, h3, h4⟩
      | scr ns => obtain ⟨p, e1, h1⟩ := rv; cases e1; exact ⟨p, rfl, h1⟩
      | exc a => exact Option.some.inj rv
      | ins c es => obtain ⟨p, Cc, dx, fs, e1, h1, h2, h3, oc, h4⟩ := rv; cases e1; exact ⟨p, Cc, dx, fs, rfl, h1, h2, own rfl p rfl, oc, h4⟩
      | well n => obtain ⟨p, a, b, c, e1, h1, h2, h3, h4⟩ := rv; cases e1; exact ⟨p, a, b, c, rfl, h1, h2, own rfl p rfl, h4⟩
end
section
variable {K : PySem.W.Frag} {X : Cx} {C : Ct}
theorem pmk_own0 {c : Addr} {bmB : List Value} {B newId initId : String} {x : Str} {p pos : Pos} (F : ExcBaseFacts B newId initId bmB) (q : PySem.W.excIn X.K c bmB newId = true) (gC : X.mg x = some (.ref c)) (kC : PySem.W.keepIn X.K (.ref c) = true) (r : Raises X (.ref c)) (hg : Gl X x)
    (hdb : (x == ("__debug__" : Str)) = false := by decide) : PMk X (.Call (.Name x p) [] [] pos) (fun _ H Q => Q (.ref c) none H) := by
  intro pins s σ H Q I h
  refine wpAny_Call_Name_kw (ld_glob I hg gC (PySem.W.callWith_K0 I.kIn kC ?_) hdb)
  obtain ⟨bm, N, nm, qn, bs, hdct, sn, sub, ab, col, dd, k0, k1, k2, k3, k5, mN, hC, hN, hni, T⟩ := exc_obj I.kIn q
  obtain ⟨hp, g, d, t, os⟩ := s
  exact wpAny_call_exc_subT F T hC hN hni (fun h' e hm => mk_of I hm r h (I.hok.gone hm.new)) (Nat.zero_le _)
/-- what the written part says of an own error class over ValueError -/
structure ExcCls (K : PySem.W.Frag) (mg : Str → Option Value) (x : Str) (c : Addr) : Prop where
  gC : mg x = some (.ref c)
  q : PySem.W.excIn K c [.type "ValueError", .type "Exception", .type "BaseException", .type "object"] "ValueError.__new__" = true
  kC : PySem.W.keepIn K (.ref c) = true
  b : PySem.W.subIn K (.ref c) (.type "BaseException") = some true
  t : PySem.W.typeIn K (.ref c) = some (.type "type")
theorem pds_raise {CN : String → Option Addr} {W : WD} {cn : String} {x : Str} {c : Addr} {p pos pos2 : Pos} (hc : X.calm = true) (tk : Takes X (wD X.K C CN W)) (T : ExcCls X.K X.mg x c) (hn : CN cn = some c) (hg : Gl X x := by rfl) (hdb : (x == ("__debug__" : Str)) = false := by decide) :
    PS X (.Raise (some (.Call (.Name x p) [] [] pos)) none pos2) (tDS X.K C (mRaise cn W)) := ps_imp (ps_raise hc tk (pmk_own0 PySem.F.excBase_ValueError T.q T.gC T.kC (raises_own T.b T.t) hg hdb)) (by
  rintro D σ H ⟨F, sd, Dd, R, E, h⟩
  exact ⟨cn, c, F, sd, hn, rfl, rfl, R, h⟩)
end
end DL
namespace DL
open PySem PySem.Spec PyProof.Rows L2
/-- a text and a flat thing -/
def kvFlat (kv : PyData × PyData) : Bool := (match kv.1 with | .str _ => true | _ => false) && flatD kv.2
mutual
/-- every dict in it is empty -/
def dE : PyData → Bool
  | .none | .bool _ | .int _ | .str _ => true
  | .list xs => dEs xs
  | .tuple xs => dEs xs
  | .dict kvs => kvs.all kvFlat
def dEs : List PyData → Bool
  | [] => true
  | x :: xs => dE x && dEs xs
end
mutual
def noL : PyData → Bool
  | .none | .bool _ | .int _ | .str _ => true
  | .list _ => false
  | .tuple xs => noLs xs
  | .dict kvs => kvs.all kvFlat
def noLs : List PyData → Bool
  | [] => true
  | x :: xs => noL x && noLs xs
end
def reprOk (d : PyData) : Bool := dE d && (!d.hasDict || noL d) && d.showable && decide (d.shown.length ≤ 1000000) && decide (d.depth ≤ 64)
def bRepr : List PyData → Option PyData
  | [d] => if reprOk d = true then some (.str d.shown) else none
  | _ => none
section
variable {X : Cx} {pins : List (Addr × Obj)} {σ : L2.St} {H : Hp} {s : Shared} {K : PySem.W.Frag}
theorem flat_reads {F : Hp} {h : Heap} {d : PyData} {v : V} {u : Value} (hf : flatD d = true) (r : Rp K F v d) (rv : RelV v u) : Reads h u d [] := by
  cases r with
  | non => cases rv; exact .none
  | bl b => cases rv; exact .bool b
  | int i => obtain ⟨t, rfl⟩ := rv; exact .int i t
  | str x => obtain ⟨t, rfl⟩ := rv; exact .str x t
  | lst _ _ => cases hf
  | tup _ _ => cases hf
  | dct _ _ => cases hf
  | ins _ _ _ => cases hf
theorem key_str {P : Program} {w : World} {x : Str} {v : Value} (h : (mixKind P w).is (Sum.inr x) v = true) : ∃ t, v = .str x t := by
  have h : Value.isStrOf x v = true := h
  unfold Value.isStrOf at h
  split at h
  · simp at h
    rw [h]
    exact ⟨_, rfl⟩
  · cases h
theorem dict_reads {P : Program} {w : World} {F : Hp} {h : Heap} : ∀ {kvs : List (Key × V)} {es : List (PyData × PyData)} {vs : List (Key × Value)} {l : List DictEntry}, RpD K F kvs es → es.all kvFlat = true → KV kvs vs → Pairs (mixKind P w) l vs → ReadsAll h (l.map fun x => x.key) (es.map fun x => x.1) [] ∧ ReadsAll h (l.map fun x => x.val) (es.map fun x => x.2) [] := by
  intro kvs
  induction kvs with
  | nil =>
    intro es vs l rd _ kv pr
    cases rd
    cases kv
    cases pr
    exact ⟨.nil, .nil⟩
  | cons p kvs ih =>
    intro es vs l rd ha kv pr
    obtain ⟨k, v⟩ := p
    cases rd with
    | cons rd r =>
    cases kv with
    | cons h1 h2 =>
      cases pr with
      | cons p1 p2 p3 =>
        rw [List.all_cons, Bool.and_eq_true] at ha
        obtain ⟨a1, a2⟩ := ih r ha.2 h2 p3
        have hk := ha.1
        unfold kvFlat at hk
        rw [Bool.and_eq_true] at hk
        cases k with
        | inl i => exact absurd hk.1 (by simp [keyD])
        | inr x =>
          rw [← h1.1] at p1
          obtain ⟨t, e⟩ := key_str p1
          refine ⟨?_, ?_⟩
          · rw [List.map_cons, List.map_cons, e]
            exact .cons (.str x t) a1
          · rw [List.map_cons, List.map_cons, p2]
            exact .cons (flat_reads hk.2 rd h1.2) a2
mutual
theorem Rp.reads (I : Inv X pins σ H s) {F : Hp} (e : Same F H) : ∀ (d : PyData) (v : V) (u : Value), Rp X.K F v d → RelV v u → dE d = true → ∃ as, Reads s.heap u d as ∧ (noL d = true → sysModules ∉ as)
  | .none, _, _, h, r, _ => by cases h; cases r; exact ⟨_, .none, fun _ z => nomatch z⟩
  | .bool b, _, _, h, r, _ => by cases h; cases r; exact ⟨_, .bool b, fun _ z => nomatch z⟩
  | .int i, _, _, h, r, _ => by cases h; obtain ⟨t, rfl⟩ := r; exact ⟨_, .int i t, fun _ z => nomatch z⟩
  | .str x, _, _, h, r, _ => by cases h; obtain ⟨t, rfl⟩ := r; exact ⟨_, .str x t, fun _ z => nomatch z⟩
  | .list ds, _, _, h, r, hd => by
    cases h with
    | lst hs ha =>
      cases r
      obtain ⟨z, its, n, rv, e1⟩ := I.hok _ _ (e _ _ hs)
      obtain ⟨as, hr, _⟩ := RpA.reads I e ds _ its ha rv (by simpa [dE] using hd)
      exact ⟨_, .list e1 rfl rfl hr, fun z => by simp [noL] at z⟩
  | .tuple ds, _, _, h, r, hd => by
    cases h with
    | tup hs ha =>
      cases r
      obtain ⟨its, rv, ⟨o, ho, hc, n, hdt⟩, _⟩ := I.tuple (same_t e hs)
      obtain ⟨as, hr, hn⟩ := RpA.reads I e ds _ its ha rv (by simpa [dE] using hd)
      exact ⟨_, .tuple ho hc hdt hr, fun z => hn (by simpa [noL] using z)⟩
  | .dict es, _, _, h, r, hd => by
    cases h with
    | dct hs ha =>
      cases r
      have he : es.all kvFlat = true := by simpa only [dE] using hd
      obtain ⟨z, y, vs, rv, o, es', ep, h1, h2, h3, h4, h5, h6⟩ := I.hok _ _ (e _ _ hs)
      obtain ⟨a1, a2⟩ := dict_reads (h := s.heap) ha he rv h5
      exact ⟨_, .dict h1 h2.1 h3 a1 a2, fun _ hm => by
        simp at hm
        rw [hm] at y
        simp at y⟩
    | ins _ _ _ => cases hd
theorem RpA.reads (I : Inv X pins σ H s) {F : Hp} (e : Same F H) : ∀ (ds : List PyData) (vs : List V) (us : List Value), RpA X.K F vs ds → Vals vs us → dEs ds = true → ∃ as, ReadsAll s.heap us ds as ∧ (noLs ds = true → sysModules ∉ as)
  | [], _, _, h, r, _ => by cases h; cases r; exact ⟨_, .nil, fun _ z => nomatch z⟩
  | d :: ds, _, _, h, r, hd => by
    have hd' : dE d = true ∧ dEs ds = true := by simpa [dEs] using hd
    cases h with
    | cons h1 h2 =>
      cases r with
      | cons r1 r2 =>
        obtain ⟨as, q1, n1⟩ := Rp.reads I e d _ _ h1 r1 hd'.1
        obtain ⟨bs, q2, n2⟩ := RpA.reads I e ds _ _ h2 r2 hd'.2
        refine ⟨_, .cons q1 q2, fun z hm => ?_⟩
        have z' : noL d = true ∧ noLs ds = true := by simpa [noLs] using z
        rcases List.mem_append.mp hm with hm | hm
        · exact n1 z'.1 hm
        · exact n2 z'.2 hm
end
def rRepr (K : PySem.W.Frag) : List V → Hp → VK → Prop := fun xs H Q => ∃ x d F, xs = [x] ∧ Same F H ∧ Rp K F x d ∧ reprOk d = true ∧ Q (.str d.shown) H
theorem cr_repr {k : Nat} (hr : RoomG k X.A) : CallR X (.builtin "repr") (rRepr X.K) := by
  intro pins s σ H xs us Q I r h
  obtain ⟨x, d, F, rfl, e, rp, ok, q⟩ := h
  obtain ⟨u, rfl, ru⟩ := vals1 r
  unfold reprOk at ok
  simp only [Bool.and_eq_true, Bool.or_eq_true, Bool.not_eq_true', decide_eq_true_eq] at ok
  obtain ⟨⟨⟨⟨o1, o2⟩, o3⟩, o4⟩, o5⟩ := ok
  have hl : d.shown.length ≤ sizeLine := Nat.le_trans o4 (by decide)
  have hun := hr.r.un
  obtain ⟨as, rd, na⟩ := Rp.reads I e d x u rp ru o1
  have hd : d.hasDict = true → sysModules ∉ as := fun z => o2.elim (fun w => by rw [w] at z; cases z) na
  have big : ∀ {a : Addr}, u = .ref a → wpAny (model X.prog X.w) X.A (call (.builtin "repr") [u]) (EP X pins σ Q) X.xe s := fun {a} eu => by
    subst eu
    exact repr_of_reads' rd o3 hd hr.g (by omega) (fun _ _ z => z) (fun h' u' tk hk => ⟨.str _, H, I.kept (t' := tk) hk, ⟨_, rfl⟩, q⟩) hl
  cases rp with
  | non => cases ru; exact PySem.P.repr_of_none ⟨.str _, H, I.tok _, ⟨_, rfl⟩, q⟩
  | bl b => cases ru; exact PySem.P.repr_of_bool ⟨.str _, H, I.tok _, ⟨_, rfl⟩, by cases b <;> exact q⟩
  | int i => obtain ⟨t, rfl⟩ := ru; exact PySem.P.repr_of_int (by simpa [PyData.showable] using o3) ⟨.str _, H, I.tok _, ⟨_, rfl⟩, q⟩
  | str z => obtain ⟨t, rfl⟩ := ru; exact PySem.P.repr_of_str ⟨.str _, H, I.tok _, ⟨_, rfl⟩, q⟩ (by simpa only [PyData.shown] using hl)
  | lst _ _ => exact big ru
  | tup _ _ => exact big ru
  | dct _ _ => exact big ru
  | ins _ _ _ => exact big ru
theorem rc_repr {K : PySem.W.Frag} : RLC K (rRepr K) bRepr := by
  intro F H xs as z Q e _ rx h k
  unfold bRepr at h
  split at h
  · obtain ⟨x, rfl, r⟩ := rpA1 rx
    split at h
    · rename_i ok
      cases h
      exact ⟨x, _, F, rfl, e, r, ok, k _ F H .id (.str _)⟩
    · cases h
  · cases h
theorem pd_dict0 {C : Ct} {pos : Pos} : PE X (.Dict [] [] pos) (tD X.K C mDict0) := pe_imp pe_dnewK (by
  rintro σ H Q ⟨F, sd, Qd, R, h, k⟩ p hp
  exact k (.ref p) _ _ _ sd (R.al (.new hp)) (.al R (.new hp)) (.dct upd_same .nil) h)
end
end DL
namespace DL
open PySem PySem.Spec PyProof.Rows L2
section
variable {K : PySem.W.Frag} {X : Cx} {C : Ct}
structure RsA (K : PySem.W.Frag) (C : Ct) (F H H0 : Hp) (σ : L2.St) (sd : DSt) (vs : List V) (rs : List S) : Prop where
  len : vs.length = rs.length
  ok : ∀ (i : Nat) (v : V) (r : S), vs[i]? = some v → rs[i]? = some r → RvOk K C F H v r ∧ Fre σ sd v r ∧ (isOwn r = true → ∀ q, v = .ref q → H0 q = none)
  ne : ∀ (i j : Nat) (v w : V) (r u : S), i < j → vs[i]? = some v → vs[j]? = some w → rs[i]? = some r → rs[j]? = some u → isOwn r = true → isOwn u = true → v ≠ w
def tDAR (K : PySem.W.Frag) (C : Ct) (ms : List MR) : TA := fun σ H Q => ∃ F sd Qd, Rs K C F H σ sd ∧ mrs ms sd Qd ∧ ∀ vs H' F' rs sd', Rs K C F' H' σ sd' → Stp σ sd F H F' H' sd' → RsA K C F' H' H σ sd' vs rs → Qd rs sd' → Q vs H'
theorem pdar_nil : PA X [] (tDAR X.K C []) := pa_imp pa_nil (by
  rintro σ H Q ⟨F, sd, Qd, R, h, k⟩
  exact k [] H F [] sd R .refl ⟨rfl, fun i v r h => by simp at h, fun i j v w r u _ h => by simp at h⟩ h)
theorem rv_step {F H F' H' : Hp} {σ : L2.St} {sd sd' : DSt} {v : V} {r : S} (h : RvOk K C F H v r) (fre : Fre σ sd v r) (S : Stp σ sd F H F' H' sd') : RvOk K C F' H' v r ∧ Fre σ sd' v r := by
  refine ⟨SlotOk.grow S.fr (fun q o ho e eh en => ?_) h, fun o q e z => fre o q e (S.ow q z)⟩
  cases e
  have nq := fre ho q rfl
  refine ⟨S.kp q o eh nq, ?_⟩
  cases z : F' q with
  | none => rfl
  | some y =>
    rcases S.nw q y z with z | z | z
    · rw [en] at z; cases z
    · rw [eh] at z; cases z
    · exact (nq z).elim
theorem pdar_cons {e : Expr} {es : List Expr} {m : MR} {ms : List MR} (he : PE X e (tDR X.K C m)) (hr : PA X es (tDAR X.K C ms)) (hs : starEach (e :: es) X.env = (false, eval e X.env) :: starEach es X.env := by rfl) : PA X (e :: es) (tDAR X.K C (m :: ms)) :=
  pa_imp (pa_cons he hr hs) (by
  rintro σ H Q ⟨F, sd, Qd, R, h, k⟩
  refine ⟨F, sd, _, R, h, fun v H1 F1 r sd1 R1 S1 rv fre new h1 => ⟨F1, sd1, _, R1, h1, fun ws H2 F2 us sd2 R2 S2 A h2 => ?_⟩⟩
  obtain ⟨rv2, fre2⟩ := rv_step rv fre S2
  refine k (v :: ws) H2 F2 (r :: us) sd2 R2 (S1.trans S2) ⟨by simp [A.len], fun i v' r' e1 e2 => ?_, fun i j v' w' r' u' hij e1 e2 e3 e4 o1 o2 => ?_⟩ h2
  · cases i with
    | zero => cases e1; cases e2; exact ⟨rv2, fre2, new⟩
    | succ i =>
      obtain ⟨a, b, c⟩ := A.ok i v' r' (by simpa using e1) (by simpa using e2)
      exact ⟨a, b, fun o q e => S1.st q (c o q e)⟩
  · cases j with
    | zero => omega
    | succ j =>
      cases i with
      | succ i => exact A.ne i j v' w' r' u' (by omega) (by simpa using e1) (by simpa using e2) (by simpa using e3) (by simpa using e4) o1 o2
      | zero =>
        cases e1; cases e3
        intro z
        subst z
        obtain ⟨a, b, c⟩ := A.ok j _ u' (by simpa using e2) (by simpa using e4)
        -- what is owned in u' is new behind the first
        have hv : ∃ q o, v = .ref q ∧ H1 q = some o := by
          cases r with
          | no => cases o1
          | va d => cases o1
          | scr d => cases o1
          | exc d => cases o1
          | ins c fs => obtain ⟨q, _, _, _, e, h1, _⟩ := rv; cases e; exact ⟨q, _, rfl, h1⟩
          | own ds => obtain ⟨q, vs, e, h1, _⟩ := rv; cases e; exact ⟨q, _, rfl, h1⟩
          | well n => obtain ⟨q, x, y, z, e, h1, _⟩ := rv; cases e; exact ⟨q, _, rfl, h1⟩
        obtain ⟨q, o, e, hq⟩ := hv
        have := c o2 q e
        rw [hq] at this; cases this)
theorem rsA_tail {F H H0 : Hp} {σ : L2.St} {sd : DSt} {v : V} {r : S} {vs : List V} {rs : List S} {i : Nat} (A : RsA K C F H H0 σ sd (v :: vs) (r :: rs)) : RsA K C F H H0 (σ.set i (some v)) (sset sd i r) vs rs := by
  refine ⟨by simpa using A.len, fun j w u e1 e2 => ?_, fun a b v' w' r' u' hab e1 e2 e3 e4 o1 o2 => A.ne (a + 1) (b + 1) v' w' r' u' (by omega) (by simpa using e1) (by simpa using e2) (by simpa using e3) (by simpa using e4) o1 o2⟩
  obtain ⟨x1, x2, x3⟩ := A.ok (j + 1) w u (by simpa using e1) (by simpa using e2)
  refine ⟨x1, fun o q e z => ?_, x3⟩
  obtain ⟨k, ok, ek⟩ := z
  by_cases hk : k = i
  · subst hk
    have own_r : isOwn r = true ∧ v = .ref q := by
      by_cases hl : k < sd.length
      · rw [sget_sset hl] at ok
        refine ⟨ok, ?_⟩
        by_cases hσ : k < σ.length
        · rw [gv_set hσ] at ek; exact Option.some.inj ek
        · have : gv (σ.set k (some v)) k = none := by
            unfold gv
            rw [List.getElem?_eq_none (by rw [List.length_set]; omega)]
            rfl
          rw [this] at ek; cases ek
      · rw [sget_out (by rw [sset_length]; omega)] at ok; cases ok
    exact A.ne 0 (j + 1) v w r u (by omega) rfl (by simpa using e1) rfl (by simpa using e2) own_r.1 o (own_r.2.trans e.symm)
  · rw [sget_sset_ne hk] at ok
    rw [gv_set_ne hk] at ek
    exact x2 o q e ⟨k, ok, ek⟩
theorem rsA_sets {F H H0 : Hp} : ∀ {is : List Nat} {vs : List V} {rs : List S} {σ : L2.St} {sd : DSt}, Rs K C F H σ sd → RsA K C F H H0 σ sd vs rs → Rs K C F H ((is.zip vs).foldl (fun σ p => σ.set p.1 (some p.2)) σ) (ssets sd is rs)
  | [], _, _, _, _, R, _ => by simpa [ssets] using R
  | i :: is, [], rs, σ, sd, R, A => by
    have : rs = [] := by
      have := A.len
      cases rs with
      | nil => rfl
      | cons a l => simp at this
    subst this
    simpa [ssets] using R
  | i :: is, v :: vs, [], σ, sd, R, A => by have := A.len; simp at this
  | i :: is, v :: vs, r :: rs, σ, sd, R, A => by
    obtain ⟨x1, x2, _⟩ := A.ok 0 v r rfl rfl
    exact rsA_sets (σ := σ.set i (some v)) (sd := sset sd i r) (R.setr x1 x2) (rsA_tail A)
def tPar2 (i j : Nat) (ta : TA) : TS := fun D σ H => ta σ H fun vs H1 => ∃ u v, vs = [u, v] ∧ D.nx ((σ.set i (some u)).set j (some v)) H1
theorem ps_par2 {i j : Nat} {x y : Str} {a b : Expr} {ta : TA} {px py pt pos : Pos} {kt k2 pt2} (hc : X.calm = true) (hN : X.N.Nodup) (hi : X.N[i]? = some x) (hj : X.N[j]? = some y) (hij : i ≠ j)
    (hx : X.env.scope.names.lookup x = some .local) (hy : X.env.scope.names.lookup y = some .local) (ha : PA X [a, b] ta)
    (hw : swappedStores [.Tuple [.Name x px, .Name y py] kt pt] (.Tuple [a, b] k2 pt2) X.env = pure (some [x, y])) (hs : swapsWithSole [.Tuple [.Name x px, .Name y py] kt pt] (.Tuple [a, b] k2 pt2) pos.line X.env = pure false := by rfl) :
    PS X (.Assign [.Tuple [.Name x px, .Name y py] kt pt] (.Tuple [a, b] k2 pt2) pos) (tPar2 i j ta) := by
  refine ⟨fun pins s σ H D I h => ?_⟩
  rw [exec_Assign_arm]
  refine wpAny_bind (wpAny_standAt ?_)
  rw [hs]
  refine wpAny_bind (wpAny_pure ?_)
  rw [if_neg (by decide)]
  refine wpAny_bind (Tuple_ (thn (ha.run _ pins s σ H _ I h) fun us s1 hh => ?_))
  obtain ⟨vs, H1, I1, r1, v1, v2, rfl, q1⟩ := hh
  obtain ⟨u1, u2, rfl, ra, rb⟩ := vals2 r1
  refine wpAny_newObj_type ?_ (by show 2 ≤ sizeLine; decide)
  have I2 : Inv X pins σ H1 { s1 with heap := s1.heap.push { cls := .type "tuple", data := .seq [u1, u2].toArray }, toks := s1.toks } := I1.kept fun _ _ e => Heap.get?_push_of_some _ e
  rw [hw]
  refine wpAny_bind (wpAny_pure ?_)
  show wpAny (model X.prog X.w) X.A (do rule "assign.swapped-stores"; let got ← unpackItems (.ref s1.heap.objs.size) 2 none; assignInOrder [fun v => bindName X.env y v, fun v => bindName X.env x v] got.reverse; pure Flow.next) _ _ _
  refine wpAny_bind (wpAny_rule (wpAny_bind (unpackItems_tuple (items := #[u1, u2]) (I.ok.hd hc) (IsTup.new s1.heap _) fun h' hx' => ?_)))
  have I3 := I2.kept (h' := h') (t' := s1.toks) fun b o e => hx' b o (Nat.ne_of_lt (Heap.lt_size e)) e
  show wpAny _ _ (assignInOrder [fun v => bindName X.env y v, fun v => bindName X.env x v] [u2, u1] >>= fun _ => pure Flow.next) _ _ _
  refine wpAny_bind (assignInOrder_cons (wpAny_bindName (store_ok I3 hN hj (.inl hy) rb (fun s2 I4 => assignInOrder_cons (wpAny_bindName (store_ok I4 hN hi (.inl hx) ra (fun s3 I5 => assignInOrder_nil (wpAny_pure ?_)) (.inr hx)))) (.inr hy))))
  rw [List.set_comm _ _ (Ne.symm hij)] at I5
  exact ⟨_, H1, I5, q1⟩
theorem pds_par2 {tg e : Expr} {pos : Pos} {i j : Nat} {m1 m2 : MR} (t : PS X (.Assign [tg] e pos) (tPar2 i j (tDAR X.K C [m1, m2]))) : PS X (.Assign [tg] e pos) (tDS X.K C (mAsgM [i, j] [m1, m2])) := ps_imp t (by
  rintro D σ H ⟨F, sd, Dd, R, E, h⟩
  refine ⟨F, sd, _, R, h, fun vs H1 F1 rs sd1 R1 S1 A q => ?_⟩
  obtain ⟨ql, q⟩ := q
  have hl := A.len
  obtain ⟨r1, r2, rfl⟩ : ∃ r1 r2, rs = [r1, r2] := by
    match rs, ql with
    | [r1, r2], _ => exact ⟨r1, r2, rfl⟩
  obtain ⟨u, v, rfl⟩ : ∃ u v, vs = [u, v] := by
    match vs, hl with
    | [u, v], _ => exact ⟨u, v, rfl⟩
  exact ⟨u, v, rfl, E.nx F1 H1 _ _ S1.fr (rsA_sets (is := [i, j]) R1 A) q⟩)
theorem pds_par3 {tg e : Expr} {pos : Pos} {i j l : Nat} {m1 m2 m3 : MR} (t : PS X (.Assign [tg] e pos) (tPar3 i j l (tDAR X.K C [m1, m2, m3]))) : PS X (.Assign [tg] e pos) (tDS X.K C (mAsgM [i, j, l] [m1, m2, m3])) := ps_imp t (by
  rintro D σ H ⟨F, sd, Dd, R, E, h⟩
  refine ⟨F, sd, _, R, h, fun vs H1 F1 rs sd1 R1 S1 A q => ?_⟩
  obtain ⟨ql, q⟩ := q
  have hl := A.len
  obtain ⟨r1, r2, r3, rfl⟩ : ∃ r1 r2 r3, rs = [r1, r2, r3] := by
    match rs, ql with
    | [r1, r2, r3], _ => exact ⟨r1, r2, r3, rfl⟩
  obtain ⟨u, v, w, rfl⟩ : ∃ u v w, vs = [u, v, w] := by
    match vs, hl with
    | [u, v, w], _ => exact ⟨u, v, w, rfl⟩
  exact ⟨u, v, w, rfl, E.nx F1 H1 _ _ S1.fr (rsA_sets (is := [i, j, l]) R1 A) q⟩)
theorem pdt_chain {op op'} {r r' : R2} {f g : PyData → PyData → Option PyData} {a b c : Expr} {ma mb mc : ME} {pos : Pos} (L : RL2 X.K r f) (L' : RL2 X.K r' g)
    (t : PT X (.Compare a [op, op'] [b, c] pos) (tTest (tChain r r' (tD X.K C ma) (tD X.K C mb) (tD X.K C mc)))) : PT X (.Compare a [op, op'] [b, c] pos) (tDT X.K C (mT (mChain f g ma mb mc))) := pt_imp t (by
  refine td_test (te := tChain r r' (tD X.K C ma) (tD X.K C mb) (tD X.K C mc)) ?_
  rintro σ H Q ⟨F, sd, Qd, R, h, k⟩
  refine ⟨F, sd, _, R, h, fun x H1 F1 a sd1 R1 S1 rx h1 => ⟨F1, sd1, _, R1, h1, fun y H2 F2 b sd2 R2 S2 ry h2 => ?_⟩⟩
  obtain ⟨cc, e, q⟩ := h2
  refine L F2 H2 x y a b (.bool cc) _ R2.ext (fun p => R2.free) (rx.mono S2.fr) ry e fun v F' H' al rz => ?_
  cases rz
  refine ⟨cc, rfl, ?_⟩
  have S' := (S1.trans S2).trans (.al R2 al)
  cases cc with
  | true =>
    refine ⟨F', sd2, _, R2.al al, q, fun w H3 F3 d sd3 R3 S3 rw_ h3 => ?_⟩
    obtain ⟨z2, e2, q2⟩ := h3
    exact L' F3 H3 y w b d z2 _ R3.ext (fun p => R3.free) (ry.mono ((Stp.al R2 al).fr.trans S3.fr)) rw_ e2 fun v F4 H4 al2 rz2 => k v H4 F4 z2 sd3 (R3.al al2) ((S'.trans S3).trans (.al R3 al2)) rz2 q2
  | false => exact k (.bl false) H' F' _ sd2 (R2.al al) S' (.bl false) q)
theorem pd_lenScr {i : Nat} {x y : Str} {p p2 pos : Pos} (hm : X.mg "len" = none) (hN : X.N[i]? = some y) (hv : Vis X.env.scope y) (hd : (y == ("__debug__" : Str)) = false := by decide) (hcd : (y == ("__classdict__" : Str)) = false := by decide) (hg : Gl X "len" := by rfl)
    (he : starEach (.Name y p2 :: []) X.env = (false, eval (.Name y p2) X.env) :: starEach [] X.env := by rfl) (hpl : (backTo pos (starEach [] X.env)).any (·.1) = false := by rfl) :
    PE X (.Call (.Name "len" p) [.Name y p2] [] pos) (tD X.K C (mLenScr i)) := pe_imp (pe_callB call_len_seq hg hm (by decide +kernel) (pa_cons (pe_var hN hv hd hcd) pa_nil he) (by decide) (by decide) he hpl) (by
  rintro σ H Q ⟨F, sd, Qd, R, ⟨ns, hs, h⟩, k⟩
  have hi := R.slot i
  rw [hs] at hi
  obtain ⟨p, e1, e2⟩ := hi
  refine ⟨.ref p, gv_some.mp e1, p, _, rfl, .inl (R.ext.seq e2), ?_⟩
  rw [List.length_map]
  exact k _ H F _ sd R .refl (.int _) h)
theorem pd_lenOwn {i : Nat} {y : Str} {p p2 pos : Pos} (hm : X.mg "len" = none) (hN : X.N[i]? = some y) (hv : Vis X.env.scope y) (hd : (y == ("__debug__" : Str)) = false := by decide) (hcd : (y == ("__classdict__" : Str)) = false := by decide) (hg : Gl X "len" := by rfl)
    (he : starEach (.Name y p2 :: []) X.env = (false, eval (.Name y p2) X.env) :: starEach [] X.env := by rfl) (hpl : (backTo pos (starEach [] X.env)).any (·.1) = false := by rfl) :
    PE X (.Call (.Name "len" p) [.Name y p2] [] pos) (tD X.K C (mLenOwn i)) := pe_imp (pe_callB call_len_seq hg hm (by decide +kernel) (pa_cons (pe_var hN hv hd hcd) pa_nil he) (by decide) (by decide) he hpl) (by
  rintro σ H Q ⟨F, sd, Qd, R, ⟨ds, hs, h⟩, k⟩
  have hi := R.slot i
  rw [hs] at hi
  obtain ⟨p, vs, e1, e2, e3, e4, r⟩ := hi
  refine ⟨.ref p, gv_some.mp e1, p, _, rfl, .inl (.inl (.inl e2)), ?_⟩
  rw [r.length]
  exact k _ H F _ sd R .refl (.int _) h)
end
end DL
namespace DL
open PySem PySem.Spec PyProof.Rows L2
/-- what a law's def promises: handed a script, it returns True -/
def spL (K : PySem.W.Frag) : Sp := fun vs H Q _ => ∃ (a : Addr) (ns : List Int), vs = [.ref a] ∧ SqL K H a (ns.map V.int) ∧ ns.length ≤ 63 ∧ (∀ z ∈ ns, Builtin.Int.intBits z ≤ 1048576) ∧ ∀ H', Q (.bl true) H'
section
variable {P : Program} {w : World} {K : PySem.W.Frag} {mg : Str → Option Value} {base : Heap} {CN : String → Option Addr}
theorem fun_okL {x qual s0 : Str} {st : Stmt} {f : Addr} {fd : FuncData} {N : List Str} {k : Nat} {m : MS} (F : Fun K x qual st f fd) (SC : FnScope N [s0] (defScope st)) (hN : 1 ≤ N.length)
    (hbody : ∀ (cdv : Value) (A : Around) (outer : List Env) (s : Shared) (H : Hp) (E : XK) (C : Ct), C.isW = false → RoomG k (A.deeper (envOfC qual (defScope st) s.heap.objs.size f cdv)) →
      Takes (cxD P w K mg base N qual (defScope st) f cdv A outer s H E) (wD K C CN fun _ _ => False) → PSs (cxD P w K mg base N qual (defScope st) f cdv A outer s H E) (defBody st) (tDS K C m))
    (rd : ∀ ns : List Int, ns.length ≤ 63 → (∀ z ∈ ns, Builtin.Int.intBits z ≤ 1048576) → m endL (.scr ns :: List.replicate (N.length - 1) .no)) : FnG P w K mg base (k + 1) f fd [s0] (spL K) := by
  refine fun_okG F SC (fun vs H Q E h => ?_) (fun cdv A outer s H vs Q E hr h => ?_)
  · obtain ⟨a, ns, rfl, _⟩ := h; rfl
  · obtain ⟨a, ns, rfl, hS, hl, hb, hq⟩ := h
    have no : ∀ (k i : Nat), sget (List.replicate k S.no) i = .no := by
      intro k
      induction k with
      | zero => intro _; rfl
      | succ k ih => intro i; cases i with
        | zero => rfl
        | succ i => exact ih i
    have own : ∀ i, isOwn (sget (S.scr ns :: List.replicate (N.length - 1) S.no) i) = false := fun i => by
      cases i with
      | zero => rfl
      | succ i => show isOwn (sget (List.replicate (N.length - 1) S.no) i) = false; rw [no]; rfl
    have R0 : Rs K ⟨H, H, fun _ => False, false⟩ H H (L2.start N [.ref a]) (.scr ns :: List.replicate (N.length - 1) .no) := by
      refine ⟨?_, Same.refl _, Same.refl _, fun a o h => .inl h, fun a o h _ => h, fun a h => h, fun i => ?_, fun i j p _ o => ?_⟩
      · unfold L2.start; simp
      · cases i with
        | zero => exact ⟨a, rfl, hS⟩
        | succ i => show SlotOk K _ H H _ (sget (List.replicate (N.length - 1) S.no) i); rw [no]; trivial
      · rw [own] at o; cases o
    refine ⟨_, hbody cdv A outer s H E ⟨H, H, fun _ => False, false⟩ rfl hr (takes_cxD fun cls d σ H' hw => ?_), H, _, endL, R0, ⟨fun F1 H1 σ sd _ R q => q.elim, fun F1 H1 σ sd v r _ R rv _ q => ?_, fun _ _ _ _ _ _ z => z.elim, fun _ _ _ _ _ _ z => z.elim⟩, rd ns hl hb⟩
    · obtain ⟨c, a, F1, sd, hc, _, _, R, q⟩ := hw
      exact q.elim
    · have q : r = .va (.bool true) := q
      subst q
      obtain ⟨v', e1, q⟩ := rv
      cases e1
      cases q
      exact hq H1
/-- the promise at the heap behind the top -/
theorem end_call {mb : Str → Option Value} {k : Nat} {fa a : Addr} {fd : FuncData} {x : Str} {s₁ : Shared} {vs : List Value} {ns : List Int} (KX : K.In s₁.heap) (hns : s₁.heap.Ns mainGlobals mg) (hb : s₁.heap.Ns builtinsNs mb)
    (hbb : ∀ x : Str, x ≠ "__name__" → mb x = bootBuiltins x) (hlim : s₁.heap.NoLimit) (hg : s₁.gens = #[]) (ha : s₁.heap.get? a = some { cls := .type "list", data := .seq vs.toArray }) (hi : IntsAre vs ns) (h63 : ns.length ≤ 63) (hbits : ∀ z ∈ ns, Builtin.Int.intBits z ≤ 1048576)
    (hr : RoomG k callerA) (F : ∀ base : Heap, K.In base → base.Ns mainGlobals mg → FnG P w K mg base k fa fd [x] (spL K)) (hbind : ∀ (s : Shared) (u : Value), BindsTo s fd ⟨[u], []⟩ [(x, u)]) :
    codeAny (model P w) callerA (.call (.ref fa) ⟨[.ref a], []⟩) (fun r s' => r = .ok (.ret (.bool true)) ∧ OldK s₁.heap s'.heap ∧ s'.os = s₁.os ∧ AllBare s'.gens) s₁ := by
  have rv := vals_ints hi
  have hl : ns.length ≤ sizeLine := Nat.le_trans h63 (by decide)
  -- the script alone may be tracked, and only if the written part does not have it
  let o₀ : Obj := { cls := .type "list", data := .seq vs.toArray }
  let H : Hp := fun b => if b = a ∧ K.lookup a = none then some (.frz o₀ (.lst (ns.map V.int))) else none
  have hH : ∀ {b u}, H b = some u → b = a ∧ K.lookup a = none ∧ u = .frz o₀ (.lst (ns.map V.int)) := fun {b u} e => by
    by_cases c : b = a ∧ K.lookup a = none
    · have e2 := (if_pos c).symm.trans e
      exact ⟨c.1, c.2, (Option.some.inj e2).symm⟩
    · have e2 := (if_neg c).symm.trans e
      cases e2
  have hS : SqL K H a (ns.map V.int) := by
    cases q : K.lookup a with
    | none => exact .inl (.inr ⟨o₀, if_pos ⟨rfl, q⟩⟩)
    | some o =>
      have e := (KX a o q).symm.trans ha
      cases e
      exact .inr ⟨o₀, vs.toArray, 0, q, rfl, rfl, rfl, by rw [List.size_toArray, hi.length]; exact hl, by simpa using rv⟩
  have hok : HOk P w H s₁.heap := fun b u e => by
    obtain ⟨rfl, _, rfl⟩ := hH e
    exact ⟨ha, by rw [List.length_map]; exact hl, vs, _, rv, ha⟩
  -- the heap without it
  have hid : ∀ {b : Addr} {o : Obj}, s₁.heap.get? b = some o → (b = a → o ≠ o₀ ∨ K.lookup a ≠ none) → (hidT s₁.heap H).get? b = some o := fun {b o} e n => hidT_get e (by
    cases q : H b with
    | none => rfl
    | some u =>
      obtain ⟨e1, e2, _⟩ := hH q
      rcases n e1 with z | z
      · subst e1; rw [ha] at e; exact absurd (Option.some.inj e).symm z
      · exact absurd e2 z)
  have names : ∀ {b : Addr} {m : Str → Option Value}, s₁.heap.Ns b m → (hidT s₁.heap H).Ns b m := fun {b m} h => by
    obtain ⟨o, es, ep, e, d, r⟩ := h
    refine ⟨o, es, ep, hid e fun _ => .inl fun z => ?_, d, r⟩
    subst z
    cases d
  have kin : K.In (hidT s₁.heap H) := fun b o e => hid (KX b o e) fun z => .inr (by subst z; rw [e]; exact fun q => nomatch q)
  have lim : (hidT s₁.heap H).NoLimit := by
    obtain ⟨mc, h1, h2⟩ := hlim
    exact ⟨mc, names h1, h2⟩
  have e0 : Env0 P w K mg (hidT s₁.heap H) callerA [] s₁ H := ⟨rfl, ⟨kin, names hns, ⟨mb, names hb, hbb⟩, lim⟩, fun b o e => of_hidT e, Nat.le_of_eq (hidT_size _ _), trivial, (fun b hb => nomatch hb), hok, .of_eq hg⟩
  refine codeAny_mono ((F _ kin (names hns)).run (H := H) (us := [.ref a]) (vs := [.ref a]) (Q := fun v _ => v = .bl true) (E := fun _ _ _ => False) hr e0 (hbind s₁ (.ref a)) (.cons rfl .nil) ⟨a, ns, rfl, hS, h63, hbits, fun _ => rfl⟩) fun r s' h => ?_
  cases r with
  | error e =>
    obtain ⟨_, _, _, _, _, _, _, _, _, _, _, _, z⟩ := h
    exact z.elim
  | ok fl =>
    cases fl with
    | next => exact h.elim
    | brk => exact h.elim
    | cont => exact h.elim
    | ret u =>
      obtain ⟨v, H', os, bare, un, hok', r', q⟩ := h
      have q : v = .bl true := q
      subst q
      have r' : u = Value.bool true := r'
      subst r'
      refine ⟨rfl, OldK.of_keep fun b o e => ?_, os, bare⟩
      cases q : H b with
      | none => exact un.keep b o e q (fun z => nomatch z) (fun z => nomatch z)
      | some u =>
        obtain ⟨rfl, h2, rfl⟩ := hH q
        have e2 := (hok' b _ (un.frzs b _ _ q)).1
        rw [ha] at e
        cases e
        exact e2
end
/-- the goal that k_head leaves, from the promise of the law's def -/
theorem end_law {l : PySem.W.OpenLaw} {k : Nat} {q : Program} {loose : List Str} {XP : (Str → Option Value) → Heap → Prop} {YP : World → Heap → Prop} {d : DefRec} {K : Params → PySem.W.Frag} {x : Str}
    (hn : l.most = some 63) (hdf : d.params.defaults = []) (hr : RoomG k callerA) (hY : ∀ (w : World) (h : Heap), YP w h → (K w.params).In h)
    (F : ∀ (w : World) (mg : Str → Option Value) (fa : Addr) (h : Heap), (K w.params).In h → h.Ns mainGlobals mg → mg d.name = some (.ref fa) →
      ∃ fd : FuncData, (∀ (s : Shared) (u : Value), BindsTo s fd ⟨[u], []⟩ [(x, u)]) ∧ ∀ base : Heap, (K w.params).In base → base.Ns mainGlobals mg → FnG l.prog w (K w.params) mg base k fa fd [x] (spL (K w.params))) :
    PySem.W.WalkO q loose XP YP l.row.toRowW d [] (fun f vs => PySem.call f vs) := by
  refine Att.attach_callB hn hdf fun w s₀ s₁ mg mb fa o pm cd doc a vs ns G Y ho hd hcd hmg hobj hints hlen hbits hg => ?_
  obtain ⟨fd, hb, hF⟩ := F w mg fa _ (hY w _ Y) G.T.g hmg
  exact end_call (hY w _ Y) G.T.g G.T.b G.T.builtins G.T.nolimit hg hobj hints hlen hbits hr hF hb
end DL
namespace DL
open PySem PySem.Spec PyProof.Rows L2
theorem RoomG.u64 {k : Nat} {A : Around} (h : RoomG k A) : A.units + 64 < cLine := by have := h.r.un; omega
section
variable {X : Cx} {C : Ct}
theorem dv (i : Nat) {x : Str} {pos : Pos} (hN : X.N[i]? = some x := by rfl) (hv : Vis X.env.scope x := by first | exact Or.inl rfl | exact Or.inr (Or.inl rfl) | exact Or.inr (Or.inr rfl)) (hd : (x == ("__debug__" : Str)) = false := by decide)
    (hcd : (x == ("__classdict__" : Str)) = false := by decide) : PE X (.Name x pos) (tD X.K C (mVar i)) := pd_var hN hv hd hcd
/-- a raise that cannot be -/
theorem takesF {K : PySem.W.Frag} {CN : String → Option Addr} : Takes X (wD K C CN wF) := takes0.imp fun cls d σ H h => by
  obtain ⟨_, _, _, _, _, _, _, _, q⟩ := h
  exact q.elim
theorem dg (i : Nat) {x : Str} {pos : Pos} (hN : X.N.Nodup) (hi : X.N[i]? = some x := by rfl) (hx : Loc X.env.scope x := by first | exact Or.inl rfl | exact Or.inr rfl) (hf : X.fn x = true ∨ X.env.scope.names.lookup x = some .local := by first | exact .inl rfl | exact .inr rfl) :
    PG X (.Name x pos) (tDG X.K C (mgName i)) := pdg_name hN hi hx hf
theorem gcons {e : Expr} {es : List Expr} {g : MG} {gs : MGs} (h1 : PG X e (tDG X.K C g)) (h2 : PGs X es (tDGs X.K C gs)) (hs : (assignEach (e :: es) X.env).map (·.2) = assign e X.env :: (assignEach es X.env).map (·.2) := by rfl) : PGs X (e :: es) (tDGs X.K C (mgCons g gs)) := pdgs_cons h1 h2 (pgs_cons h1 h2 hs)
theorem gvcons {vs : List Nat} {e : Expr} {es : List Expr} {g : MG} {gs : MGs} (h1 : PG X e (tDGv X.K C vs g)) (h2 : PGs X es (tDGsv X.K C vs gs)) (hs : (assignEach (e :: es) X.env).map (·.2) = assign e X.env :: (assignEach es X.env).map (·.2) := by rfl) : PGs X (e :: es) (tDGsv X.K C vs (mgCons g gs)) := pdgsv_cons (pgs_cons h1 h2 hs)
theorem dgv (i : Nat) {vs : List Nat} {x : Str} {pos : Pos} (hN : X.N.Nodup) (hv : i ∈ vs := by decide) (hi : X.N[i]? = some x := by rfl) (hx : Loc X.env.scope x := by first | exact Or.inl rfl | exact Or.inr rfl) (hf : X.fn x = true ∨ X.env.scope.names.lookup x = some .local := by first | exact .inl rfl | exact .inr rfl) :
    PG X (.Name x pos) (tDGv X.K C vs (mgName i)) := pdgv_name hv (pg_name hN hi hx hf)
theorem d_range1 {tg a : Expr} {p pos : Pos} {m : MA} (hm : X.mg "range" = none) (h : PA X [a] (tDA X.K C m)) (hg : Gl X "range" := by rfl) (hs : starEach [a] X.env = [(false, eval a X.env)] := by rfl) : PI X tg (.Call (.Name "range" p) [a] [] pos) (tDI X.K C (miRng1 m)) :=
  pdi_range1 hm h hg (pi_range1 hg hm h hs)
theorem d_range2 {tg a b : Expr} {p pos : Pos} {m : MA} (hm : X.mg "range" = none) (h : PA X [a, b] (tDA X.K C m)) (hg : Gl X "range" := by rfl) (hs : starEach [a, b] X.env = [(false, eval a X.env), (false, eval b X.env)] := by rfl) (hs2 : starEach [b] X.env = [(false, eval b X.env)] := by rfl) : PI X tg (.Call (.Name "range" p) [a, b] [] pos) (tDI X.K C (miRng2 m)) :=
  pdi_range2 hm h hg (pi_range2 hg hm h hs hs2)
end
end DL
namespace DL
open PySem PySem.Spec PyProof.Rows L2 HT
theorem rev_places (n : Nat) : Builtin.Slice.slicePlaces ((n : Int) - 1) (-1) (-1) = n := by
  unfold Builtin.Slice.slicePlaces
  have h1 : ¬ ((-1 : Int) > 0) := by omega
  rw [if_neg h1]
  by_cases h : (n : Int) - 1 > -1
  · rw [if_pos h, show (-(-1) : Int) = 1 from rfl, Int.ediv_one]; omega
  · rw [if_neg h]; omega
theorem fm_congr {α β : Type} {f g : α → Option β} : ∀ {l : List α}, (∀ x ∈ l, f x = g x) → l.filterMap f = l.filterMap g
  | [], _ => rfl
  | x :: l, h => by
    rw [List.filterMap_cons, List.filterMap_cons, h x (by simp), fm_congr (l := l) fun y hy => h y (by simp [hy])]
theorem rev_pick (xs : Array Value) : ((List.range xs.size).filterMap fun (m : Nat) => xs[(((xs.size : Int) - 1) + (m : Int) * (-1)).toNat]?).toArray = xs.toList.reverse.toArray := by
  have e : ((List.range xs.size).filterMap fun (m : Nat) => xs[(((xs.size : Int) - 1) + (m : Int) * (-1)).toNat]?) = ((List.range xs.size).map fun k => xs.size - 1 - k).filterMap (xs[·]?) := by
    rw [List.filterMap_map]
    refine fm_congr fun m hm => ?_
    have : (((xs.size : Int) - 1) + (m : Int) * (-1)).toNat = xs.size - 1 - m := by
      have := List.mem_range.mp hm
      omega
    rw [this]
    rfl
  rw [e, PySem.W.krv_range, List.filterMap_reverse, PySem.W.krv_all]
section
variable {prog : Program} {w : World} {A : Around} {E : Value → Shared → Prop} {s : Shared}
theorem rev_applied {sl : Addr} {vs : Value} {n : Nat} {Q : Int × Int × Nat → Shared → Prop} (hs : s.heap.IsSliceOf sl .none .none vs) (ps : IsPart vs (some (-1))) (h : Q ((n : Int) - 1, -1, n) s) :
    wpAny (model prog w) A (Builtin.Slice.sliceApplied (.ref sl) (pure (n : Int))) Q E s := by
  obtain ⟨oo, ho, hcc, hdd⟩ := id hs
  unfold Builtin.Slice.sliceApplied
  unfold Builtin.Slice.sliceFields
  refine wpAny_bind (wpAny_bind (wpAny_field ho hdd (x := .none) rfl (wpAny_bind (wpAny_field ho hdd (x := .none) rfl (wpAny_bind (wpAny_field ho hdd (x := vs) rfl (wpAny_pure ?_)))))))
  refine wpAny_bind (slicePart_ ps ?_)
  show wpAny _ _ (if ((-1 : Int) == 0) = true then _ else _) _ _ s
  rw [if_neg (by decide)]
  refine wpAny_bind (slicePart_none (wpAny_bind (slicePart_none (wpAny_bind (wpAny_pure ?_)))))
  show wpAny _ _ (pure ((n : Int) - 1, (-1 : Int), Builtin.Slice.slicePlaces ((n : Int) - 1) (-1) (-1))) _ _ s
  rw [rev_places]
  exact wpAny_pure h
theorem rev_item {t sl : Addr} {items : Array Value} {vs : Value} {Q : Value → Shared → Prop} (ht : IsTup s.heap t items) (hs : s.heap.IsSliceOf sl .none .none vs) (ps : IsPart vs (some (-1)))
    (h : Q (.ref s.heap.objs.size) { s with heap := s.heap.push { cls := .type "tuple", data := .seq items.toList.reverse.toArray } }) (hsz : items.size ≤ sizeLine) : wpAny (model prog w) A (getItem (.ref t) (.ref sl)) Q E s := by
  have fits : sizeOk (.seq items.toList.reverse.toArray) := by
    show items.toList.reverse.toArray.size ≤ sizeLine
    rw [List.size_toArray, List.length_reverse, Array.length_toList]
    exact hsz
  have isS : s.TypeIs (.ref sl) "slice" := hs.elim fun o q => ⟨o, q.1, q.2.1⟩
  unfold getItem
  try with_reducible refine wpAny_holding ?_
  first | refine wpAny_bind (wpAny_pure ?_) | skip
  refine wpAny_bind (wpAny_sequenceKey ht.typeIs (by decide) (wpAny_bind (wpAny_callSpecial?_slot (name := Str.ofString "__getitem__") ht.typeIs PyProof.Rows.slot_tuple_getitem (wpAny_call_entry PyProof.Rows.slot_tuple_getitem ht.typeIs entry_tuple_getitem ?_ (args_tuple_getitem _ _)))))
  show wpAny _ _ (Builtin.Tuple.tupleItemsOf (.ref t) >>= _) _ _ s
  refine wpAny_bind (tupleItemsOf_ ht (wpAny_bind (wpAny_typeOf isS ?_)))
  rw [if_pos (by decide)]
  refine wpAny_bind (rev_applied hs ps ?_)
  have other : ¬ (((items.size : Int) - 1 == 0 && (-1 : Int) == 1 && items.size == items.size) = true) := by
    intro q
    rw [Bool.and_eq_true, Bool.and_eq_true] at q
    exact absurd q.1.2 (by decide)
  show wpAny _ _ (if ((items.size : Int) - 1 == 0 && (-1 : Int) == 1 && items.size == items.size) = true then _ else _) _ _ s
  rw [if_neg other, rev_pick]
  first
    | exact wpAny_bind (m := Builtin.Tuple.tupleExact _) (wpAny_newObj_type (wpAny_pure ⟨_, rfl, wpAny_pure h⟩) fits)
    | exact wpAny_bind (m := Builtin.Tuple.tupleExact _) (wpAny_newObj_type (wpAny_bind (wpAny_pure (wpAny_pure ⟨_, rfl, wpAny_pure h⟩))) fits)
    | exact wpAny_bind (wpAny_bind (m := Builtin.Tuple.tupleExact _) (wpAny_newObj_type (wpAny_pure (wpAny_pure ⟨_, rfl, wpAny_pure h⟩)) fits))
    | exact wpAny_bind (wpAny_bind (m := Builtin.Tuple.tupleExact _) (wpAny_newObj_type (wpAny_pure ⟨_, rfl, wpAny_pure h⟩) fits))
end
section
variable {X : Cx} {C : Ct}
def tRev2 (K : PySem.W.Frag) (te : TE) : TE := fun σ H Q => te σ H fun x H1 => ∃ a xs, x = .ref a ∧ ((SqL K H1 a xs ∧ ∀ p, H1 p = none → Q (.ref p) (upd H1 p (.lst xs.reverse))) ∨ (SqT K H1 a xs ∧ ∀ p, H1 p = none → Q (.ref p) (upd H1 p (.tup xs.reverse))))
theorem pe_rev2 {e : Expr} {te : TE} {k : Nat} {p1 p2 p3 pos : Pos} (he : PE X e te) : PE X (.Subscript e (.Slice none none (some (.UnaryOp .USub (.Constant (.int 1) k p1) p2)) p3) pos) (tRev2 X.K te) := by
  refine ⟨fun pins s σ H Q I h => Subscript_ (thn (he.run pins s σ H _ I h) fun v s1 hh => ?_)⟩
  obtain ⟨x, H1, I1, r1, a, xs, ex, q⟩ := hh
  subst ex
  cases r1
  have one : PO X (some (.UnaryOp .USub (.Constant (.int 1) k p1) p2)) (tPart (tUn (rU fun i => .int (-i)) (tC (.int 1)))) := po_some (pe_un un_neg pe_int)
  refine wpAny_Slice (thn (po_none.run pins s1 σ H1 (fun o H2 => o = none ∧ H2 = H1) I1 ⟨rfl, rfl⟩) fun vl s2 z => ?_)
  obtain ⟨_, _, I2, pl, rfl, rfl⟩ := z
  refine thn (po_none.run pins s2 σ _ (fun o H3 => o = none ∧ H3 = _) I2 ⟨rfl, rfl⟩) fun vu s3 z => ?_
  obtain ⟨_, _, I3, pu, rfl, rfl⟩ := z
  refine thn (one.run pins s3 σ _ (fun o H4 => o = some (-1) ∧ H4 = _) I3 ⟨1, rfl, -1, rfl, rfl, rfl⟩) fun vs s4 z => ?_
  obtain ⟨_, H4, I4, ps, rfl, rfl⟩ := z
  have I5 : Inv X pins σ _ { s4 with heap := s4.heap.push { cls := .type "slice", data := .fields #[vl, vu, vs] } } := I4.kept (t' := s4.toks) fun b ob q => Heap.get?_push_of_some _ q
  cases pl
  cases pu
  show wpAny (model X.prog X.w) X.A (subscriptTail e _ (.ref a) (.ref s4.heap.objs.size)) (EP X pins σ Q) X.xe { s4 with heap := s4.heap.push { cls := .type "slice", data := .fields #[.none, .none, vs] } }
  rcases q with ⟨hx, q⟩ | ⟨hx, q⟩
  · obtain ⟨its, r, ht, hz⟩ := I5.list hx
    have hlen := r.length
    refine tail_any (ops := [.ref a, .ref s4.heap.objs.size]) ht.isList.typeIs (PySem.slot_list_getitem.lookup) ?_ (by with_unfolding_all rfl)
    refine wpAny_getItem_list_slice ht.isList (Heap.IsSliceOf.new _ _ _ vs) .none .none ps (by decide) ?_ (by rw [List.size_toArray]; omega)
    rw [PySem.W.krv_pick]
    exact ⟨.ref _, _, I5.laid (t' := s4.toks) (o := .lst xs.reverse) (fun b ob q => Heap.get?_push_of_some _ q) (Nat.le_refl _) ⟨by rw [List.length_reverse]; exact hz, _, 0, r.reverse, Heap.get?_push_size _ rfl⟩, rfl, q _ (I5.hok.fresh (Nat.le_refl _))⟩
  · obtain ⟨its, r, ht, hz⟩ := I5.tuple hx
    have hlen := r.length
    refine tail_any (ops := [.ref a, .ref s4.heap.objs.size]) ht.typeIs (PyProof.Rows.slot_tuple_getitem.lookup) ?_ (by with_unfolding_all rfl)
    refine rev_item ht (Heap.IsSliceOf.new _ _ _ vs) ps ?_ (by rw [List.size_toArray]; omega)
    exact ⟨.ref _, _, I5.laid (t' := s4.toks) (o := .tup xs.reverse) (fun b ob q => Heap.get?_push_of_some _ q) (Nat.le_refl _) ⟨by rw [List.length_reverse]; exact hz, _, r.reverse, IsTup.new _ _⟩, rfl, q _ (I5.hok.fresh (Nat.le_refl _))⟩
theorem rpA_reverse {K : PySem.W.Frag} {F : Hp} {vs : List V} {ds : List PyData} (r : RpA K F vs ds) : RpA K F vs.reverse ds.reverse := by
  have app : ∀ {vs : List V} {ds : List PyData} {ws : List V} {es : List PyData}, RpA K F vs ds → RpA K F ws es → RpA K F (vs.reverse ++ ws) (ds.reverse ++ es) := by
    intro vs
    induction vs with
    | nil => intro ds ws es r q; cases r; exact q
    | cons v vs ih =>
      intro ds ws es r q
      cases r with
      | cons h r =>
        rw [List.reverse_cons, List.reverse_cons, List.append_assoc, List.append_assoc]
        exact ih r (.cons h q)
  have := app r (RpA.nil (K := K) (F := F))
  simpa using this
theorem pd_rev {e : Expr} {me : ME} {k : Nat} {p1 p2 p3 pos : Pos} (he : PE X e (tD X.K C me)) : PE X (.Subscript e (.Slice none none (some (.UnaryOp .USub (.Constant (.int 1) k p1) p2)) p3) pos) (tD X.K C (mOp1 opRev me)) := pe_imp (pe_rev2 he) (by
  rintro σ H Q ⟨F, sd, Qd, R, h, k⟩
  refine ⟨F, sd, _, R, h, fun x H1 F1 a sd1 R1 S1 rx h1 => ?_⟩
  obtain ⟨z, e, q⟩ := h1
  cases rx with
  | lst h2 r2 =>
    cases e
    refine ⟨_, _, rfl, .inl ⟨.inl (.inl (R1.ext _ _ h2)), fun p hp => ?_⟩⟩
    exact k (.ref p) _ _ _ sd1 (R1.al (.new hp)) (S1.trans (.al R1 (.new hp))) (.lst upd_same (rpA_reverse (r2.mono (same_new (free_of R1.ext hp))))) q
  | tup h2 r2 =>
    cases e
    refine ⟨_, _, rfl, .inr ⟨same_t R1.ext h2, fun p hp => ?_⟩⟩
    exact k (.ref p) _ _ _ sd1 (R1.al (.new hp)) (S1.trans (.al R1 (.new hp))) (.tup (.inl (.inl upd_same)) (rpA_reverse (r2.mono (same_new (free_of R1.ext hp))))) q
  | _ => cases e)
end
end DL
namespace DL
open PySem PySem.Spec PyProof.Rows L2
section
variable {P : Program} {w : World} {K : PySem.W.Frag} {mg : Str → Option Value} {base : Heap} {CN : String → Option Addr}
theorem psw {N : List Str} {qual : Str} {sc : Scope} {f : Addr} {cdv : Value} {A : Around} {outer : List Env} {s : Shared} {H : Hp} {E : XK} :
    PassesOwn (model (cxD P w K mg base N qual sc f cdv A outer s H E).prog (cxD P w K mg base N qual sc f cdv A outer s H E).w) (cxD P w K mg base N qual sc f cdv A outer s H E).A (cxD P w K mg base N qual sc f cdv A outer s H E).env (cxD P w K mg base N qual sc f cdv A outer s H E).xe := passes_of (X := cxD P w K mg base N qual sc f cdv A outer s H E) rfl
inductive Sel where | p (i : Nat) | k (i : Nat)
def pick {α : Type} (us ws : List α) : List Sel → List α
  | [] => []
  | .p i :: r => us[i]?.toList ++ pick us ws r
  | .k i :: r => ws[i]?.toList ++ pick us ws r
/-- a places, b keywords, in this order -/
def gSel (a b : Nat) (ss : List Sel) {α : Type} (us ws : List α) : List α := if us.length = a ∧ ws.length = b then pick us ws ss else []
theorem paired_app {α β : Type} {R : α → β → Prop} : ∀ {as : List α} {bs : List β} {cs : List α} {ds : List β}, Paired R as bs → Paired R cs ds → Paired R (as ++ cs) (bs ++ ds)
  | _, _, _, _, .nil, q => q
  | _, _, _, _, .cons h r, q => .cons h (paired_app r q)
theorem paired_at {α β : Type} {R : α → β → Prop} : ∀ {as : List α} {bs : List β} (i : Nat), Paired R as bs → Paired R as[i]?.toList bs[i]?.toList
  | _, _, _, .nil => .nil
  | _, _, 0, .cons h _ => .cons h .nil
  | _ :: _, _ :: _, i + 1, .cons _ r => by simpa using paired_at i r
theorem paired_len {α β : Type} {R : α → β → Prop} : ∀ {as : List α} {bs : List β}, Paired R as bs → as.length = bs.length
  | _, _, .nil => rfl
  | _, _, .cons _ r => by simp [paired_len r]
theorem ord_sel (a b : Nat) (ss : List Sel) : Ord (fun {α} => gSel a b ss (α := α)) where
  rel := fun {α β} R {as cs bs ds} h1 h2 => by
    unfold gSel
    rw [paired_len h1, paired_len h2]
    split
    · induction ss with
      | nil => exact .nil
      | cons s ss ih =>
        cases s with
        | p i => exact paired_app (paired_at i h1) ih
        | k i => exact paired_app (paired_at i h2) ih
    · exact .nil
theorem kbinds_of {fd : FuncData} {ps ks : List Str} {a b : Nat} {ss : List Sel} (hp : ps ≠ []) (h : ∀ (s : Shared) (us ws : List Value), us.length = a → ws.length = b → BindsTo s fd ⟨us, ks.zip ws⟩ (ps.zip (pick us ws ss))) : KBinds K fd ps ks (gSel a b ss) (gSel a b ss) where
  to := fun s us ws _ hl => by
    unfold gSel at hl ⊢
    by_cases c : us.length = a ∧ ws.length = b
    · rw [if_pos c]; exact h s us ws c.1 c.2
    · rw [if_neg c] at hl
      exact absurd (List.eq_nil_of_length_eq_zero hl.symm) hp
  rel := fun {vs us zs ws} h1 h2 => (ord_sel a b ss).rel RelV h1 h2
def dDraw : WSpec := fun n ds Q => ∃ m : Int, ds = [.int m] ∧ 1 ≤ n ∧ 1 ≤ m ∧ m.natAbs.log2 < 9000 ∧ ∀ r : Int, 0 ≤ r → r < m → Q (.va (.int r)) (n - 1)
def spWell (K : PySem.W.Frag) : Sp := fun vs H Q _ => ∃ (a : Addr) (ns : List Int) (k : Int), vs = [.ref a, .int k] ∧ SqL K H a (ns.map V.int) ∧ ns.length ≤ 63 ∧ (∀ z ∈ ns, Builtin.Int.intBits z ≤ 1048576) ∧ 0 ≤ k ∧ k < 2 ^ 20 ∧
  ∀ H' p x y z, Same H H' → H p = none → H' p = some (.lst [.int x, .int y, .int z]) → WellOk (2 ^ 60) x y z → Q (.ref p) H'
structure CalL (P : Program) (w : World) (K : PySem.W.Frag) (mg : Str → Option Value) (base : Heap) (k : Nat) (x : Str) : Prop where
  ex : ∃ f fd ps, FnG P w K mg base k f fd ps (spWell K) ∧ mg x = some (.ref f) ∧ PySem.W.keepIn K (.ref f) = true ∧ Binds K fd ps []
end
/-- the well from the script in slot i -/
def mWell (i : Nat) (me : ME) : MR := fun sd Q => (∃ ns, sget sd i = .scr ns) ∧ me sd fun d s1 => ∃ ns k, sget s1 i = .scr ns ∧ ns.length ≤ 63 ∧ (∀ z ∈ ns, Builtin.Int.intBits z ≤ 1048576) ∧ d = .int k ∧ 0 ≤ k ∧ k < 2 ^ 20 ∧ Q (.well (2 ^ 60)) s1
section
variable {K : PySem.W.Frag} {X : Cx} {C : Ct}
theorem td_well {i : Nat} {me : ME} {E : L2.St → XK} (hw : C.isW = false) : ∀ σ H Q, tDR K C (mWell i me) σ H Q → tCallG (spWell K) E (tCons (tVar i) (tCons (tD K C me) tNil)) σ H Q := by
  rintro σ H Q ⟨F, sd, Qd, R, ⟨⟨n0, hn0⟩, h⟩, k⟩
  have hi := R.slot i
  rw [hn0] at hi
  obtain ⟨p, e1, _⟩ := hi
  refine ⟨.ref p, gv_some.mp e1, F, sd, _, R, h, fun v H1 F1 d sd1 R1 S1 rv h1 => ?_⟩
  obtain ⟨ns, kk, hs, hl, hb, rfl, k0, k1, q⟩ := h1
  have hi1 := R1.slot i
  rw [hs] at hi1
  obtain ⟨p', z1, z2⟩ := hi1
  rw [e1] at z1; cases z1
  cases rv
  refine ⟨p, ns, kk, rfl, R1.ext.seq z2, hl, hb, k0, k1, fun H' p2 x y z sm hp hn ok => ?_⟩
  have S2 : Stp σ sd1 F1 H1 F1 H' sd1 := ⟨Same.refl _, fun a o e _ => sm a o e, fun _ z => z, fun a o e => .inl e, fun a e => by
    cases q : H1 a with
    | none => rfl
    | some o => rw [sm a o q] at e; cases e⟩
  have hF : F1 p2 = none := R1.free hp
  have R2 : Rs K C F1 H' σ sd1 := by
    refine ⟨R1.len, R1.grow, fun a o e => sm a o (R1.ext a o e), R1.new, fun a o e n => sm a o (R1.keep a o e n), fun a e => R1.still a (S2.st a e), fun j => (R1.slot j).grow (Same.refl _) fun q x o e eh en => ⟨sm q x eh, en⟩, R1.sep⟩
  refine k _ H' F1 (.well (2 ^ 60)) sd1 R2 (S1.trans S2) ⟨p2, x, y, z, rfl, hn, hF, .inr ⟨hw, R1.still p2 hp⟩, ok⟩ (fun _ q e => by cases e; exact (R1.fresh hp).1) (fun _ q e => by cases e; exact S1.st p2 hp) q
theorem pdr_well {i : Nat} {me : ME} {x y : Str} {e2 : Expr} {p p2 pos : Pos} {k j : Nat} {W : WX} (hw : C.isW = false) (c : CalL X.prog X.w X.K X.mg X.base k x) (hr : RoomG j X.A) (hk : k ≤ j) (tk : Takes X W) (hy : PE X (.Name y p2) (tVar i)) (he2 : PE X e2 (tD X.K C me)) (hg : Gl X x := by rfl)
    (hdb : (x == ("__debug__" : Str)) = false := by decide) (he : starEach (.Name y p2 :: [e2]) X.env = (false, eval (.Name y p2) X.env) :: starEach [e2] X.env := by rfl) (he1 : starEach (e2 :: []) X.env = (false, eval e2 X.env) :: starEach [] X.env := by rfl) (hpl : (backTo pos (starEach [e2] X.env)).any (·.1) = false := by rfl) :
    PE X (.Call (.Name x p) [.Name y p2, e2] [] pos) (tDR X.K C (mWell i me)) := by
  obtain ⟨f, fd, ps, F, hm, hkp, hb⟩ := c.ex
  exact pe_imp (pe_callG F (hr.mono hk) hg hm hkp hb (passAt tk) (pa_cons hy (pa_cons he2 pa_nil he1) he) hdb he hpl) (td_well hw)
end
end DL
namespace DL
open PySem PySem.Spec PyProof.Rows L2
/-- a + b of lists, a new list that nobody else holds -/
def mrCat (ma mb : ME) : MR := fun sd Q => ma sd fun a s1 => mb s1 fun b s2 => ∃ xs ys, a = .list xs ∧ b = .list ys ∧ xs.length + ys.length ≤ 100000 ∧ Q (.own (xs ++ ys)) s2
section
variable {K : PySem.W.Frag} {X : Cx} {C : Ct}
theorem pdt_ofw {e : Expr} {t : MT} (h : PW X e (tDT X.K C t)) : PT X e (tDT X.K C t) := h.pt
theorem cmpI_bl {p : Int → Int → Bool} {a b z : PyData} (h : cmpI p a b = some z) : ∃ k, z = .bool k := by
  unfold cmpI at h
  split at h
  · cases h; exact ⟨_, rfl⟩
  · cases h
theorem eq_bl {a b z : PyData} (h : opEq a b = some z) : ∃ k, z = .bool k := by
  unfold opEq at h
  split at h
  · cases h; exact ⟨_, rfl⟩
  · obtain ⟨p, _, h⟩ := Option.map_eq_some_iff.mp h
    exact ⟨_, h.symm⟩
theorem ne_bl {a b z : PyData} (h : opNe a b = some z) : ∃ k, z = .bool k := by
  unfold opNe at h
  split at h
  · cases h; exact ⟨_, rfl⟩
  · obtain ⟨p, _, h⟩ := Option.map_eq_some_iff.mp h
    exact ⟨_, h.symm⟩
theorem pd_chain2 {op op'} {r r' : R2} {f g : PyData → PyData → Option PyData} {a b c : Expr} {ma mb mc : ME} {pos : Pos} (ho : OpR X (compareOp op) r) (ho' : OpR X (compareOp op') r') (L : RL2 X.K r f) (L' : RL2 X.K r' g)
    (ha : PE X a (tD X.K C ma)) (hb : PE X b (tD X.K C mb)) (hc : PE X c (tD X.K C mc)) (hu : ∀ {a b : PyData} {z : PyData}, f a b = some z → ∃ k, z = .bool k := by first | exact cmpI_bl | exact eq_bl | exact ne_bl)
    (hm : lastMarks [op, op'] [b, c] = false := by with_unfolding_all rfl) : PE X (.Compare a [op, op'] [b, c] pos) (tD X.K C (mChain f g ma mb mc)) := pd_chain ho ho' L L' ha hb hc hu (pe_chain ho ho' ha hb hc hm)
theorem pdt_chain2 {op op'} {r r' : R2} {f g : PyData → PyData → Option PyData} {a b c : Expr} {ma mb mc : ME} {pos : Pos} (ho : OpR X (compareOp op) r) (ho' : OpR X (compareOp op') r') (L : RL2 X.K r f) (L' : RL2 X.K r' g)
    (ha : PE X a (tD X.K C ma)) (hb : PE X b (tD X.K C mb)) (hc : PE X c (tD X.K C mc)) (hm : lastMarks [op, op'] [b, c] = false := by with_unfolding_all rfl) : PT X (.Compare a [op, op'] [b, c] pos) (tDT X.K C (mT (mChain f g ma mb mc))) := pdt_chain L L' (pt_chain ho ho' ha hb hc hm)
theorem pdr_cat {a b : Expr} {ma mb : ME} {pos : Pos} (ha : PE X a (tD X.K C ma)) (hb : PE X b (tD X.K C mb)) : PE X (.BinOp a .Add b pos) (tDR X.K C (mrCat ma mb)) := pe_imp (pe_op op_cat ha hb) (by
  rintro σ H Q ⟨F, sd, Qd, R, h, k⟩
  refine ⟨F, sd, _, R, h, fun x H1 F1 d sd1 R1 S1 rx h1 => ⟨F1, sd1, _, R1, h1, fun y H2 F2 e sd2 R2 S2 ry h2 => ?_⟩⟩
  obtain ⟨xs, ys, rfl, rfl, hl, q⟩ := h2
  cases rx with
  | lst a1 r1 =>
    cases ry with
    | lst a2 r2 =>
      refine ⟨_, _, _, _, rfl, rfl, R2.ext _ _ (S2.fr _ _ a1), R2.ext _ _ a2, ?_, fun p hp => ?_⟩
      · rw [r1.length, r2.length]; exact line_of hl
      · have S := S1.trans S2
        refine k (.ref p) _ F2 (.own (xs ++ ys)) sd2 (R2.allocH hp) (S.trans ⟨Same.refl _, fun a o e _ => same_new hp a o e, fun _ z => z, fun _ _ e => .inl e, fun a e => ?_⟩) ⟨p, _, rfl, upd_same, R2.free hp, R2.still p hp, (r1.mono S2.fr).append r2⟩ (fun _ q' e => ?_) (fun _ q' e => ?_) q
        · by_cases z : a = p
          · subst z; exact hp
          · rw [upd_ne z] at e; exact e
        · cases e; exact (R2.fresh hp).1
        · cases e; exact S.st p hp)
end
end DL
namespace DL
open PySem PySem.Spec PyProof.Rows L2
def bTup : List PyData → Option PyData
  | [.list xs] => some (.tuple xs)
  | [.tuple xs] => some (.tuple xs)
  | _ => none
section
variable {K : PySem.W.Frag} {X : Cx} {C : Ct}
theorem pd_tupOf {p pos : Pos} {a : Expr} {m : ME} (hm : X.mg "tuple" = none) (ha : PE X a (tD X.K C m)) (hg : Gl X "tuple" := by rfl) (na : starEach [a] X.env = (false, eval a X.env) :: starEach [] X.env := by rfl) :
    PE X (.Call (.Name "tuple" p) [a] [] pos) (tD X.K C (mCallB bTup (mCons m mNil))) := pe_imp (pe_tupleOf hg hm ha na) (by
  rintro σ H Q ⟨F, sd, Qd, R, h, k⟩
  refine ⟨F, sd, _, R, h, fun x H1 F1 d sd1 R1 S1 rx h1 => ?_⟩
  obtain ⟨r, e, q⟩ := h1
  cases rx with
  | lst h2 r2 =>
    cases e
    refine .inl ⟨_, _, rfl, .inl (.inl (R1.ext _ _ h2)), fun p hp => ?_⟩
    exact k (.ref p) _ _ _ sd1 (R1.al (.new hp)) (S1.trans (.al R1 (.new hp))) (.tup (.inl (.inl upd_same)) (r2.mono (same_new (free_of R1.ext hp)))) q
  | tup h2 r2 =>
    cases e
    exact .inr ⟨_, _, rfl, same_t R1.ext h2, k _ H1 F1 _ sd1 R1 S1 (.tup h2 r2) q⟩
  | _ => cases e)
end
section
variable {P : Program} {w : World} {K : PySem.W.Frag} {mg : Str → Option Value} {base : Heap} {CN : String → Option Addr}
/-- a promise that is never asked for -/
theorem fn_never {k : Nat} {f : Addr} {fd : FuncData} {ps : List Str} {spec : PSpec} (h : ∀ ds Q E, ¬ spec ds Q E) : FnG P w K mg base k f fd ps (spP K CN spec) where
  len := fun vs H Q E z => by
    obtain ⟨_, _, _, _, _, _, z, _⟩ := z
    exact (h _ _ _ z).elim
  run := fun _ _ _ _ z => by
    obtain ⟨_, _, _, _, _, _, z, _⟩ := z
    exact (h _ _ _ z).elim
end
end DL
namespace DL
open PySem
theorem fz_va {d : PyData} : fz (.va d) = some d := rfl
theorem fz_own {ds : List PyData} : fz (.own ds) = some (.list ds) := rfl
section
variable {a b : Int}
theorem opAdd_i : opAdd (.int a) (.int b) = some (.int (a + b)) := rfl
theorem opSub_i : opSub (.int a) (.int b) = some (.int (a - b)) := rfl
theorem opMul_i : opMul (.int a) (.int b) = if small a b = true then some (.int (a * b)) else none := rfl
theorem opMod_i : opMod (.int a) (.int b) = if 0 < b then some (.int (a % b)) else none := rfl
theorem opFdiv_i : opFdiv (.int a) (.int b) = if 0 < b ∧ b.natAbs.log2 < 9000 then some (.int (a / b)) else none := rfl
theorem opPow_i : opPow (.int a) (.int b) = if 0 ≤ b ∧ b ≤ 100 ∧ a.natAbs < 2 ^ 10000 then some (.int (a ^ b.toNat)) else none := rfl
theorem opLt_i : opLt (.int a) (.int b) = some (.bool (decide (a < b))) := rfl
theorem opLe_i : opLe (.int a) (.int b) = some (.bool (decide (a ≤ b))) := rfl
theorem opGt_i : opGt (.int a) (.int b) = some (.bool (decide (b < a))) := rfl
theorem opGe_i : opGe (.int a) (.int b) = some (.bool (decide (b ≤ a))) := rfl
theorem opIsB_b {a b : Bool} : opIsB (.bool a) (.bool b) = some (.bool (decide (a = b))) := rfl
theorem opNotB_b {a b : Bool} : opNotB (.bool a) (.bool b) = some (.bool (!decide (a = b))) := rfl
theorem opIsN_n {d : PyData} : opIsN2 d .none = some (.bool (isN d)) := rfl
theorem opNotN_n {d : PyData} : opNotN2 d .none = some (.bool (!isN d)) := rfl
theorem opNeg_i : opNeg (.int a) = some (.int (-a)) := rfl
theorem bAbs_i : bAbs [.int a] = some (.int (if a < 0 then -a else a)) := rfl
theorem bMax_i : bMax [.int a, .int b] = some (.int (if b > a then b else a)) := rfl
theorem bMin_i : bMin [.int a, .int b] = some (.int (if b < a then b else a)) := rfl
theorem bInt_i : bInt [.int a] = some (.int a) := rfl
theorem bGcd_i : bGcd [.int a, .int b] = some (.int ((Nat.gcd a.natAbs b.natAbs : Nat) : Int)) := rfl
theorem bLen_l {xs : List PyData} : bLen [.list xs] = some (.int (xs.length : Int)) := rfl
theorem bLen_t {xs : List PyData} : bLen [.tuple xs] = some (.int (xs.length : Int)) := rfl
theorem opAdd_t {xs ys : List PyData} : opAdd (.tuple xs) (.tuple ys) = if xs.length + ys.length ≤ 100000 then some (.tuple (xs ++ ys)) else none := rfl
theorem opAdd_l {xs ys : List PyData} : opAdd (.list xs) (.list ys) = if xs.length + ys.length ≤ 100000 then some (.list (xs ++ ys)) else none := rfl
theorem opIx_l {xs : List PyData} : opIx (.list xs) (.int a) = atI xs a := rfl
theorem opIx_t {xs : List PyData} : opIx (.tuple xs) (.int a) = atI xs a := rfl
end
theorem opSl_t {xs : List PyData} {lo hi : Option Int} : opSl (.tuple xs) lo hi = some (.tuple (cutL xs lo hi)) := rfl
theorem opSl_l {xs : List PyData} {lo hi : Option Int} : opSl (.list xs) lo hi = some (.list (cutL xs lo hi)) := rfl
theorem opRev_t {xs : List PyData} : opRev (.tuple xs) = some (.tuple xs.reverse) := rfl
theorem opRev_l {xs : List PyData} : opRev (.list xs) = some (.list xs.reverse) := rfl
theorem bTup_l {xs : List PyData} : bTup [.list xs] = some (.tuple xs) := rfl
theorem bTup_t {xs : List PyData} : bTup [.tuple xs] = some (.tuple xs) := rfl
theorem bList_l {xs : List PyData} : bList [.list xs] = some (.list xs) := rfl
theorem bList_t {xs : List PyData} : bList [.tuple xs] = some (.list xs) := rfl
theorem cutL_all {α : Type} {p : α → Bool} {xs : List α} {lo hi : Option Int} (h : xs.all p = true) : (cutL xs lo hi).all p = true := by
  rw [List.all_eq_true] at h ⊢
  intro x hx
  exact h x (List.mem_of_mem_drop (List.mem_of_mem_take hx))
theorem cutL_len {α : Type} {xs : List α} {lo hi : Option Int} : (cutL xs lo hi).length ≤ xs.length := by
  unfold cutL
  rw [List.length_take, List.length_drop]
  omega
theorem opEq_b {a b : Bool} : opEq (.bool a) (.bool b) = some (.bool (a == b)) := by
  unfold opEq SeqAt.shaped
  simp [PyData.canLay0, PyData.depth, PyData.eqv]
theorem opNe_b {a b : Bool} : opNe (.bool a) (.bool b) = some (.bool (!(a == b))) := by
  unfold opNe SeqAt.shaped
  simp [PyData.canLay0, PyData.depth, PyData.eqv]
theorem opEq_nn : opEq .none .none = some (.bool true) := by
  unfold opEq SeqAt.shaped
  simp [PyData.canLay0, PyData.depth, PyData.eqv]
theorem mgCons_c {g : MG} {gs : MGs} {d : PyData} {r : List PyData} {sd : DSt} {Q : DSt → Prop} : mgCons g gs (d :: r) sd Q = g d sd fun s1 => gs r s1 Q := propext ⟨fun ⟨_, _, e, h⟩ => by cases e; exact h, fun h => ⟨_, _, rfl, h⟩⟩
theorem mgNil_n {sd : DSt} {Q : DSt → Prop} : mgNil [] sd Q = Q sd := propext ⟨fun h => h.2, fun h => ⟨rfl, h⟩⟩
theorem mgTup_t {n : Nat} {gs : MGs} {ds : List PyData} {sd : DSt} {Q : DSt → Prop} : mgTup n gs (.tuple ds) sd Q = (ds.length = n ∧ gs ds sd Q) := propext ⟨fun ⟨_, e, h⟩ => by cases e; exact h, fun h => ⟨_, rfl, h⟩⟩
theorem mgTup_l {n : Nat} {gs : MGs} {ds : List PyData} {sd : DSt} {Q : DSt → Prop} : mgTup n gs (.list ds) sd Q = (ds.length = n ∧ gs ds sd Q) := propext ⟨fun ⟨_, e, h⟩ => by cases e; exact h, fun h => ⟨_, rfl, h⟩⟩
theorem items_t {xs : List PyData} : items (.tuple xs) = some xs := rfl
theorem items_l {xs : List PyData} : items (.list xs) = some xs := rfl
theorem atI0 {α : Type} {x : α} {r : List α} : atI (x :: r) 0 = some x := by
  unfold atI ixN
  simp
theorem atI1 {α : Type} {x y : α} {r : List α} : atI (x :: y :: r) 1 = some y := by
  unfold atI ixN
  rw [if_pos (by decide), if_pos (by simp only [List.length_cons]; omega)]
  rfl
theorem atI2 {α : Type} {x y z : α} {r : List α} : atI (x :: y :: z :: r) 2 = some z := by
  unfold atI ixN
  rw [if_pos (by decide), if_pos (by simp only [List.length_cons]; omega)]
  rfl
theorem atI3 {α : Type} {x y z w : α} {r : List α} : atI (x :: y :: z :: w :: r) 3 = some w := by
  unfold atI ixN
  rw [if_pos (by decide), if_pos (by simp only [List.length_cons]; omega)]
  rfl
theorem atI_mem {α : Type} {xs : List α} {r : Int} (h0 : 0 ≤ r) (h1 : r < xs.length) : ∃ d ∈ xs, atI xs r = some d := by
  have hl : r.toNat < xs.length := by omega
  refine ⟨xs[r.toNat], List.getElem_mem _, ?_⟩
  unfold atI ixN
  rw [if_pos h0, if_pos h1]
  exact List.getElem?_eq_getElem hl
theorem big10 : (10 : Int).natAbs < 2 ^ 10000 := Nat.lt_of_lt_of_le (show (10 : Int).natAbs < 2 ^ 200 by decide +kernel) (Nat.pow_le_pow_right (by decide) (by decide))
theorem opEq_int {a b : Int} : opEq (.int a) (.int b) = some (.bool (decide (a = b))) := by
  unfold opEq SeqAt.shaped
  simp [PyData.canLay0, PyData.depth, PyData.eqv]
  by_cases h : a = b <;> simp [h]
theorem opNe_int {a b : Int} : opNe (.int a) (.int b) = some (.bool (!decide (a = b))) := by
  unfold opNe SeqAt.shaped
  simp [PyData.canLay0, PyData.depth, PyData.eqv]
  by_cases h : a = b <;> simp [h]
theorem opEq_str {a b : Str} : opEq (.str a) (.str b) = some (.bool (decide (a = b))) := by
  unfold opEq
  split
  · have e : PyData.eqv (.str a) (.str b) = decide (a = b) := by
      by_cases h : a = b <;> simp [PyData.eqv, h]
    rw [e]
  · rfl
theorem opNe_str {a b : Str} : opNe (.str a) (.str b) = some (.bool (!decide (a = b))) := by
  unfold opNe
  split
  · have e : PyData.eqv (.str a) (.str b) = decide (a = b) := by
      by_cases h : a = b <;> simp [PyData.eqv, h]
    rw [e]
  · rfl
end DL
namespace DL
open PySem
theorem lcL_run {mg : MG} {mt : MT} {me : ME} {vs : List Nat} {Q : List PyData → DSt → Prop} (I : DSt → Prop) (k : PyData → Option PyData) :
    ∀ ds : List PyData, (∀ d ∈ ds, ∀ s, I s → ∀ (Y : PyData → DSt → Prop) (N : DSt → Prop), (∀ y s3, k d = some y → I s3 → Y y s3) → (∀ s2, k d = none → I s2 → N s2) → mg d (swipe s vs) fun s1 => mt s1 fun b s2 => if b = true then me s2 Y else N s2) →
      ∀ s acc, I s → acc.length + ds.length ≤ 100000 → (∀ s', I s' → Q (acc ++ ds.filterMap k) s') → lcL mg mt me vs Q ds s acc
  | [], _, s, acc, i, _, q => by
    have := q s i
    rw [List.filterMap_nil, List.append_nil] at this
    exact this
  | d :: ds, h, s, acc, i, hl, q => by
    refine h d (by simp) s i _ _ (fun y s3 e i3 => ⟨by simp at hl; omega, ?_⟩) (fun s2 e i2 => ?_)
    · refine lcL_run I k ds (fun d' hd => h d' (by simp [hd])) s3 (acc ++ [y]) i3 (by simp at hl ⊢; omega) fun s' i' => ?_
      have := q s' i'
      rw [List.filterMap_cons_some e] at this
      simpa using this
    · refine lcL_run I k ds (fun d' hd => h d' (by simp [hd])) s2 acc i2 (by simp at hl; omega) fun s' i' => ?_
      have := q s' i'
      rwa [List.filterMap_cons_none e] at this
theorem forL_run {mg : MG} {body : MS} {D : DE} (I : List PyData → DSt → Prop) (hs : ∀ d r s (N : DSt → Prop), I (d :: r) s → (∀ s', I r s' → N s') → mg d s fun s1 => body { D with nx := N, ct := N, bk := D.nx } s1) (he : ∀ s, I [] s → D.nx s) : ∀ ds s, I ds s → forL mg body D ds s
  | [], s, i => he s i
  | d :: r, s, i => hs d r s _ i fun s' i' => forL_run I hs he r s' i'
theorem whileN_run {t : MT} {body : MS} {D : DE} (I : Nat → DSt → Prop) (hs : ∀ n s (N : DSt → Prop), I n s → (∀ m s', m < n → I m s' → N s') → t s fun b s1 => if b = true then body { D with nx := N, ct := N, bk := D.nx } s1 else D.nx s1) :
    ∀ (k n : Nat) (s : DSt), n < k → I n s → whileN t body D k s
  | 0, n, s, h, _ => by omega
  | k + 1, n, s, h, i => hs n s _ i fun m s' hm i' => whileN_run I hs k m s' (by omega) i'
theorem whileM {t : MT} {body : MS} {D : DE} (I : Nat → DSt → Prop) {n : Nat} {s : DSt} (i : I n s) (hs : ∀ n s (N : DSt → Prop), I n s → (∀ m s', m < n → I m s' → N s') → t s fun b s1 => if b = true then body { D with nx := N, ct := N, bk := D.nx } s1 else D.nx s1) : mWhile t body D s :=
  ⟨n + 1, whileN_run I hs (n + 1) n s (Nat.lt_succ_self n) i⟩
theorem sget_eq {s : DSt} : sget s 0 = match s with
  | [] => .no
  | x :: _ => x := by cases s <;> rfl
end DL
local macro_rules | `(tactic| walk_at "rdm") => `(tactic| simp only [DL.mSeq, DL.mAsg, DL.mAsgR, DL.mAsgM, DL.mrs, DL.ssets, DL.mIf, DL.mRet, DL.mRetN, DL.mrOf, DL.mrLst, DL.mrCat, DL.mrCall, DL.mDrop, DL.mNext, DL.mBreak, DL.mCont, DL.mC, DL.mVar, DL.mOp2, DL.mOp1, DL.mAnd, DL.mOr, DL.mNot, DL.mIfE, DL.mChain, DL.mNil, DL.mCons, DL.mTup, DL.mLst, DL.mCallB, DL.mDict0, DL.mPart, DL.mNoPart, DL.mSl, DL.mCall, DL.mCallK, DL.mCallW, DL.mLenScr, DL.mWell, DL.mT, DL.mTAnd, DL.mTOr, DL.mTNot, DL.mTYes, DL.mgName, DL.mgNil, DL.mgCons, DL.mgTup, DL.miSeq, DL.miRng1, DL.miRng2, DL.mRaise, DL.mApp, DL.mFor, DL.mLc, DL.mrLc, DL.sget, DL.sset, DL.slots0, DL.slotsW, DL.endP, DL.endW, DL.endL, DL.wF, DL.fz_va, DL.fz_own, List.length_cons, List.length_nil, List.map_cons, List.map_nil, List.replicate_succ, List.replicate_zero, Nat.reduceAdd, Nat.reduceSub, Nat.reduceLeDiff, List.cons_append, List.nil_append, Nat.zero_add, Nat.add_zero, Nat.sub_self, Option.some.injEq, PySem.PyData.bool.injEq, PySem.PyData.int.injEq, PySem.PyData.tuple.injEq, PySem.PyData.list.injEq, PySem.PyData.str.injEq, List.cons.injEq, DL.S.va.injEq, DL.S.own.injEq, DL.S.well.injEq, DL.S.scr.injEq, and_true, true_and, exists_eq_left', exists_eq_left, exists_eq_right, exists_eq_right', exists_and_left, exists_and_right, exists_eq, exists_eq', reduceCtorEq, false_and, and_false, exists_const, if_true, if_false, Bool.false_eq_true, reduceIte, Bool.not_true, Bool.not_false, DL.bIsi, List.any_cons, List.any_nil, Bool.or_false, Bool.or_true, Bool.false_or, Bool.true_or, DL.isK, DL.opAdd_i, DL.opSub_i, DL.opMul_i, DL.opMod_i, DL.opFdiv_i, DL.opPow_i, DL.opLt_i, DL.opLe_i, DL.opGt_i, DL.opGe_i, DL.opEq_int, DL.opNe_int, DL.opEq_str, DL.opNe_str, DL.opIsN_n, DL.opNotN_n, DL.isN, DL.opIsB_b, DL.opNotB_b, DL.opNeg_i, DL.bAbs_i, DL.bMax_i, DL.bMin_i, DL.bInt_i, DL.bGcd_i, DL.bLen_l, DL.bLen_t, DL.opAdd_t, DL.opAdd_l, DL.opIx_l, DL.opIx_t, DL.opSl_t, DL.opSl_l, DL.opRev_t, DL.opRev_l, DL.bList_l, DL.bList_t, DL.bTup_l, DL.bTup_t, DL.atI0, DL.atI1, DL.atI2, DL.atI3])
local macro_rules | `(tactic| walk_at "rdn") => `(tactic| simp only [DL.mSeq, DL.mAsg, DL.mAsgR, DL.mAsgM, DL.mrs, DL.ssets, DL.mIf, DL.mRet, DL.mRetN, DL.mrOf, DL.mrLst, DL.mrCat, DL.mrCall, DL.mDrop, DL.mNext, DL.mBreak, DL.mCont, DL.mC, DL.mVar, DL.mOp2, DL.mOp1, DL.mAnd, DL.mOr, DL.mNot, DL.mIfE, DL.mChain, DL.mNil, DL.mCons, DL.mTup, DL.mLst, DL.mCallB, DL.mDict0, DL.mPart, DL.mNoPart, DL.mSl, DL.mCall, DL.mCallK, DL.mCallW, DL.mLenScr, DL.mWell, DL.mT, DL.mTAnd, DL.mTOr, DL.mTNot, DL.mTYes, DL.mgName, DL.mgNil_n, DL.mgCons_c, DL.mgTup_t, DL.mgTup_l, DL.miSeq, DL.miRng1, DL.miRng2, DL.mRaise, DL.mApp, DL.mFor, DL.mLc, DL.mrLc, DL.sget, DL.sset, DL.slots0, DL.slotsW, DL.endP, DL.endW, DL.endL, DL.wF, DL.fz_va, DL.fz_own, List.length_cons, List.length_nil, List.map_cons, List.map_nil, List.replicate_succ, List.replicate_zero, Nat.reduceAdd, Nat.reduceSub, Nat.reduceLeDiff, List.cons_append, List.nil_append, Nat.zero_add, Nat.add_zero, Nat.sub_self, Option.some.injEq, PySem.PyData.bool.injEq, PySem.PyData.int.injEq, PySem.PyData.tuple.injEq, PySem.PyData.list.injEq, PySem.PyData.str.injEq, List.cons.injEq, DL.S.va.injEq, DL.S.own.injEq, DL.S.well.injEq, DL.S.scr.injEq, and_true, true_and, exists_eq_left', exists_eq_left, exists_eq_right, exists_eq_right', exists_and_left, exists_and_right, exists_eq, exists_eq', reduceCtorEq, false_and, and_false, exists_const, if_true, if_false, Bool.false_eq_true, reduceIte, Bool.not_true, Bool.not_false, DL.bIsi, List.any_cons, List.any_nil, Bool.or_false, Bool.or_true, Bool.false_or, Bool.true_or, DL.isK, DL.opAdd_i, DL.opSub_i, DL.opLt_i, DL.opLe_i, DL.opGt_i, DL.opGe_i, DL.opEq_int, DL.opNe_int, DL.opEq_b, DL.opNe_b, DL.opEq_nn, beq_self_eq_true, DL.opEq_str, DL.opNe_str, DL.opIsN_n, DL.opNotN_n, DL.isN, DL.opIsB_b, DL.opNotB_b, DL.opNeg_i, DL.bAbs_i, DL.bMax_i, DL.bMin_i, DL.bInt_i, DL.bGcd_i, DL.bLen_l, DL.bLen_t, DL.opAdd_t, DL.opAdd_l, DL.opIx_l, DL.opIx_t, DL.opSl_t, DL.opSl_l, DL.opRev_t, DL.opRev_l, DL.bList_l, DL.bList_t, DL.bTup_l, DL.bTup_t, DL.atI0, DL.atI1, DL.atI2, DL.atI3, DL.items_t, DL.items_l])
namespace DL
open PySem
theorem bools_map {α : Type} (f : α → Bool) : ∀ xs : List α, bools (xs.map fun x => .bool (f x)) = some (xs.map f)
  | [] => rfl
  | x :: xs => by
    show (bools (xs.map fun x => .bool (f x))).map (f x :: ·) = _
    rw [bools_map f xs]
    rfl
theorem fm_some {α β : Type} (f : α → β) : ∀ xs : List α, xs.filterMap (fun d => some (f d)) = xs.map f
  | [] => rfl
  | x :: xs => by
    rw [List.filterMap_cons]
    simp [fm_some f xs]
end DL
namespace DL
open PySem
/-- a number of at most k binary digits -/
def sz (k : Nat) (z : Int) : Prop := z.natAbs < 2 ^ k
theorem sz_mono {k l : Nat} {z : Int} (h : sz k z) (hl : k ≤ l) : sz l z := Nat.lt_of_lt_of_le h (Nat.pow_le_pow_right (by decide) hl)
theorem sz_neg {k : Nat} {z : Int} (h : sz k z) : sz k (-z) := by
  unfold sz at *
  rwa [Int.natAbs_neg]
theorem sz_mul {k l : Nat} {a b : Int} (ha : sz k a) (hb : sz l b) : sz (k + l) (a * b) := by
  unfold sz at *
  rw [Int.natAbs_mul, Nat.pow_add]
  exact Nat.mul_lt_mul'' ha hb
theorem sz_add {k : Nat} {a b : Int} (ha : sz k a) (hb : sz k b) : sz (k + 1) (a + b) := by
  unfold sz at *
  have := Int.natAbs_add_le a b
  rw [Nat.pow_succ]
  omega
theorem sz_sub {k : Nat} {a b : Int} (ha : sz k a) (hb : sz k b) : sz (k + 1) (a - b) := by
  rw [Int.sub_eq_add_neg]
  exact sz_add ha (sz_neg hb)
theorem sz_le {k : Nat} {a b : Int} (hb : sz k b) (h : a.natAbs ≤ b.natAbs) : sz k a := Nat.lt_of_le_of_lt h hb
theorem sz_mod {k : Nat} {a b : Int} (hb : sz k b) (h : 0 < b) : sz k (a % b) := by
  have h1 := Int.emod_nonneg a (show b ≠ 0 by omega)
  have h2 := Int.emod_lt_of_pos a h
  exact sz_le hb (by omega)
theorem natAbs_div_le (a : Int) {b : Int} (h : 0 < b) : (a / b).natAbs ≤ a.natAbs := Int.natAbs_ediv_le_natAbs a b
theorem sz_div {k : Nat} {a b : Int} (ha : sz k a) (h : 0 < b) : sz k (a / b) := sz_le ha (natAbs_div_le a h)
theorem sz_log {k : Nat} {z : Int} (h : sz k z) : z.natAbs.log2 ≤ k := by
  by_cases h0 : z.natAbs = 0
  · rw [h0, show Nat.log2 0 = 0 by decide]
    exact Nat.zero_le _
  · exact Nat.le_of_lt ((Nat.log2_lt h0).mpr h)
theorem small_sz {a b : Int} {k l : Nat} (ha : sz k a) (hb : sz l b) (h : k + l < 1000000) : small a b = true := by
  have := sz_log ha
  have := sz_log hb
  exact decide_eq_true (by omega)
theorem opMul_ok {a b : Int} {k l : Nat} (ha : sz k a) (hb : sz l b) (h : k + l < 1000000) : opMul (.int a) (.int b) = some (.int (a * b)) := by rw [opMul_i, if_pos (small_sz ha hb h)]
theorem opMod_ok {a b : Int} (h : 0 < b) : opMod (.int a) (.int b) = some (.int (a % b)) := by rw [opMod_i, if_pos h]
theorem opFdiv_ok {a b : Int} {k : Nat} (h : 0 < b) (hb : sz k b) (hk : k < 9000) : opFdiv (.int a) (.int b) = some (.int (a / b)) := by
  have := sz_log hb
  rw [opFdiv_i, if_pos ⟨h, by omega⟩]
end DL
namespace DL
open PySem PySem.Spec PyProof.Rows L2
/-- body; an error of a class that is caught: the suite, with the error in slot i; else on -/
def mTry (body : WD → MS) (i : Nat) (cat : String → Bool) (suite : String → Addr → MS) (Wout : WD) : MS := fun D sd =>
  body (fun c sd' => (cat c = true → ∀ a, suite c a { nx := fun s => D.nx (sset s i .no), rt := D.rt, bk := fun s => D.bk (sset s i .no), ct := fun s => D.ct (sset s i .no) } (sset sd' i (.exc a))) ∧ (cat c = false → Wout c sd')) D sd
/-- isinstance(e, ..), e what slot i holds, at a -/
def mIsE (i : Nat) (a : Addr) (b : Bool) : ME := fun sd Q => sget sd i = .exc a ∧ Q (.bool b) sd
/-- from F on -/
abbrev Ct.on (C : Ct) (F : Hp) : Ct := { C with F0 := F }
section
variable {K : PySem.W.Frag} {X : Cx} {C : Ct} {F H F1 : Hp} {σ : L2.St} {sd : DSt}
theorem slot_on {v : Option V} {s : S} : SlotOk K (C.on F1) F H v s ↔ SlotOk K C F H v s := by cases s <;> exact Iff.rfl
theorem Rs.on (R : Rs K C F H σ sd) : Rs K (C.on F) F H σ sd :=
  ⟨R.len, Same.refl _, R.ext, fun _ _ e => .inl e, R.keep, R.still, fun i => slot_on.mpr (R.slot i), R.sep⟩
theorem Rs.off {F0 H0 : Hp} {σ0 : L2.St} {sd0 : DSt} (R0 : Rs K C F0 H0 σ0 sd0) (R : Rs K (C.on F0) F H σ sd) : Rs K C F H σ sd :=
  ⟨R.len, R0.grow.trans R.grow, R.ext, fun a o e => (R.new a o e).elim (fun z => R0.new a o z) .inr, R.keep, R.still, fun i => slot_on.mp (R.slot i), R.sep⟩
theorem EndOk.on {Dd : DE} {D : Ends} (R : Rs K C F H σ sd) (E : EndOk K C F Dd D) : EndOk K (C.on F) F Dd D :=
  ⟨fun F1 H1 σ1 sd1 e R1 q => E.nx F1 H1 σ1 sd1 e (R.off R1) q, fun F1 H1 σ1 sd1 v r e R1 rv o q => E.rt F1 H1 σ1 sd1 v r e (R.off R1) (slot_on.mp rv) o q, fun F1 H1 σ1 sd1 e R1 q => E.bk F1 H1 σ1 sd1 e (R.off R1) q, fun F1 H1 σ1 sd1 e R1 q => E.ct F1 H1 σ1 sd1 e (R.off R1) q⟩
variable {CN : String → Option Addr}
/-- the suite's wish, whatever the class is -/
def tSuite (K : PySem.W.Frag) (C : Ct) (CN : String → Option Addr) (suite : String → Addr → MS) : Addr → Value → Option Addr → TS := fun a cls d D σ H => ∃ c A, CN c = some A ∧ cls = .ref A ∧ d = none ∧ tDS K C (suite c a) D σ H
def tBody (K : PySem.W.Frag) (C : Ct) (CN : String → Option Addr) (mb : WD → MS) : WX → TS := fun W D σ H => ∃ F Wd, (∀ cls d σ H, wD K (C.on F) CN Wd cls d σ H → W cls d σ H) ∧ tDS K (C.on F) (mb Wd) D σ H
theorem td_try {hc : Value} {i : Nat} {cat : String → Bool} {mb : WD → MS} {suite : String → Addr → MS} {Wout : WD} (hx : ∀ c A, CN c = some A → PySem.W.exmOne K (.ref A) hc = some (cat c)) :
    ∀ D σ H, tDS K C (mTry mb i cat suite Wout) D σ H → tBody K C CN mb (wAs K hc i (tSuite K C CN suite) (wD K C CN Wout) D) D σ H := by
  rintro D σ H ⟨F, sd, Dd, R, E, h⟩
  refine ⟨F, _, ?_, F, sd, Dd, R.on, E.on R, h⟩
  rintro cls d σ1 H1 ⟨c, A, F1, sd1, hcn, rfl, rfl, R1, q1, q2⟩
  have R2 := R.off R1
  refine ⟨cat c, hx c A hcn, fun hb a ha => ⟨c, A, hcn, rfl, rfl, F1, _, _, R2.setr (v := .ref a) (r := .exc a) rfl (fun z => nomatch z), ?_, q1 hb a⟩, fun hb => ⟨c, A, F1, sd1, hcn, rfl, rfl, R2, q2 hb⟩⟩
  have E2 := E.mono R1.grow
  exact ⟨fun F3 H3 σ3 sd3 e R3 q => E2.nx F3 H3 _ _ e R3.setno q, E2.rt, fun F3 H3 σ3 sd3 e R3 q => E2.bk F3 H3 _ _ e R3.setno q, fun F3 H3 σ3 sd3 e R3 q => E2.ct F3 H3 _ _ e R3.setno q⟩
variable {x n : Str} {c : Value} {i : Nat} {body suite : List Stmt} {b₀ : Stmt} {np pos pos' : Pos}
theorem pds_try {hc : Value} {cat : String → Bool} {mb : WD → MS} {ms : String → Addr → MS} {Wout : WD} (hs : X.stack = X.env :: X.outer) (hf : X.env.frame = some X.env.locals) (hN : X.N.Nodup) (hi : X.N[i]? = some n) (hln : X.env.kindOf n = some .local) (hcn : Names X x hc) (tk : Takes X (wD X.K C CN Wout))
    (hx : ∀ c A, CN c = some A → PySem.W.exmOne X.K (.ref A) hc = some (cat c))
    (hb : ∀ (F : Hp) (Wd : WD) (pn : List (Addr × Obj)) (xe : Value → Shared → Prop), Takes (X.tr pn xe) (wD X.K (C.on F) CN Wd) → PassesOwn (model X.prog X.w) X.A X.env xe → PSs (X.tr pn xe) body (tDS X.K (C.on F) (mb Wd)))
    (hsu : ∀ (a : Addr) (oe : Obj) (pn : List (Addr × Obj)) (c : String) (A : Addr), CN c = some A → Zc (.ref A) none oe → (∃ vs, oe.data = .fields vs) → PSs (X.suite a ((a, oe) :: pn)) (b₀ :: suite) (tDS X.K C (ms c a))) :
    PS X (.Try body [.ExceptHandler (some (.Name x np)) (some n) (b₀ :: suite) pos'] [] [] pos) (tDS X.K C (mTry mb i cat ms Wout)) := by
  refine ps_imp (ps_try_as (ts := tSuite X.K C CN ms) (tb := tBody X.K C CN mb) hs hf hN hi hln hcn tk (fun W pn xe tk' po => ?_) (fun a oe cls d pn hz hfl => ?_)) (td_try hx)
  · refine ⟨fun pins s σ H D I h => ?_⟩
    obtain ⟨F, Wd, hw, h⟩ := h
    exact (hb F Wd pn xe (tk'.imp hw) po).run pins s σ H D I h
  · refine ⟨fun pins s σ H D I h => ?_⟩
    obtain ⟨c, A, hA, rfl, rfl, h⟩ := h
    exact (hsu a oe pn c A hA hz hfl).run pins s σ H D I h
/-- isinstance(n, T) in a suite -/
theorem pd_isE {a A : Addr} {oe : Obj} {pn : List (Addr × Obj)} {i : Nat} {y : Str} {p p2 pos : Pos} {b : Bool} {tv : V} {cv : Value} {te : Expr} (EC : ExcC X.K A) (hz : Zc (.ref A) none oe) (hfl : ∃ vs, oe.data = .fields vs) (hm : X.mg "isinstance" = none)
    (hk : PySem.W.kitOne X.K (.ref A) cv = some b) (hcv : ∀ u, RelV tv u → u = cv) (hN : (X.suite a ((a, oe) :: pn)).N[i]? = some y) (hv : Vis (X.suite a ((a, oe) :: pn)).env.scope y) (hT : PE (X.suite a ((a, oe) :: pn)) te (tC tv))
    (hg : Gl (X.suite a ((a, oe) :: pn)) "isinstance" := by rfl) (hd : (y == ("__debug__" : Str)) = false := by decide) (hcd : (y == ("__classdict__" : Str)) = false := by decide)
    (he : starEach (.Name y p2 :: [te]) X.env = (false, eval (.Name y p2) X.env) :: starEach [te] X.env := by rfl) (he1 : starEach (te :: []) X.env = (false, eval te X.env) :: starEach [] X.env := by rfl) (hpl : (backTo pos (starEach [te] X.env)).any (·.1) = false := by rfl) :
    PE (X.suite a ((a, oe) :: pn)) (.Call (.Name "isinstance" p) [.Name y p2, te] [] pos) (tD X.K C (mIsE i a b)) := pe_imp (pe_callB (call_isE EC hz hfl) hg hm (by decide +kernel) (pa_cons (pe_var hN hv hd hcd) (pa_cons hT pa_nil he1) he) (by decide) (by decide) he hpl) (by
  rintro σ H Q ⟨F, sd, Qd, R, ⟨hs, h⟩, k⟩
  have hi := R.slot i
  rw [hs] at hi
  refine ⟨.ref a, gv_some.mp hi, tv, cv, b, rfl, hcv, hk, ?_⟩
  exact k _ H F _ sd R .refl (.bl _) h)
end
end DL
namespace DL
open PySem PySem.Spec PyProof.Rows L2
/-- xs.f(x) -/
def mMeth (f : List PyData → PyData → Option PyData) (ma mb : ME) : ME := fun sd Q => ma sd fun a s1 => ∃ xs, a = .list xs ∧ mb s1 fun b s2 => ∃ r, f xs b = some r ∧ Q r s2
def opCnt (xs : List PyData) (b : PyData) : Option PyData := if (flatD b && xs.all flatD) = true then some (.int (xs.countP (fun d => PyData.eqv d b) : Nat)) else none
def firstAt (b : PyData) : List PyData → Option Nat
  | [] => none
  | d :: ds => if PyData.eqv d b = true then some 0 else (firstAt b ds).map (· + 1)
def opIdx (xs : List PyData) (b : PyData) : Option PyData := if (flatD b && xs.all flatD) = true then (firstAt b xs).map fun n => .int (n : Nat) else none
section
variable {K : PySem.W.Frag} {X : Cx} {C : Ct}
def rCntF (K : PySem.W.Frag) : V → List V → Hp → VK → Prop := fun x xs H Q => ∃ (p : Addr) (ys : List V) (y : V), x = .ref p ∧ xs = [y] ∧ SqL K H p ys ∧ flatV y = true ∧ ys.all flatV = true ∧ Q (.int (ys.countP (fun z => eqV z y) : Nat)) H
theorem countU {y : V} : ∀ {ys : List V} {us : List Value}, Vals ys us → ys.all flatV = true → us.countP (eqU y) = ys.countP (fun z => eqV z y)
  | _, _, .nil, _ => rfl
  | z :: ys, u :: us, .cons r rr, f => by
    rw [List.all_cons, Bool.and_eq_true] at f
    rw [List.countP_cons, List.countP_cons, countU rr f.2, eqU_of r f.1]
theorem mt_countF : MtR X "list.count" (rCntF X.K) := by
  intro pins s σ H x xs v us Q I rx rxs h
  obtain ⟨p, ys, y, rfl, rfl, hs, fy, fys, q⟩ := h
  cases rx
  obtain ⟨u, rfl, ru⟩ := rxs.one
  obtain ⟨its, rv, ⟨⟨cls, dd, data, sl⟩, n, ho, hc, hdn, hd⟩, hlen⟩ := I.list hs
  simp only at hc hd
  subst hc hd
  refine call_meets PySem.F.slot_list_count ⟨_, ho, rfl⟩ PySem.F.entry_list_count (PySem.F.args_list_count_2 _ _) (SeqAt.list_countAt p its.toArray n dd sl u (eqU y)) ⟨ho, fun u' hu' => mem_eqAt ru fy rv fys u' (by simpa using hu'), ?_⟩
  have ec : its.toArray.toList.countP (eqU y) = ys.countP (fun z => eqV z y) := countU rv fys
  refine ⟨.int (ys.countP (fun z => eqV z y) : Nat), H, I.tok _, ⟨s.toks, ?_⟩, q⟩
  show Value.int ((its.toArray.toList.countP (eqU y) : Nat) : Int) s.toks = _
  rw [ec]
theorem flats_rp {F : Hp} : ∀ {vs : List V} {ds : List PyData}, RpA K F vs ds → ds.all flatD = true → vs.all flatV = true
  | _, _, .nil, _ => rfl
  | v :: vs, d :: ds, .cons h r, hf => by
    rw [List.all_cons, Bool.and_eq_true] at hf
    rw [List.all_cons, flatV_rp h hf.1, flats_rp r hf.2]
    rfl
theorem count_rp {F : Hp} {y : V} {b : PyData} (ry : Rp K F y b) (hb : flatD b = true) : ∀ {vs : List V} {ds : List PyData}, RpA K F vs ds → ds.all flatD = true → vs.countP (fun z => eqV z y) = ds.countP (fun d => PyData.eqv d b)
  | _, _, .nil, _ => rfl
  | v :: vs, d :: ds, .cons h r, hf => by
    rw [List.all_cons, Bool.and_eq_true] at hf
    rw [List.countP_cons, List.countP_cons, count_rp ry hb r hf.2, eqV_rp h ry hf.1 hb]
theorem first_rp {F : Hp} {y : V} {b : PyData} (ry : Rp K F y b) (hb : flatD b = true) : ∀ {vs : List V} {ds : List PyData} {n : Nat}, RpA K F vs ds → ds.all flatD = true → firstAt b ds = some n →
    ∃ z, vs[n]? = some z ∧ eqV z y = true ∧ ∀ (m : Nat) (z' : V), m < n → vs[m]? = some z' → eqV z' y = false
  | _, _, _, .nil, _, e => by cases e
  | v :: vs, d :: ds, n, .cons h r, hf, e => by
    rw [List.all_cons, Bool.and_eq_true] at hf
    unfold firstAt at e
    by_cases c : PyData.eqv d b = true
    · rw [if_pos c] at e
      cases e
      exact ⟨v, rfl, (eqV_rp h ry hf.1 hb).trans c, fun m z' hm _ => by omega⟩
    · rw [if_neg c] at e
      obtain ⟨k, hk, rfl⟩ := Option.map_eq_some_iff.mp e
      obtain ⟨z, z1, z2, z3⟩ := first_rp ry hb r hf.2 hk
      refine ⟨z, by simpa using z1, z2, fun m z' hm hz => ?_⟩
      cases m with
      | zero =>
        cases hz
        rw [eqV_rp h ry hf.1 hb]
        simpa using c
      | succ m => exact z3 m z' (by omega) (by simpa using hz)
theorem td_meth {r : V → List V → Hp → VK → Prop} {f : List PyData → PyData → Option PyData} {ma mb : ME}
    (L : ∀ (F H : Hp) (p : Addr) (vs : List V) (ds : List PyData) (y : V) (b z : PyData) (Q : VK), Same F H → F p = some (.lst vs) → RpA K F vs ds → Rp K F y b → f ds b = some z → (∀ v, Rp K F v z → Q v H) → r (.ref p) [y] H Q) :
    ∀ σ H Q, tD K C (mMeth f ma mb) σ H Q → tBM K "list" r (tD K C ma) (tCons (tD K C mb) tNil) σ H Q := by
  rintro σ H Q ⟨F, sd, Qd, R, h, k⟩
  refine ⟨F, sd, _, R, h, fun x H1 F1 a sd1 R1 S1 rx h1 => ?_⟩
  obtain ⟨xs, rfl, h1⟩ := h1
  cases rx with
  | lst hp ra =>
    refine ⟨.inl ⟨rfl, _, .inl (.inl (R1.ext _ _ hp))⟩, F1, sd1, _, R1, h1, fun y H2 F2 b sd2 R2 S2 ry h2 => ?_⟩
    obtain ⟨z, e, q⟩ := h2
    exact L F2 H2 _ _ xs y b z Q R2.ext (S2.fr _ _ hp) (ra.mono S2.fr) ry e fun v rz => k v H2 F2 z sd2 R2 (S1.trans S2) rz q
variable {o e : Expr} {apos cpos : Pos} {ma mb : ME}
theorem pd_count (ho : PE X o (tD X.K C ma)) (he : PE X e (tD X.K C mb)) (t : PE X (.Call (.Attribute o "count" apos) [e] [] cpos) (tBM X.K "list" (rCntF X.K) (tD X.K C ma) (tCons (tD X.K C mb) tNil))) : PE X (.Call (.Attribute o "count" apos) [e] [] cpos) (tD X.K C (mMeth opCnt ma mb)) := pe_imp t (td_meth (by
  intro F H p vs ds y b z Q e hp ra ry h k
  unfold opCnt at h
  split at h
  · rename_i hc
    cases h
    rw [Bool.and_eq_true] at hc
    refine ⟨p, vs, y, rfl, rfl, .inl (.inl (e _ _ hp)), flatV_rp ry hc.1, flats_rp ra hc.2, ?_⟩
    rw [count_rp ry hc.1 ra hc.2]
    exact k _ (.int _)
  · cases h))
theorem pd_index (ho : PE X o (tD X.K C ma)) (he : PE X e (tD X.K C mb)) (t : PE X (.Call (.Attribute o "index" apos) [e] [] cpos) (tBM X.K "list" (rIndex X.K) (tD X.K C ma) (tCons (tD X.K C mb) tNil))) : PE X (.Call (.Attribute o "index" apos) [e] [] cpos) (tD X.K C (mMeth opIdx ma mb)) := pe_imp t (td_meth (by
  intro F H p vs ds y b z Q e hp ra ry h k
  unfold opIdx at h
  split at h
  · rename_i hc
    rw [Bool.and_eq_true] at hc
    obtain ⟨n, hn, rfl⟩ := Option.map_eq_some_iff.mp h
    obtain ⟨z, z1, z2, z3⟩ := first_rp ry hc.1 ra hc.2 hn
    exact ⟨p, vs, y, n, z, rfl, rfl, .inl (.inl (e _ _ hp)), flatV_rp ry hc.1, flats_rp ra hc.2, z1, z2, z3, k _ (.int _)⟩
  · cases h))
end
end DL
namespace DL
open PySem PySem.Spec PyProof.Rows L2
/-- x[k] = e, x a slot that owns its list -/
def mSet (i : Nat) (mi me : ME) : MS := fun D sd => me sd fun v s1 => (∃ ds, sget s1 i = .own ds) ∧ mi s1 fun k s2 => ∃ ds j n, sget s2 i = .own ds ∧ k = .int j ∧ DL.ixN ds.length j = some n ∧ D.nx (sset s2 i (.own (ds.set n v)))
/-- list(e), a list that nobody else holds -/
def mrListOf (me : ME) : MR := fun sd Q => me sd fun d s1 => ∃ ds, items d = some ds ∧ Q (.own ds) s1
theorem RpA.set {K : PySem.W.Frag} {F : Hp} {v : V} {d : PyData} (q : Rp K F v d) : ∀ {vs : List V} {ds : List PyData} (n : Nat), RpA K F vs ds → RpA K F (vs.set n v) (ds.set n d)
  | _, _, _, .nil => .nil
  | _, _, 0, .cons _ r => .cons q r
  | _, _, n + 1, .cons h r => .cons h (RpA.set q n r)
/-- a; b, by what holds between them -/
theorem seq_run {a b : MS} {D : DE} {sd : DSt} (P : DSt → Prop) (h1 : ∀ N : DSt → Prop, (∀ s, P s → N s) → a { D with nx := N } sd) (h2 : ∀ s, P s → b D s) : mSeq a b D sd := h1 _ h2
/-- if t: a else b, where t is known to say c -/
theorem if_run {t : MT} {a b : MS} {D : DE} {sd : DSt} (c : Bool) (ht : ∀ Q : Bool → DSt → Prop, Q c sd → t sd Q) (ha : c = true → a D sd) (hb : c = false → b D sd) : mIf t a b D sd := ht _ (by
  cases c with
  | true => exact ha rfl
  | false => exact hb rfl)
/-- x = e, where e is known to be d -/
theorem asg_run {e : ME} {i : Nat} {D : DE} {sd : DSt} (d : PyData) (he : ∀ Q : PyData → DSt → Prop, Q d sd → e sd Q) (h : D.nx (sset sd i (.va d))) : mAsg e (mgName i) D sd := he _ h
theorem opIn_2 {x a b : Int} : opIn (.int x) (.tuple [.int a, .int b]) = some (.bool (decide (a = x) || decide (b = x))) := by
  simp [opIn, opInS, items, flatD, PyData.eqv]
  congr 1 <;> exact decide_eq_decide.mpr Iff.rfl
theorem opNotIn_2 {x a b : Int} : opNotIn (.int x) (.tuple [.int a, .int b]) = some (.bool (!(decide (a = x) || decide (b = x)))) := by
  simp [opNotIn, opInS, items, flatD, PyData.eqv]
  congr 1 <;> exact decide_eq_decide.mpr Iff.rfl
section
variable {K : PySem.W.Frag} {X : Cx} {C : Ct}
theorem pds_setIx {i : Nat} {tg e : Expr} {pos : Pos} {mi me : ME} (t : PS X (.Assign [tg] e pos) (tAsg (tD X.K C me) (gSub (tVar i) (tD X.K C mi) rSetL))) : PS X (.Assign [tg] e pos) (tDS X.K C (mSet i mi me)) := ps_imp t (by
  rintro D σ H ⟨F, sd, Dd, R, E, h⟩
  refine ⟨F, sd, _, R, h, fun v H1 F1 d sd1 R1 S1 rv hh => ?_⟩
  obtain ⟨⟨ds0, h0⟩, h2⟩ := hh
  have hi := R1.slot i
  rw [h0] at hi
  obtain ⟨q, vs, e1, e2, e3, e4, r⟩ := hi
  refine ⟨.ref q, gv_some.mp e1, F1, sd1, _, R1, h2, fun k H2 F2 kd sd2 R2 S2 rk h3 => ?_⟩
  obtain ⟨ds, j, n, g1, rfl, g2, hnx⟩ := h3
  cases rk
  have hi2 := R2.slot i
  rw [g1] at hi2
  obtain ⟨q', vs2, z1, z2, z3, z4, r2⟩ := hi2
  rw [e1] at z1; cases z1
  refine ⟨q, vs2, j, n, rfl, rfl, z2, by rw [r2.length]; exact g2, ?_⟩
  exact E.nx F2 _ σ _ (S1.fr.trans S2.fr) (R2.setOwn g1 e1 (RpA.set (rv.mono S2.fr) n r2)) hnx)
theorem pdr_listOf {e : Expr} {x : Str} {p pos : Pos} {me : ME} (hm : X.mg x = none) (hv : bootBuiltins x = some (.type "list"))
    (ha : PE X e (tD X.K C me)) (hg : Gl X x := by rfl) (hn : x ≠ "__name__" := by decide) (hdb : (x == ("__debug__" : Str)) = false := by decide)
    (he1 : starEach [e] X.env = (false, eval e X.env) :: starEach [] X.env := by rfl) (hpl : (backTo pos (starEach [] X.env)).any (·.1) = false := by rfl) : PE X (.Call (.Name x p) [e] [] pos) (tDR X.K C (mrListOf me)) :=
  pe_imp (pe_callTy call_list_of hg hm hv (pa_cons ha pa_nil he1) hn hdb he1 hpl) (by
  rintro σ H Q ⟨F, sd, Qd, R, h, k⟩
  refine ⟨F, sd, _, R, h, fun v H1 F1 d sd1 R1 S1 rv hh => ?_⟩
  obtain ⟨ds, hd, q⟩ := hh
  cases d with
  | list xs =>
    cases hd
    cases rv with
    | lst h1 r1 => exact ⟨_, _, rfl, .inl (.inl (.inl (R1.ext _ _ h1))), fun l hl => k (.ref l) _ F1 (.own _) sd1 (R1.allocH hl) (S1.trans ⟨Same.refl _, fun x o e _ => same_new hl x o e, fun _ z => z, fun _ _ z => .inl z, fun x e => by
        by_cases z : x = l
        · subst z; exact hl
        · rw [upd_ne z] at e; exact e⟩) ⟨l, _, rfl, upd_same, R1.free hl, R1.still l hl, r1⟩ (fun _ w ew ow => by
          cases ew
          obtain ⟨i, o1, o2⟩ := ow
          have hi := R1.slot i
          generalize hs : sget sd1 i = s at hi o1
          cases s with
          | own es => obtain ⟨p2, vs2, a1, a2, _⟩ := hi; rw [o2] at a1; cases a1; rw [hl] at a2; cases a2
          | ins c fs => obtain ⟨p2, _, _, _, a1, a2, _⟩ := hi; rw [o2] at a1; cases a1; rw [hl] at a2; cases a2
          | well m => obtain ⟨p2, _, _, _, a1, a2, _⟩ := hi; rw [o2] at a1; cases a1; rw [hl] at a2; cases a2
          | _ => cases o1) (fun _ w ew => by
          cases ew
          exact S1.st l hl) q⟩
  | tuple xs =>
    cases hd
    cases rv with
    | tup h1 r1 => exact ⟨_, _, rfl, .inr (same_t R1.ext h1), fun l hl => k (.ref l) _ F1 (.own _) sd1 (R1.allocH hl) (S1.trans ⟨Same.refl _, fun x o e _ => same_new hl x o e, fun _ z => z, fun _ _ z => .inl z, fun x e => by
        by_cases z : x = l
        · subst z; exact hl
        · rw [upd_ne z] at e; exact e⟩) ⟨l, _, rfl, upd_same, R1.free hl, R1.still l hl, r1⟩ (fun _ w ew ow => by
          cases ew
          obtain ⟨i, o1, o2⟩ := ow
          have hi := R1.slot i
          generalize hs : sget sd1 i = s at hi o1
          cases s with
          | own es => obtain ⟨p2, vs2, a1, a2, _⟩ := hi; rw [o2] at a1; cases a1; rw [hl] at a2; cases a2
          | ins c fs => obtain ⟨p2, _, _, _, a1, a2, _⟩ := hi; rw [o2] at a1; cases a1; rw [hl] at a2; cases a2
          | well m => obtain ⟨p2, _, _, _, a1, a2, _⟩ := hi; rw [o2] at a1; cases a1; rw [hl] at a2; cases a2
          | _ => cases o1) (fun _ w ew => by
          cases ew
          exact S1.st l hl) q⟩
  | _ => cases hd)
end
end DL
namespace DL
open PySem PySem.Spec PyProof.Rows L2
def bLcm : List PyData → Option PyData
  | [.int i, .int j] => if i.natAbs.log2 < 13000 ∧ j.natAbs.log2 < 13000 then some (.int ((Nat.lcm i.natAbs j.natAbs : Nat) : Int)) else none
  | _ => none
def ints? : List PyData → Option (List Int)
  | [] => some []
  | .int i :: r => (ints? r).map (i :: ·)
  | _ :: _ => none
def bSum : List PyData → Option PyData
  | [.list xs] => (ints? xs).map fun ns => .int ns.sum
  | [.tuple xs] => (ints? xs).map fun ns => .int ns.sum
  | _ => none
section
variable {K : PySem.W.Frag} {X : Cx} {C : Ct}
def rLcm : List V → Hp → VK → Prop := fun vs H Q => ∃ a b : Int, vs = [.int a, .int b] ∧ (a.natAbs.log2 < 13000 ∧ b.natAbs.log2 < 13000) ∧ Q (.int ((Nat.lcm a.natAbs b.natAbs : Nat) : Int)) H
theorem max_log {a b k : Nat} (ha : a.log2 < k) (hb : b.log2 < k) : (max a b).log2 < k := by
  rcases Nat.le_total a b with h | h
  · rw [Nat.max_eq_right h]; exact hb
  · rw [Nat.max_eq_left h]; exact ha
theorem cr_lcm : CallR X (.builtin "math.lcm") rLcm := by
  intro pins s σ H vs us Q I r h
  obtain ⟨a, b, rfl, ⟨l1, l2⟩, q⟩ := h
  obtain ⟨t, u, rfl⟩ := Vals.int2 r
  have h1 : (max 1 a.natAbs).log2 < 13000 := max_log (by decide) l1
  have h2 : (max a.natAbs b.natAbs).log2 < 13000 := max_log l1 l2
  have e : ((Nat.lcm 1 a.natAbs).lcm b.natAbs) = Nat.lcm a.natAbs b.natAbs := by rw [Nat.lcm_one_left]
  have hsz : ((((Nat.lcm 1 a.natAbs).lcm b.natAbs : Nat) : Int)).natAbs.log2 < bitsLine := by
    rw [e]
    have pa : a.natAbs < 2 ^ 13000 := by
      by_cases z : a.natAbs = 0
      · rw [z]; exact Nat.two_pow_pos _
      · exact (Nat.log2_lt z).mp l1
    have pb : b.natAbs < 2 ^ 13000 := by
      by_cases z : b.natAbs = 0
      · rw [z]; exact Nat.two_pow_pos _
      · exact (Nat.log2_lt z).mp l2
    by_cases z : (((Nat.lcm a.natAbs b.natAbs : Nat) : Int)).natAbs = 0
    · rw [z, Nat.log2_zero]; decide
    · refine (Nat.log2_lt z).mpr ?_
      rw [Int.natAbs_natCast]
      have le : Nat.lcm a.natAbs b.natAbs ≤ a.natAbs * b.natAbs := Nat.div_le_self _ _
      have lt : a.natAbs * b.natAbs < 2 ^ 13000 * 2 ^ 13000 := Nat.mul_lt_mul_of_lt_of_lt pa pb
      rw [← Nat.pow_add] at lt
      exact Nat.lt_of_lt_of_le (Nat.lt_of_le_of_lt le lt) (Nat.pow_le_pow_right (by decide) (by decide))
  refine call_function_meets PySem.W.MGF.kind_lcm PySem.W.MGF.plain_lcm PySem.W.MGF.entry_lcm (PySem.W.MGF.args_lcm _ _) (PySem.W.mg_run_lcm a t b u (by omega) (by omega) hsz).meets ?_
  rw [e]
  exact ⟨.int _, H, I.tok _, ⟨_, rfl⟩, q⟩
theorem rc_lcm : RLC K rLcm bLcm := by
  intro F H xs as z Q e _ rx h k
  unfold bLcm at h
  split at h
  · obtain ⟨x, y, rfl, r1, r2⟩ := rpA2 rx
    split at h
    · rename_i hl
      cases h
      cases r1; cases r2
      exact ⟨_, _, rfl, hl, k _ F H .id (.int _)⟩
    · cases h
  · cases h
theorem pd_lcm {x : Str} {p pos : Pos} {e : Expr} {es : List Expr} {ma : MA} (hm : X.mg x = some (.builtin "math.lcm")) (ha : PA X (e :: es) (tDA X.K C ma)) (hg : Gl X x := by rfl) (hdb : (x == ("__debug__" : Str)) = false := by decide)
    (he : starEach (e :: es) X.env = (false, eval e X.env) :: starEach es X.env := by rfl) (hpl : (backTo pos (starEach es X.env)).any (·.1) = false := by rfl) : PE X (.Call (.Name x p) (e :: es) [] pos) (tD X.K C (mCallB bLcm ma)) :=
  pe_imp (pe_callBfun cr_lcm hg hm ha hdb he hpl) (td_cb rc_lcm)
def rSum2 (K : PySem.W.Frag) : List V → Hp → VK → Prop := fun vs H Q => ∃ (a : Addr) (ns : List Int), vs = [V.ref a] ∧ (SqL K H a (ns.map V.int) ∨ SqT K H a (ns.map V.int)) ∧ Q (.int ns.sum) H
theorem cr_sum2 (hc : X.calm = true) : CallR X (.builtin "sum") (rSum2 X.K) := by
  intro pins s σ H vs us Q I r h
  obtain ⟨a, ns, rfl, hs, q⟩ := h
  rcases hs with hs | hs
  · exact cr_sum hc pins s σ H _ us Q I r ⟨a, ns, rfl, hs, q⟩
  · obtain ⟨its, rv, hl, _⟩ := I.tuple hs
    rw [Vals.ref1 r]
    have hi := rv.ints
    obtain ⟨xs, e⟩ := hi.allInts.items
    have hn : numsOf (intItems xs).toList = ns := by rw [← e]; exact hi.numsOf
    rw [nums_intItems] at hn
    rw [e] at hl
    refine PySem.W.ktm_sumG (I.ok.hd hc) hl fun h' tk t' hk => ?_
    rw [preSum_eq, List.take_of_length_le (by simp), hn]
    exact ⟨.int _, H, I.kept hk, ⟨_, rfl⟩, q⟩
theorem ints_rp {F : Hp} : ∀ {ds : List PyData} {vs : List V} {ns : List Int}, RpA K F vs ds → ints? ds = some ns → vs = ns.map V.int
  | [], _, _, .nil, h => by cases h; rfl
  | .int i :: r, _, _, .cons h1 h2, h => by
    unfold ints? at h
    obtain ⟨ms, e, rfl⟩ := Option.map_eq_some_iff.mp h
    cases h1
    rw [ints_rp h2 e]
    rfl
theorem rc_sum : RLC K (rSum2 K) bSum := by
  intro F H xs as z Q e _ rx h k
  unfold bSum at h
  split at h
  · obtain ⟨x, rfl, r⟩ := rpA1 rx
    obtain ⟨ns, en, rfl⟩ := Option.map_eq_some_iff.mp h
    cases r with
    | lst h1 r1 =>
      rw [ints_rp r1 en] at h1
      exact ⟨_, ns, rfl, .inl (.inl (.inl (e _ _ h1))), k _ F H .id (.int _)⟩
  · obtain ⟨x, rfl, r⟩ := rpA1 rx
    obtain ⟨ns, en, rfl⟩ := Option.map_eq_some_iff.mp h
    cases r with
    | tup h1 r1 =>
      rw [ints_rp r1 en] at h1
      exact ⟨_, ns, rfl, .inr (same_t e h1), k _ F H .id (.int _)⟩
  · cases h
end
end DL
namespace DL
open PySem PySem.Spec PyProof.Rows L2
section
variable {K : PySem.W.Frag} {X : Cx} {C : Ct}
theorem walk_rev {a : Addr} {xs : List V} : Walk (Itv K a xs.length) xs.length (fun H => SqL K H a xs) (YAt xs.reverse) := by
  refine ⟨fun i H hi q => ⟨hi, xs, xs[xs.length - 1 - i]'(by omega), q, by simp [show xs.length - 1 - i < xs.length by omega]⟩, fun H _ => Nat.le_refl _, fun i H x H' hi q y => ?_⟩
  obtain ⟨rfl, y⟩ := y
  refine ⟨rfl, ?_⟩
  rw [List.getElem?_reverse hi]
  exact y xs q
theorem walk_revT {a : Addr} {xs : List V} : Walk (RT.ItvT K a xs.length) xs.length (fun H => SqT K H a xs) (YAt xs.reverse) := by
  refine ⟨fun i H hi q => ⟨hi, xs, xs[xs.length - 1 - i]'(by omega), q, by simp [show xs.length - 1 - i < xs.length by omega]⟩, fun H _ => Nat.le_refl _, fun i H x H' hi q y => ?_⟩
  obtain ⟨rfl, y⟩ := y
  refine ⟨rfl, ?_⟩
  rw [List.getElem?_reverse hi]
  exact y xs q
theorem wk_revs {J : It} {F : Hp} {xs : List V} {ds : List PyData} {G : Hp → Prop} (hG : ∀ H, Same F H → G H) (w : Walk J xs.length G (YAt xs.reverse)) (r : RpA K F xs ds) : Wk K J F ds.reverse := by
  have l := r.length
  refine ⟨G, YAt xs.reverse, by rw [List.length_reverse, ← l]; exact w, hG, fun i H x H' F' hi e1 e2 y => ?_⟩
  obtain ⟨rfl, y⟩ := y
  rw [List.length_reverse] at hi
  rw [List.getElem?_reverse (by omega)] at y
  obtain ⟨d, hd, q⟩ := rpA_at r y
  refine ⟨F', d, .id, ?_, q.mono e1⟩
  rw [List.getElem?_reverse hi, ← l]
  exact hd
theorem pdi_rev {tg e : Expr} {p pos : Pos} {m : ME} (hm : X.mg "reversed" = none) (h : PE X e (tD X.K C m)) (hg : Gl X "reversed" := by rfl) (hs : starEach [e] X.env = (false, eval e X.env) :: starEach [] X.env := by rfl) :
    PI X tg (.Call (.Name "reversed" p) [e] [] pos) (tDI X.K C (miRev m)) := pi_imp (RT.pi_revA hg hm h hs) (by
  rintro σ H R0 ⟨F, sd, Qd, R, h, k⟩
  refine ⟨F, sd, _, R, h, fun x H1 F1 a sd1 R1 S1 rx h1 => ?_⟩
  obtain ⟨ds, hd, q⟩ := h1
  cases rx with
  | tup h2 r2 => cases hd; exact ⟨_, _, rfl, .inr ⟨same_t R1.ext h2, k _ H1 F1 _ sd1 R1 S1 (wk_revs (fun H e => same_t e h2) walk_revT r2) q⟩⟩
  | lst h2 r2 => cases hd; exact ⟨_, _, rfl, .inl ⟨.inl (.inl (R1.ext _ _ h2)), k _ H1 F1 _ sd1 R1 S1 (wk_revs (fun H e => .inl (.inl (e _ _ h2))) walk_rev r2) q⟩⟩
  | _ => cases hd)
end
end DL
namespace DL
open PySem PySem.Spec PyProof.Rows L2
/-- the least, or None -/
def bMinD : List PyData → List PyData → Option PyData
  | [.list xs], [.none] => match ints? xs with
    | some [] => some .none
    | some (n :: ns) => some (.int (ns.foldl min n))
    | none => none
  | _, _ => none
def mCallBK (f : List PyData → List PyData → Option PyData) (ma mk : MA) : ME := fun sd Q => ma sd fun ds s1 => mk s1 fun es s2 => ∃ r, f ds es = some r ∧ Q r s2
section
variable {K : PySem.W.Frag} {X : Cx} {C : Ct}
theorem alike_ints (ns : List Int) : PySem.W.AlikeAll (ns.map .int) := by
  have h := PySem.W.alikeAll_datum (α := Int) ns
  exact h
theorem depth_ints : ∀ ns : List Int, PyData.depthAll (ns.map .int) ≤ 1
  | [] => by decide
  | n :: ns => by
    have := depth_ints ns
    simp only [List.map_cons, PyData.depthAll, PyData.depth]
    omega
def rMinD (K : PySem.W.Frag) : List V → List V → Hp → VK → Prop := fun vs zs H Q => ∃ (a : Addr) (ns : List Int), vs = [V.ref a] ∧ zs = [V.non] ∧ SqL K H a (ns.map V.int) ∧ match ns with
  | [] => Q .non H
  | n :: r => Q (.int (r.foldl min n)) H
theorem cr_minD (hc : X.calm = true) (hu : X.A.units + 64 < cLine) : CallRK X (.builtin "min") [Str.ofString "default"] (rMinD X.K) := by
  intro pins s σ H vs zs us ws Q I r rz h
  obtain ⟨a, ns, rfl, rfl, hs, q⟩ := h
  obtain ⟨its, rv, hl, _⟩ := I.list hs
  rw [Vals.ref1 r]
  obtain ⟨w1, rfl, e1⟩ := vals1 rz
  obtain rfl : w1 = Value.none := e1
  have hi := rv.ints
  have hd := depth_ints ns
  refine PySem.W.min_list_default (I.ok.hd hc) hl.isList (IntsAre.reads s.heap hi) (alike_ints ns) (by omega) (fun e h' tk hk => ?_) fun y ys i v h' tk bs e hv hr hk => ?_
  · cases ns with
    | nil => exact ⟨.non, H, I.kept hk, rfl, q⟩
    | cons n r => cases e
  · cases ns with
    | nil => cases e
    | cons n r =>
      rw [List.map_cons] at e
      injection e with e1 e2
      subst e1 e2
      rw [PySem.W.minD_ints] at hr
      cases hr
      exact ⟨.int _, H, I.kept hk, ⟨_, rfl⟩, q⟩
theorem td_cbK {r : List V → List V → Hp → VK → Prop} {f : List PyData → List PyData → Option PyData} {ma mk : MA} (L : ∀ (F H : Hp) (xs zs : List V) (as bs : List PyData) (z : PyData) (Q : VK), Same F H → RpA K F xs as → RpA K F zs bs → f as bs = some z → (∀ v, Rp K F v z → Q v H) → r xs zs H Q) : ∀ σ H Q, tD K C (mCallBK f ma mk) σ H Q → tCKw r (tDA K C ma) (tDA K C mk) σ H Q := by
  rintro σ H Q ⟨F, sd, Qd, R, h, k⟩
  refine ⟨F, sd, _, R, h, fun xs H1 F1 as sd1 R1 S1 rx h1 => ?_⟩
  refine ⟨F1, sd1, _, R1, h1, fun zs H2 F2 bs sd2 R2 S2 rz h2 => ?_⟩
  obtain ⟨z, e, q⟩ := h2
  exact L F2 H2 xs zs as bs z Q R2.ext (RpA.mono S2.fr rx) rz e fun v rv => k v H2 F2 z sd2 R2 (S1.trans S2) rv q
theorem rc_minD : ∀ (F H : Hp) (xs zs : List V) (as bs : List PyData) (z : PyData) (Q : VK), Same F H → RpA K F xs as → RpA K F zs bs → bMinD as bs = some z → (∀ v, Rp K F v z → Q v H) → rMinD K xs zs H Q := by
  intro F H xs zs as bs z Q e rx rz h k
  unfold bMinD at h
  split at h
  · obtain ⟨x, rfl, r⟩ := rpA1 rx
    obtain ⟨y, rfl, r'⟩ := rpA1 rz
    cases r'
    cases r with
    | lst h1 r1 =>
      split at h
      · rename_i hn
        cases h
        rw [ints_rp r1 hn] at h1
        exact ⟨_, [], rfl, rfl, .inl (.inl (e _ _ h1)), k _ .non⟩
      · rename_i n ns hn
        cases h
        rw [ints_rp r1 hn] at h1
        exact ⟨_, n :: ns, rfl, rfl, .inl (.inl (e _ _ h1)), k _ (.int _)⟩
      · cases h
  · cases h
theorem pd_minD {p pos : Pos} {e : Expr} {kws : List Keyword} {ma mk : MA} (hc : X.calm = true) (hu : X.A.units + 64 < cLine) (hm : X.mg "min" = none) (ha : PA X [e] (tDA X.K C ma)) (hk : PK X kws (tDA X.K C mk)) (hg : Gl X "min" := by rfl)
    (he : backTo pos (starEach [e] X.env) = (false, eval e X.env) :: backTo pos (starEach [] X.env) := by rfl) (hpl : (backTo pos (starEach [e] X.env)).any (·.1) = false := by rfl)
    (hall : (backToKw pos (keywordEach kws X.env)).all (·.1.isSome) = true := by rfl) (hnone : (backToKw pos (keywordEach kws X.env)).any (·.1.isNone) = false := by rfl) (hks : (backToKw pos (keywordEach kws X.env)).filterMap (·.1) = [Str.ofString "default"] := by rfl) :
    PE X (.Call (.Name "min" p) [e] kws pos) (tD X.K C (mCallBK bMinD ma mk)) :=
  pe_imp (pe_callBK (cr_minD hc hu) hg hm PyProof.Rows.boot_min ha hk (by decide) (by decide) he hpl hall hnone hks) (td_cbK rc_minD)
end
end DL
namespace DL
/-- at k a whole number lies from (g k + b) / c to (G k + B) / C -/
def Btw (g b c G B C k : Int) : Prop := 0 ≤ k ∧ ∃ j, g * k + b ≤ c * j ∧ C * j ≤ G * k + B
def Least (P : Int → Prop) : Option Int → Prop
  | some k => P k ∧ ∀ k', P k' → k ≤ k'
  | none => ∀ k, ¬ P k
theorem least_unique {P : Int → Prop} : ∀ {o o' : Option Int}, Least P o → Least P o' → o = o'
  | none, none, _, _ => rfl
  | some k, none, h, h' => absurd h.1 (h' k)
  | none, some k, h, h' => absurd h'.1 (h k)
  | some k, some k', h, h' => by
    have := h.2 _ h'.1
    have := h'.2 _ h.1
    rw [show k = k' by omega]
theorem least_iff {P P' : Int → Prop} (h : ∀ k, P k ↔ P' k) {o : Option Int} : Least P o → Least P' o := by
  cases o with
  | none => exact fun z k hk => z k ((h k).mpr hk)
  | some k => exact fun z => ⟨(h k).mp z.1, fun k' hk => z.2 k' ((h k').mpr hk)⟩
theorem pos_fac {c x : Int} (hc : 0 < c) (h : 0 < c * x) : 0 < x := by
  refine Classical.byContradiction fun z => ?_
  have := Int.mul_le_mul_of_nonneg_left (show x ≤ 0 by omega) (show 0 ≤ c by omega)
  omega
theorem ceil_spec {b c : Int} (h : 1 ≤ c) : b ≤ c * -(-b / c) ∧ c * -(-b / c) < b + c := by
  have e := Int.emod_add_mul_ediv (-b) c
  have e1 := Int.emod_nonneg (-b) (show c ≠ 0 by omega)
  have e2 := Int.emod_lt_of_pos (-b) (show 0 < c by omega)
  rw [Int.mul_neg]
  omega
theorem ceil_le {b c j : Int} (h : 1 ≤ c) : -(-b / c) ≤ j ↔ b ≤ c * j := by
  obtain ⟨h1, h2⟩ := ceil_spec (b := b) h
  constructor
  · intro z
    have := Int.mul_le_mul_of_nonneg_left z (show 0 ≤ c by omega)
    omega
  · intro z
    refine Classical.byContradiction fun w => ?_
    have := Int.mul_le_mul_of_nonneg_left (show j + 1 ≤ -(-b / c) by omega) (show 0 ≤ c by omega)
    rw [Int.mul_add] at this
    omega
section
variable {g b c G B C : Int}
/-- what the lines keep: no steeper below than above, and if less steep, below at 0 -/
structure Inv (g b c G B C : Int) : Prop where
  c1 : 1 ≤ c
  C1 : 1 ≤ C
  sl : g * C ≤ G * c
  st : g * C < G * c → b * C ≤ B * c
theorem btw_none (I : Inv g b c G B C) (h : ¬ b * C ≤ B * c) : Least (Btw g b c G B C) none := by
  rintro k ⟨k0, j, h1, h2⟩
  have e : g * C = G * c := by
    have := I.sl
    have := I.st
    by_cases z : g * C < G * c
    · exact absurd (I.st z) h
    · omega
  have m1 := Int.mul_le_mul_of_nonneg_right h1 (show 0 ≤ C by have := I.C1; omega)
  have m2 := Int.mul_le_mul_of_nonneg_right h2 (show 0 ≤ c by have := I.c1; omega)
  rw [Int.add_mul] at m1 m2
  have e1 : g * k * C = k * (g * C) := by simp only [Int.mul_assoc, Int.mul_comm, Int.mul_left_comm]
  have e2 : G * k * c = k * (G * c) := by simp only [Int.mul_assoc, Int.mul_comm, Int.mul_left_comm]
  have e3 : c * j * C = C * j * c := by simp only [Int.mul_assoc, Int.mul_comm, Int.mul_left_comm]
  rw [e] at e1
  omega
theorem btw_zero (I : Inv g b c G B C) (h : C * -(-b / c) ≤ B) : Least (Btw g b c G B C) (some 0) := by
  refine ⟨⟨Int.le_refl 0, -(-b / c), ?_, ?_⟩, fun k' z => z.1⟩
  · have := (ceil_spec (b := b) I.c1).1
    omega
  · omega
/-- moved by l whole numbers -/
theorem btw_move (l k : Int) : Btw g (b - l * c) c G (B - l * C) C k ↔ Btw g b c G B C k := by
  have e1 : ∀ j, c * (j + l) = c * j + l * c := fun j => by rw [Int.mul_add, Int.mul_comm l c]
  have e2 : ∀ j, C * (j + l) = C * j + l * C := fun j => by rw [Int.mul_add, Int.mul_comm l C]
  constructor
  · rintro ⟨k0, j, h1, h2⟩
    refine ⟨k0, j + l, ?_, ?_⟩
    · rw [e1]; omega
    · rw [e2]; omega
  · rintro ⟨k0, j, h1, h2⟩
    have a1 := e1 (j - l)
    have a2 := e2 (j - l)
    rw [show j - l + l = j by omega] at a1 a2
    exact ⟨k0, j - l, by omega, by omega⟩
/-- both slopes less by r -/
theorem btw_tilt (r k : Int) : Btw (g - r * c) b c (G - r * C) B C k ↔ Btw g b c G B C k := by
  have e1 : ∀ j, c * (j + r * k) = c * j + r * c * k := fun j => by rw [Int.mul_add]; simp only [Int.mul_assoc, Int.mul_comm, Int.mul_left_comm]
  have e2 : ∀ j, C * (j + r * k) = C * j + r * C * k := fun j => by rw [Int.mul_add]; simp only [Int.mul_assoc, Int.mul_comm, Int.mul_left_comm]
  unfold Btw
  rw [Int.sub_mul, Int.sub_mul]
  constructor
  · rintro ⟨k0, j, h1, h2⟩
    refine ⟨k0, j + r * k, ?_, ?_⟩
    · rw [e1]; omega
    · rw [e2]; omega
  · rintro ⟨k0, j, h1, h2⟩
    have a1 := e1 (j - r * k)
    have a2 := e2 (j - r * k)
    rw [show j - r * k + r * k = j by omega] at a1 a2
    exact ⟨k0, j - r * k, by omega, by omega⟩
/-- what _first_out finds: the line below falls to -1, or the line above rises to 0 -/
def outs (g b c G B : Int) : List Int := (if g < 0 then [-(-(b + c) / -g)] else []) ++ (if G > 0 then [-(B / G)] else [])
def minO : List Int → Option Int
  | [] => none
  | a :: l => match minO l with
    | none => some a
    | some m => some (if m < a then m else a)
theorem btw_out (c1 : 1 ≤ c) (C1 : 1 ≤ C) (b0 : b ≤ 0) (b1 : -c < b) (B0 : B < 0) (st : b * C ≤ B * c) (g0 : g ≤ 0) (G0 : 0 ≤ G) : Least (Btw g b c G B C) (minO (outs g b c G B)) := by
  have BC : -C < B := by
    refine Classical.byContradiction fun z => ?_
    have m1 := Int.mul_le_mul_of_nonneg_right (show B ≤ -C by omega) (show 0 ≤ c by omega)
    have m2 := Int.mul_le_mul_of_nonneg_right (show -c + 1 ≤ b by omega) (show 0 ≤ C by omega)
    rw [Int.add_mul, Int.neg_mul, Int.one_mul] at m2
    rw [Int.neg_mul, Int.mul_comm C c] at m1
    omega
  have low : ∀ k, Btw g b c G B C k → (g < 0 ∧ -(-(b + c) / -g) ≤ k) ∨ (G > 0 ∧ -(B / G) ≤ k) := by
    rintro k ⟨k0, j, h1, h2⟩
    by_cases z : j ≤ -1
    · left
      have m := Int.mul_le_mul_of_nonneg_left z (show 0 ≤ c by omega)
      have hg : g < 0 := by
        by_cases w : g = 0
        · rw [w, Int.zero_mul] at h1
          omega
        · omega
      refine ⟨hg, (ceil_le (by omega)).mpr ?_⟩
      rw [Int.neg_mul]
      omega
    · right
      have m := Int.mul_nonneg (show 0 ≤ C by omega) (show 0 ≤ j by omega)
      have hG : G > 0 := by
        by_cases w : G = 0
        · rw [w, Int.zero_mul] at h2
          omega
        · omega
      refine ⟨hG, ?_⟩
      have := (ceil_le (b := -B) (j := k) (show 1 ≤ G by omega)).mpr (by omega)
      rw [Int.neg_neg] at this
      exact this
  have up1 : g < 0 → Btw g b c G B C (-(-(b + c) / -g)) := by
    intro hg
    obtain ⟨h1, h2⟩ := ceil_spec (b := b + c) (c := -g) (by omega)
    generalize -(-(b + c) / -g) = k at *
    have k0 : 0 ≤ k := by
      refine Classical.byContradiction fun z => ?_
      have := Int.mul_le_mul_of_nonneg_left (show k ≤ 0 by omega) (show 0 ≤ -g by omega)
      omega
    refine ⟨k0, -1, ?_, ?_⟩
    · rw [Int.neg_mul] at h1
      omega
    · have := Int.mul_nonneg G0 k0
      omega
  have up2 : G > 0 → Btw g b c G B C (-(B / G)) := by
    intro hG
    obtain ⟨h1, h2⟩ := ceil_spec (b := -B) (c := G) (by omega)
    rw [Int.neg_neg] at h1 h2
    generalize -(B / G) = k at *
    have k0 : 0 ≤ k := by
      refine Classical.byContradiction fun z => ?_
      have := Int.mul_le_mul_of_nonneg_left (show k ≤ 0 by omega) (show 0 ≤ G by omega)
      omega
    refine ⟨k0, 0, ?_, ?_⟩
    · have := Int.mul_le_mul_of_nonneg_right g0 k0
      omega
    · omega
  unfold outs
  by_cases hg : g < 0
  · by_cases hG : G > 0
    · rw [if_pos hg, if_pos hG]
      show Least _ (some (if -(B / G) < -(-(b + c) / -g) then -(B / G) else -(-(b + c) / -g)))
      split
      · rename_i h
        refine ⟨up2 hG, fun k' z => ?_⟩
        rcases low k' z with ⟨-, l⟩ | ⟨-, l⟩ <;> omega
      · rename_i h
        refine ⟨up1 hg, fun k' z => ?_⟩
        rcases low k' z with ⟨-, l⟩ | ⟨-, l⟩ <;> omega
    · rw [if_pos hg, if_neg hG]
      refine ⟨up1 hg, fun k' z => ?_⟩
      rcases low k' z with ⟨-, l⟩ | ⟨h, -⟩
      · exact l
      · exact absurd h hG
  · by_cases hG : G > 0
    · rw [if_neg hg, if_pos hG]
      refine ⟨up2 hG, fun k' z => ?_⟩
      rcases low k' z with ⟨h, -⟩ | ⟨-, l⟩
      · exact absurd h hg
      · exact l
    · rw [if_neg hg, if_neg hG]
      intro k z
      rcases low k z with ⟨h, -⟩ | ⟨h, -⟩
      · exact hg h
      · exact hG h
/-- lines and whole numbers exchanged -/
theorem btw_turn (b1 : -c < b) (B0 : B < 0) (c1 : 1 ≤ c) (C1 : 1 ≤ C) (g0 : 0 < g) (G0 : 0 < G) {o : Option Int} (h : Least (Btw C (-B) G c (-b) g) o) : Least (Btw g b c G B C) (o.map fun j => -(-(C * j + -B) / G)) := by
  have to : ∀ k j, 0 ≤ k → g * k + b ≤ c * j → C * j ≤ G * k + B → Btw C (-B) G c (-b) g j := by
    intro k j k0 h1 h2
    refine ⟨?_, k, by omega, by omega⟩
    refine Classical.byContradiction fun z => ?_
    have m1 := Int.mul_nonneg (show 0 ≤ g by omega) k0
    have m2 := Int.mul_le_mul_of_nonneg_left (show j ≤ -1 by omega) (show 0 ≤ c by omega)
    omega
  cases o with
  | none =>
    rintro k ⟨k0, j, h1, h2⟩
    exact h j (to k j k0 h1 h2)
  | some j =>
    obtain ⟨⟨j0, k0, h1, h2⟩, h3⟩ := h
    show Least _ (some (-(-(C * j + -B) / G)))
    have l := (ceil_le (b := C * j + -B) (c := G) (j := k0) (by omega)).mpr h1
    obtain ⟨s1, s2⟩ := ceil_spec (b := C * j + -B) (c := G) (by omega)
    have least : ∀ k', Btw g b c G B C k' → -(-(C * j + -B) / G) ≤ k' := by
      rintro k' ⟨k0', j', h1', h2'⟩
      have jj := h3 j' (to k' j' k0' h1' h2')
      refine (ceil_le (by omega)).mpr ?_
      have := Int.mul_le_mul_of_nonneg_left jj (show 0 ≤ C by omega)
      omega
    refine ⟨?_, least⟩
    generalize -(-(C * j + -B) / G) = k at *
    have mj := Int.mul_nonneg (show 0 ≤ C by omega) j0
    refine ⟨?_, j, ?_, by omega⟩
    · refine Classical.byContradiction fun z => ?_
      have := Int.mul_le_mul_of_nonneg_left (show k ≤ 0 by omega) (show 0 ≤ G by omega)
      omega
    · have := Int.mul_le_mul_of_nonneg_left l (show 0 ≤ g by omega)
      omega
/-- the lines behind the move: from -1 to 0 at 0 -/
theorem move_facts (I : Inv g b c G B C) (h0 : b * C ≤ B * c) (h : ¬ C * -(-b / c) ≤ B) {l : Int} (hl : l = -(-b / c)) : -c < b - l * c ∧ b - l * c < 0 ∧ B - l * C < 0 ∧ (b - l * c) * C ≤ (B - l * C) * c := by
  obtain ⟨h1, h2⟩ := ceil_spec (b := b) I.c1
  rw [← hl] at h h1 h2
  have c1 := I.c1
  have C1 := I.C1
  have e1 : l * c = c * l := Int.mul_comm _ _
  have e2 : l * C = C * l := Int.mul_comm _ _
  have st : (b - l * c) * C ≤ (B - l * C) * c := by
    rw [Int.sub_mul, Int.sub_mul]
    have : l * c * C = l * C * c := by simp only [Int.mul_assoc, Int.mul_comm, Int.mul_left_comm]
    omega
  refine ⟨by omega, ?_, by omega, st⟩
  refine Classical.byContradiction fun z => ?_
  have m1 := Int.mul_nonneg (show 0 ≤ b - l * c by omega) (show 0 ≤ C by omega)
  have m2 := Int.mul_lt_mul_of_pos_right (show B - l * C < 0 by omega) (show 0 < c by omega)
  omega
/-- the next pair of lines -/
theorem turn_facts (c1 : 1 ≤ c) (C1 : 1 ≤ C) (sl : g * C ≤ G * c) (b0 : b < 0) (st : b * C ≤ B * c) (h : ¬ C * -(-g / c) ≤ G) {q : Int} (hq : q = g / c) : 0 < g % c ∧ g % c < c ∧ 0 < G - q * C ∧ G - q * C < C ∧ g % c = g - q * c ∧ Inv C (-B) (G - q * C) c (-b) (g % c) := by
  obtain ⟨h1, h2⟩ := ceil_spec (b := g) c1
  have e := Int.emod_add_mul_ediv g c
  have e1 := Int.emod_nonneg g (show c ≠ 0 by omega)
  have e2 := Int.emod_lt_of_pos g (show 0 < c by omega)
  rw [← hq] at e
  have em : g % c = g - q * c := by rw [Int.mul_comm q c]; omega
  have sl' : g % c * C ≤ (G - q * C) * c := by
    rw [em, Int.sub_mul, Int.sub_mul]
    have : q * c * C = q * C * c := by simp only [Int.mul_assoc, Int.mul_comm, Int.mul_left_comm]
    omega
  generalize hr : -(-g / c) = r at *
  have g0 : 0 < g % c := by
    refine Classical.byContradiction fun z => ?_
    have z0 : g % c = 0 := by omega
    have rq : r = q := by
      have a1 : c * q ≤ c * r := by omega
      have a2 : c * r < c * (q + 1) := by rw [Int.mul_add]; omega
      have b1 := Int.le_of_mul_le_mul_left a1 (by omega)
      have b2 := Int.lt_of_mul_lt_mul_left a2 (by omega)
      omega
    rw [z0, Int.zero_mul] at sl'
    rw [rq, Int.mul_comm] at h
    have := Int.mul_lt_mul_of_pos_right (show G - q * C < 0 by omega) (show 0 < c by omega)
    omega
  have rq : r = q + 1 := by
    have a1 : c * q < c * r := by omega
    have a2 : c * r < c * (q + 2) := by rw [Int.mul_add]; omega
    have b1 := Int.lt_of_mul_lt_mul_left a1 (by omega)
    have b2 := Int.lt_of_mul_lt_mul_left a2 (by omega)
    omega
  have G0 : 0 < G - q * C := by
    refine pos_fac (c := c) (by omega) ?_
    rw [Int.mul_comm]
    have := Int.mul_pos g0 (show 0 < C by omega)
    omega
  have GC : G - q * C < C := by
    rw [rq, Int.mul_add, Int.mul_comm C q] at h
    omega
  refine ⟨g0, e2, G0, GC, em, ⟨by omega, by omega, ?_, fun _ => ?_⟩⟩
  · rw [Int.mul_comm C, Int.mul_comm c]
    exact sl'
  · generalize g % c = g' at *
    generalize G - q * C = G' at *
    refine Int.le_of_mul_le_mul_left (a := c) ?_ (by omega)
    have m1 := Int.mul_le_mul_of_nonneg_right st (show 0 ≤ g' by omega)
    have m2 := Int.mul_le_mul_of_nonneg_left sl' (show 0 ≤ -b by omega)
    have q1 : c * (-B * g') = -(B * c * g') := by rw [Int.neg_mul, Int.mul_neg]; congr 1; simp only [Int.mul_assoc, Int.mul_comm, Int.mul_left_comm]
    have q2 : c * (-b * G') = -b * (G' * c) := by simp only [Int.mul_assoc, Int.mul_comm, Int.mul_left_comm]
    have q3 : -b * (g' * C) = -(b * C * g') := by rw [Int.neg_mul]; congr 1; simp only [Int.mul_assoc, Int.mul_comm, Int.mul_left_comm]
    omega
theorem out_bound (c1 : 1 ≤ c) (C1 : 1 ≤ C) (b0 : b < 0) (b1 : -c < b) (B0 : B < 0) (B1 : -C < B) {k : Int} (h : minO (outs g b c G B) = some k) : k ≤ 2 * (c * C) := by
  have cC : c ≤ c * C := by have := Int.mul_le_mul_of_nonneg_left C1 (show 0 ≤ c by omega); omega
  have Cc : C ≤ c * C := by have := Int.mul_le_mul_of_nonneg_right c1 (show 0 ≤ C by omega); omega
  have k1 : g < 0 → -(-(b + c) / -g) ≤ c := fun hg => (ceil_le (by omega)).mpr (by
    have := Int.mul_le_mul_of_nonneg_right (show 1 ≤ -g by omega) (show 0 ≤ c by omega)
    omega)
  have k2 : G > 0 → -(B / G) ≤ C := fun hG => by
    have := (ceil_le (b := -B) (j := C) (show 1 ≤ G by omega)).mpr (by
      have := Int.mul_le_mul_of_nonneg_right (show 1 ≤ G by omega) (show 0 ≤ C by omega)
      omega)
    rw [Int.neg_neg] at this
    exact this
  unfold outs at h
  by_cases hg : g < 0
  · by_cases hG : G > 0
    · rw [if_pos hg, if_pos hG] at h
      have h : some (if -(B / G) < -(-(b + c) / -g) then -(B / G) else -(-(b + c) / -g)) = some k := h
      have h := Option.some.inj h
      have := k1 hg
      have := k2 hG
      split at h <;> omega
    · rw [if_pos hg, if_neg hG] at h
      have h := Option.some.inj h
      have := k1 hg
      omega
  · by_cases hG : G > 0
    · rw [if_neg hg, if_pos hG] at h
      have h := Option.some.inj h
      have := k2 hG
      omega
    · rw [if_neg hg, if_neg hG] at h
      cases h
theorem turn_bound (c1 : 1 ≤ c) (C1 : 1 ≤ C) (gc : g < c) (g0 : 0 < g) (G0 : 0 < G) (B1 : -C < B) {j : Int} (h : j ≤ 2 * (G * g)) : -(-(C * j + -B) / G) ≤ 2 * (c * C) := by
  refine (ceil_le (by omega)).mpr ?_
  have m1 := Int.mul_le_mul_of_nonneg_left h (show 0 ≤ C by omega)
  have e1 : C * (2 * (G * g)) = G * (2 * (g * C)) := by simp only [Int.mul_assoc, Int.mul_comm, Int.mul_left_comm]
  have m2 : g * C + C ≤ c * C := by
    have := Int.mul_le_mul_of_nonneg_right (show g + 1 ≤ c by omega) (show 0 ≤ C by omega)
    rw [Int.add_mul] at this
    omega
  have m3 := Int.mul_le_mul_of_nonneg_left (show 2 * (g * C) + C ≤ 2 * (c * C) by omega) (show 0 ≤ G by omega)
  rw [Int.mul_add] at m3
  have m4 := Int.mul_le_mul_of_nonneg_right (show 1 ≤ G by omega) (show 0 ≤ C by omega)
  omega
/-- two lines -/
structure Two where
  g : Int
  b : Int
  c : Int
  G : Int
  B : Int
  C : Int
def Two.I (p : Two) : Prop := Inv p.g p.b p.c p.G p.B p.C
def Two.Ans (p : Two) (o : Option Int) : Prop := Least (Btw p.g p.b p.c p.G p.B p.C) o ∧ ∀ k, o = some k → k ≤ 2 * (p.c * p.C)
def Two.l (p : Two) : Int := -(-p.b / p.c)
/-- moved -/
def Two.mv (p : Two) : Two := ⟨p.g, p.b - p.l * p.c, p.c, p.G, p.B - p.l * p.C, p.C⟩
def Two.turn (p : Two) : Two := ⟨p.C, -(p.B - p.l * p.C), p.G - p.g / p.c * p.C, p.c, -(p.b - p.l * p.c), p.g % p.c⟩
def Two.back (p : Two) (j : Int) : Int := -(-(p.C * j + -(p.B - p.l * p.C)) / (p.G - p.g / p.c * p.C))
theorem Two.none (p : Two) (I : p.I) (h : ¬ p.b * p.C ≤ p.B * p.c) : p.Ans .none := ⟨btw_none I h, fun _ e => by cases e⟩
theorem Two.zero (p : Two) (I : p.I) (h : p.C * p.l ≤ p.B) : p.Ans (some 0) := ⟨btw_zero I h, fun k e => by
  cases e
  have := Int.mul_pos (show 0 < p.c by have := I.c1; omega) (show 0 < p.C by have := I.C1; omega)
  omega⟩
theorem Two.low (p : Two) (I : p.I) (h0 : p.b * p.C ≤ p.B * p.c) (h : ¬ p.C * p.l ≤ p.B) : -p.C < p.B - p.l * p.C := by
  obtain ⟨a1, a2, a3, a4⟩ := move_facts I h0 h rfl
  have c1 := I.c1
  have C1 := I.C1
  refine Classical.byContradiction fun z => ?_
  have m1 := Int.mul_le_mul_of_nonneg_right (show p.B - p.l * p.C ≤ -p.C from by omega) (show 0 ≤ p.c by omega)
  have m2 := Int.mul_lt_mul_of_pos_right a1 (show 0 < p.C by omega)
  have a4 : (p.b - p.l * p.c) * p.C ≤ (p.B - p.l * p.C) * p.c := a4
  rw [Int.neg_mul] at m1 m2
  have : p.C * p.c = p.c * p.C := Int.mul_comm _ _
  have m2 : -(p.c * p.C) < (p.b - p.l * p.c) * p.C := m2
  omega
theorem Two.out (p : Two) (I : p.I) (h0 : p.b * p.C ≤ p.B * p.c) (h : ¬ p.C * p.l ≤ p.B) (hr : p.C * -(-p.g / p.c) ≤ p.G) : p.Ans (minO (outs (p.g - -(-p.g / p.c) * p.c) (p.b - p.l * p.c) p.c (p.G - -(-p.g / p.c) * p.C) (p.B - p.l * p.C))) := by
  obtain ⟨a1, a2, a3, a4⟩ := move_facts I h0 h rfl
  obtain ⟨r1, r2⟩ := ceil_spec (b := p.g) I.c1
  have B1 := p.low I h0 h
  have e1 : -(-p.g / p.c) * p.c = p.c * -(-p.g / p.c) := Int.mul_comm _ _
  have e2 : -(-p.g / p.c) * p.C = p.C * -(-p.g / p.c) := Int.mul_comm _ _
  have L := btw_out (g := p.g - -(-p.g / p.c) * p.c) (G := p.G - -(-p.g / p.c) * p.C) I.c1 I.C1 (Int.le_of_lt a2) a1 a3 a4 (by omega) (by omega)
  exact ⟨least_iff (fun k => (btw_tilt _ k).trans (btw_move _ k)) L, fun k e => out_bound I.c1 I.C1 a2 a1 a3 B1 e⟩
/-- what a turn of the loop leaves -/
theorem Two.turns (p : Two) (I : p.I) (h0 : p.b * p.C ≤ p.B * p.c) (h : ¬ p.C * p.l ≤ p.B) (hr : ¬ p.C * -(-p.g / p.c) ≤ p.G) : p.turn.I ∧ 0 < p.turn.c ∧ p.turn.c < p.C ∧ 0 < p.turn.C ∧ p.turn.C < p.c ∧ (0 < p.turn.b ∧ p.turn.b < p.C) ∧ (0 < p.turn.B ∧ p.turn.B < p.c) ∧ ∀ o, p.turn.Ans o → p.Ans (o.map p.back) := by
  obtain ⟨a1, a2, a3, a4⟩ := move_facts I h0 h rfl
  have B1 := p.low I h0 h
  obtain ⟨t1, t2, t3, t4, t5, t6⟩ := turn_facts I.c1 I.C1 I.sl a2 a4 hr rfl
  have a1 : -p.c < p.b - p.l * p.c := a1
  have a2 : p.b - p.l * p.c < 0 := a2
  have a3 : p.B - p.l * p.C < 0 := a3
  refine ⟨t6, t3, t4, t1, t2, ⟨?_, ?_⟩, ⟨?_, ?_⟩, ?_⟩
  · show 0 < -(p.B - p.l * p.C); omega
  · show -(p.B - p.l * p.C) < p.C; omega
  · show 0 < -(p.b - p.l * p.c); omega
  · show -(p.b - p.l * p.c) < p.c; omega
  · rintro o ⟨A, bd⟩
    have L := btw_turn (g := p.g % p.c) (G := p.G - p.g / p.c * p.C) a1 a3 I.c1 I.C1 t1 t3 A
    rw [t5] at L
    refine ⟨least_iff (fun k => (btw_tilt _ k).trans (btw_move _ k)) L, fun k e => ?_⟩
    cases o with
    | none => cases e
    | some j =>
      cases e
      exact turn_bound I.c1 I.C1 t2 t1 t3 B1 (bd j rfl)
/-- the problems that the turns go through, the last one first, each with the line that was kept -/
inductive Chain (p0 : Two) : List Two → Two → Prop
  | nil : Chain p0 [] p0
  | cons {ps p} : Chain p0 ps p → (∀ o, p.turn.Ans o → p.Ans (o.map p.back)) → Chain p0 (p :: ps) p.turn
end
end DL
namespace DL
open PySem
theorem seq_step {a b : MS} {D : DE} {sd : DSt} (h : ∀ N : DSt → Prop, N = b D → a { D with nx := N } sd) : mSeq a b D sd := h _ rfl
end DL
namespace DL
open PySem PySem.Spec PyProof.Rows L2
/-- the value is these data, as it stands in the module -/
def cstOk (K : PySem.W.Frag) : Nat → Value → PyData → Bool
  | _ + 1, .none, .none => true
  | _ + 1, .bool b, .bool c => b == c
  | _ + 1, .int i _, .int j => i == j
  | _ + 1, .str x _, .str y => x == y
  | n + 1, .ref a, .tuple ds => match K.lookup a with
    | some o => (o.cls == .type "tuple" && o.dict.isNone) && (match o.data with
      | .seq its _ => its.size ≤ 100000 && (its.toList.length == ds.length && (its.toList.zip ds).all fun p => cstOk K n p.1 p.2)
      | _ => false)
    | none => false
  | _, _, _ => false
theorem cst_tup {K : PySem.W.Frag} {n : Nat} {a : Addr} {ds : List PyData} (h : cstOk K (n + 1) (.ref a) (.tuple ds) = true) : ∃ (o : Obj) (its : Array Value) (k : Nat), K.lookup a = some o ∧ o.cls = .type "tuple" ∧ o.dict = none ∧ o.data = .seq its k ∧ its.size ≤ 100000 ∧ its.toList.length = ds.length ∧ ((its.toList.zip ds).all fun p => cstOk K n p.1 p.2) = true := by
  unfold cstOk at h
  split at h
  · rename_i o ho
    rw [Bool.and_eq_true, Bool.and_eq_true] at h
    obtain ⟨⟨h1, h3⟩, h2⟩ := h
    have h1 : o.cls = .type "tuple" := by simpa using h1
    have h3 : o.dict = none := by simpa using h3
    split at h2
    · rename_i its k hd
      simp only [Bool.and_eq_true, decide_eq_true_eq, beq_iff_eq] at h2
      exact ⟨o, its, k, ho, h1, h3, hd, h2.1, h2.2.1, h2.2.2⟩
    · cases h2
  · cases h
theorem cst_rp {K : PySem.W.Frag} {F : Hp} : ∀ (n : Nat) (u : Value) (d : PyData), cstOk K n u d = true → ∃ v, RelV v u ∧ Rp K F v d
  | 0, _, _, h => by simp [cstOk] at h
  | n + 1, u, d, h => by
    cases u with
    | none =>
      cases d with
      | none => exact ⟨.non, rfl, .non⟩
      | _ => cases h
    | bool b =>
      cases d with
      | bool c =>
        have e : b = c := by simpa [cstOk] using h
        subst e
        exact ⟨.bl b, rfl, .bl b⟩
      | _ => cases h
    | int i t =>
      cases d with
      | int j =>
        have e : i = j := by simpa [cstOk] using h
        subst e
        exact ⟨.int i, ⟨t, rfl⟩, .int i⟩
      | _ => cases h
    | str x t =>
      cases d with
      | str y =>
        have e : x = y := by simpa [cstOk] using h
        subst e
        exact ⟨.str x, ⟨t, rfl⟩, .str x⟩
      | _ => cases h
    | ref a =>
      cases d with
      | tuple ds =>
        obtain ⟨o, its, k, ho, h1, h3, hd, hs, hl, ha⟩ := cst_tup h
        have main : ∀ (us : List Value) (ds : List PyData), us.length = ds.length → ((us.zip ds).all fun p => cstOk K n p.1 p.2) = true → ∃ vs, Vals vs us ∧ RpA K F vs ds := by
          intro us
          induction us with
          | nil =>
            intro ds hl _
            cases ds with
            | nil => exact ⟨[], .nil, .nil⟩
            | cons _ _ => cases hl
          | cons u us ih =>
            intro ds hl ha
            cases ds with
            | nil => cases hl
            | cons d ds =>
              simp only [List.zip_cons_cons, List.all_cons, Bool.and_eq_true] at ha
              obtain ⟨v, r1, r2⟩ := cst_rp n u d ha.1
              obtain ⟨vs, q1, q2⟩ := ih ds (by simpa using hl) ha.2
              exact ⟨v :: vs, .cons r1 q1, .cons r2 q2⟩
        obtain ⟨vs, q1, q2⟩ := main _ _ hl ha
        exact ⟨.ref a, rfl, .tup (.inr ⟨o, its, k, ho, h1, hd, line_of hs, q1⟩) q2⟩
      | _ => cases h
    | _ => cases h
theorem relV_ref {v : V} {a : Addr} (r : RelV v (.ref a)) : v = .ref a := by
  have e := r.abs
  cases v <;> simp_all [absV]
theorem cst_ref {K : PySem.W.Frag} {n : Nat} {a : Addr} {d : PyData} (h : cstOk K n (.ref a) d = true) (F : Hp) : Rp K F (.ref a) d := by
  obtain ⟨v, r, q⟩ := cst_rp (F := F) n _ d h
  rw [relV_ref r] at q
  exact q
section
variable {K : PySem.W.Frag} {X : Cx} {C : Ct}
/-- a module's tuple -/
theorem pd_cst {x : Str} {d : PyData} {pos : Pos} (h : ∃ a, X.mg x = some (.ref a) ∧ cstOk X.K 4 (.ref a) d = true) (hg : Gl X x := by rfl) (hd : (x == ("__debug__" : Str)) = false := by decide) : PE X (.Name x pos) (tD X.K C (mC d)) := by
  obtain ⟨a, h1, h2⟩ := h
  exact pd_glob (v := .ref a) h1 rfl (cst_ref h2) hg hd
def mIdxC (xs : List PyData) (mb : ME) : ME := fun sd Q => mb sd fun b s2 => ∃ r, opIdx xs b = some r ∧ Q r s2
def rIndexT (K : PySem.W.Frag) : V → List V → Hp → VK → Prop := fun x xs H Q => ∃ (a : Addr) (ys : List V) (y : V) (j : Nat) (z : V), x = V.ref a ∧ xs = [y] ∧ SqT K H a ys ∧ flatV y = true ∧ ys.all flatV = true ∧ ys[j]? = some z ∧ eqV z y = true ∧
  (∀ (m : Nat) (z' : V), m < j → ys[m]? = some z' → eqV z' y = false) ∧ Q (.int (j : Nat)) H
theorem mt_indexT : MtR X "tuple.index" (rIndexT X.K) := by
  intro pins s σ H x xs v us Q I rx rxs h
  obtain ⟨a, ys, y, j, z, rfl, rfl, hs, fy, fys, hz, hzj, hno, q⟩ := h
  cases rx
  cases rxs with
  | cons ry rt =>
    rename_i uy ut
    cases rt
    obtain ⟨its, rv, ⟨⟨cls, dd, data, sl⟩, ho, hc, n, hd⟩, hlen⟩ := I.tuple hs
    simp only at hc hd
    subst hc hd
    obtain ⟨u, hu, ru⟩ := rv.get hz
    obtain ⟨hjl, hje⟩ := List.getElem?_eq_some_iff.mp hu
    have hvl := rv.length
    have hj : j < its.toArray.size := by simpa using hjl
    refine call_meets PySem.F.slot_tuple_index ⟨_, ho, rfl⟩ PySem.F.entry_tuple_index (PySem.F.args_tuple_index_2 _ _)
      (TI.tuple_indexAt a its.toArray n dd sl uy (eqU y) j hj ?_ ?_) ⟨ho, fun u' hu' => mem_eqAt ry fy rv fys u' (by simpa using hu'), ⟨.int (j : Nat), H, I.tok _, ⟨_, rfl⟩, q⟩⟩
    · have e1 : its.toArray[j] = u := by simpa using hje
      rw [e1, eqU_of ru (flat_at fys hz)]
      exact hzj
    · intro m hm hmj
      have hml : m < its.length := by simpa using hm
      have hmy : m < ys.length := by omega
      have hy' : ys[m]? = some ys[m] := List.getElem?_eq_getElem hmy
      obtain ⟨u2, hu2, ru2⟩ := rv.get hy'
      obtain ⟨_, hme⟩ := List.getElem?_eq_some_iff.mp hu2
      have e1 : its.toArray[m] = u2 := by simpa using hme
      rw [e1, eqU_of ru2 (flat_at fys hy')]
      exact hno m _ hmj hy'
variable {e : Expr} {p apos cpos : Pos} {mb : ME}
theorem pd_idxC {x : Str} {ds : List PyData} (h : ∃ a, X.mg x = some (.ref a) ∧ cstOk X.K 4 (.ref a) (.tuple ds) = true) (he : PE X e (tD X.K C mb)) (t : ∀ a, X.mg x = some (.ref a) → PE X (.Call (.Attribute (.Name x p) "index" apos) [e] [] cpos) (tBM X.K "tuple" (rIndexT X.K) (tC (.ref a)) (tCons (tD X.K C mb) tNil))) : PE X (.Call (.Attribute (.Name x p) "index" apos) [e] [] cpos) (tD X.K C (mIdxC ds mb)) := by
  obtain ⟨a, h1, h2⟩ := h
  refine pe_imp (t a h1) ?_
  rintro σ H Q ⟨F, sd, Qd, R, h, k⟩
  obtain ⟨o, its, n, ho, hc, hdn, hd, hs, hl, ha⟩ := cst_tup h2
  refine ⟨.inr (.inl ⟨rfl, o, ho, hc, hdn⟩), F, sd, _, R, h, fun y H2 F2 b sd2 R2 S2 ry hh => ?_⟩
  obtain ⟨z, e, q⟩ := hh
  have rp := cst_ref h2 F2
  cases rp with
  | tup hp ra =>
    unfold opIdx at e
    split at e
    · rename_i hc
      rw [Bool.and_eq_true] at hc
      obtain ⟨n, hn, rfl⟩ := Option.map_eq_some_iff.mp e
      obtain ⟨z, z1, z2, z3⟩ := first_rp ry hc.1 ra hc.2 hn
      exact ⟨_, _, y, n, z, rfl, rfl, same_t R2.ext hp, flatV_rp ry hc.1, flats_rp ra hc.2, z1, z2, z3, k _ H2 F2 _ sd2 R2 S2 (.int _) q⟩
    · cases e
end
end DL
namespace DL
open PySem PySem.Spec PyProof.Rows L2
def miEnumT (ma : MA) : MI := fun sd Q => ma sd fun ds s1 => ∃ xs, ds = [.tuple xs] ∧ Q (enumL 0 xs) s1
end DL
namespace PySem
open Sem (wp)
set_option maxHeartbeats 1000000 in
theorem dl_enumerate_newB {v : Value} {o : Obj} {H : Heap → Prop} (B : Begins v o H) :
    Meets (Builtin.«enumerate.__new__» ⟨[.type "enumerate", v], []⟩) (fun _ R s => H s.heap ∧
      R (.ok (.ret (.ref (s.heap.push o).objs.size))) { s with heap := (s.heap.push o).push { cls := .type "enumerate", data := .fields #[.none, .bool false, .ref s.heap.objs.size, rawInt 0, .none, .none] } }) :=
  .of_wp fun prog w A R s h => by
    obtain ⟨hp, g, d, tk, os⟩ := s; obtain ⟨h1, h⟩ := h
    have hsub := sub_enumerate
    have q1 : ∀ {A' : Around} {E : Value → Shared → Prop} {Q : Value → Shared → Prop}, Q (.ref hp.objs.size) ⟨hp.push o, g, d, tk, os⟩ → wpAny (model prog w) A' (pyIter v) Q E ⟨hp, g, d, tk, os⟩ :=
      fun q => B.iter prog w _ _ ⟨hp, g, d, tk, os⟩ _ h1 q
    wp_walk using q1
    refine wpAny_stack_any fun st => wpAny_pure ?_
    split
    · rename_i c _ _ _ _ _
      cases (c == Value.type "enumerate")
      · wp_walk using q1
        exact ⟨_, rfl, h⟩
      · wp_walk using q1
        exact ⟨_, rfl, h⟩
    · wp_walk using q1
      exact ⟨_, rfl, h⟩
section
variable {prog : Program} {w : World} {A : Around} {E : Value → Shared → Prop} {s : Shared}
theorem dl_call_enumerate {v : Value} {o : Obj} {H : Heap → Prop} {Q : Value → Shared → Prop} (B : Begins v o H) (h1 : H s.heap)
    (h : ∀ h', IsEnum h' (s.heap.objs.size + 1) s.heap.objs.size 0 .none → h'.get? s.heap.objs.size = some o → h'.objs.size = s.heap.objs.size + 2 →
      (∀ b o, s.heap.get? b = some o → h'.get? b = some o) → Q (.ref (s.heap.objs.size + 1)) { s with heap := h' }) :
    wpAny (model prog w) A (call (.type "enumerate") [v]) Q E s := by
  refine callType_new F.called_enumerate (by decide) (F.typeCall_enumerate_1 _) (F.newCall_enumerate_1 _) (fun obj => F.args_object_init_2 obj _) F.entry_enumerate_new
    (dl_enumerate_newB B) ⟨h1, ?_⟩
  have hz : (s.heap.push o).objs.size = s.heap.objs.size + 1 := Heap.size_push ..
  show _ ∧ _
  rw [hz]
  have he : IsEnum ((s.heap.push o).push { cls := .type "enumerate", data := .fields #[.none, .bool false, .ref s.heap.objs.size, rawInt 0, .none, .none] }) (s.heap.objs.size + 1) s.heap.objs.size 0 .none := by
    have := Heap.get?_push_size (s.heap.push o) (o := { cls := .type "enumerate", data := .fields #[.none, .bool false, .ref s.heap.objs.size, rawInt 0, .none, .none] }) rfl
    rw [hz] at this; exact this
  refine ⟨⟨_, he, rfl⟩, h _ he (Heap.get?_push_of_some _ (Heap.get?_push_size _ B.free)) (by rw [Heap.size_push, hz]) fun b o x => Heap.get?_push_of_some _ (Heap.get?_push_of_some _ x)⟩
end
end PySem
namespace DL
open PySem PySem.Spec PyProof.Rows L2
/-- the tuple at a as it stands at each turn, each item in a new pair -/
def IteT (K : PySem.W.Frag) (a : Addr) : It :=
  ⟨fun i H => ∃ (xs : List V) (x : V), SqT K H a xs ∧ xs[i]? = some x, fun i H v H' => ∃ T x, v = .ref T ∧ H T = none ∧ H' = upd H T (.tup [.int (i : Nat), x]) ∧ ∀ xs, SqT K H a xs → xs[i]? = some x, fun i H => ∃ xs : List V, SqT K H a xs ∧ xs.length = i⟩
theorem turn_enumT {P : Program} {w : World} {K : PySem.W.Frag} {elts : List Expr} {kk : Nat} {tpos : Pos} (a e it : Addr) :
    Turn P w K (.Tuple elts kk tpos) (IteT K a) [e, it] e (fun i h => (∃ old, IsEnum h e it ((i : Nat) : Int) old) ∧ h.IsTupleIter it a i ∧ e ≠ it ∧ e ≠ a ∧ a ≠ it) where
  mem := by simp
  obj := fun i h st b hb => by
    obtain ⟨⟨old, he⟩, ⟨o, ho, hc, hd⟩, _⟩ := st
    have e' : b = e ∨ b = it := by simpa using hb
    rcases e' with z | z
    · rw [z]; exact ⟨_, he, fun v q => nomatch q⟩
    · rw [z]; exact ⟨o, ho, fun v q => by rw [hd] at q; cases q⟩
  keep := fun i h h' st k => let ⟨⟨old, he⟩, hi, hne⟩ := st; ⟨⟨old, k e (by simp) _ he⟩, hi.at fun o q => k it (by simp) o q, hne⟩
  item := by
    intro X hP hw hK hc i pins s σ H E I hf st hg
    subst hP hw hK
    obtain ⟨⟨old, he⟩, hit, hne, hea, hai⟩ := st
    obtain ⟨xs, x, hq, hx⟩ := hg
    obtain ⟨its, rv, p, hz⟩ := I.tuple hq
    obtain ⟨u, hu, ru⟩ := rv.get hx
    obtain ⟨hul, hue⟩ := List.getElem?_eq_some_iff.mp hu
    have hel : e < s.heap.objs.size := Heap.lt_size he
    have hil : it < s.heap.objs.size := by obtain ⟨_, q, _⟩ := hit; exact Heap.lt_size q
    have D := Draws.tuple (prog := X.prog) (w := X.w) (A := X.A.in1) (show X.A.in1.handled = none from I.ok.hd hc) it a hai its.toArray
    refine wpAny_pyNext_enum_itemC D he ⟨hit, p⟩ (by simpa using hul) hne (by simp [hne, hea]) fun x' h' tk hP ho hs' hT hsz hk => ?_
    obtain ⟨hit', p'⟩ := hs'
    have ex : x' = u := by
      have h1 : its[i]? = some x' := by simpa using hP
      rw [hu] at h1
      exact (Option.some.inj h1).symm
    subst ex
    refine ⟨_, rfl, wpAny_letOwnedTupleGo_enum (s := { s with heap := h', toks := tk + 1 }) ho fun h'' he' sb => ?_⟩
    have hT2 : h''.get? s.heap.objs.size = some { cls := .type "tuple", data := .seq #[.int i tk, x'] } := (sb.2 _ (Nat.ne_of_gt hel)).trans hT
    have new : ObjOk X.prog X.w (upd H s.heap.objs.size (.tup [.int (i : Nat), x])) h'' s.heap.objs.size (.tup [.int (i : Nat), x]) :=
      ⟨by show 2 ≤ sizeLine; decide, [.int i tk, x'], .cons ⟨_, rfl⟩ (.cons ru .nil), ⟨_, hT2, rfl, _, rfl⟩⟩
    have I1 : L2.Inv X pins σ (upd H s.heap.objs.size (.tup [.int (i : Nat), x])) { s with heap := h'', toks := tk + 1 } :=
      I.turnedNew (ch := [e, it]) (fun b ob hb q => (sb.2 b (fun z => hb (by simp [z]))).trans (hk b ob (fun z => hb (by simp [z])) (fun z => hb (by simp [z])) q)) hf (Nat.le_refl _) new
    refine ⟨.ref s.heap.objs.size, _, I1, rfl, ⟨_, x, rfl, I.hok.fresh (Nat.le_refl _), rfl, fun ys hy => by rw [I.tuple_inj hy hq]; exact hx⟩, ⟨⟨x', ?_⟩, hit'.at fun o q => (sb.2 it (Ne.symm hne)).trans q, hne, hea, hai⟩, fun b hb => ?_⟩
    · have e1 : ((i + 1 : Nat) : Int) = (i : Int) + 1 := by omega
      rw [e1]; exact he'
    · have hb' : b < s.heap.objs.size := by
        have e' : b = e ∨ b = it := by simpa using hb
        rcases e' with z | z
        · rw [z]; exact hel
        · rw [z]; exact hil
      rw [upd_ne (Nat.ne_of_lt hb')]
      exact (hf b hb).1
  done := by
    intro X hP hw hK hc i pins s σ H E I hf st hg
    subst hP hw hK
    obtain ⟨⟨old, he⟩, hit, hne, hea, hai⟩ := st
    obtain ⟨xs, hq, hx⟩ := hg
    obtain ⟨its, rv, p, hz⟩ := I.tuple hq
    obtain ⟨f0, f1, f2, f3, f4, f5⟩ := hf it (by simp)
    have hl := rv.length
    have ei : i = its.toArray.size := by simp; omega
    have D := Draws.tuple (prog := X.prog) (w := X.w) (A := X.A.in1) (show X.A.in1.handled = none from I.ok.hd hc) it a hai its.toArray
    refine wpAny_pyNext_enum_endD D he ⟨by rw [← ei]; exact hit, p⟩ fun h' eb => ⟨rfl, I.turned (t' := s.toks) (fun b o hb q => eb b o hb q) f0 f1 f3 f4 f5⟩
  self := fun A i s Q E st h => let ⟨⟨_, he⟩, _⟩ := st; wpAny_pyIter_enum he h
theorem walk_enumT {K : PySem.W.Frag} {a : Addr} {xs : List V} : Walk (IteT K a) xs.length (fun H => SqT K H a xs) (YPair (fun i => some (.int (i : Nat))) (fun i => xs[i]?)) := by
  refine ⟨fun i _ hi q => ⟨xs, xs[i], q, by simp [hi]⟩, fun _ q => ⟨xs, q, rfl⟩, fun i H v H' _ q y => ?_⟩
  obtain ⟨T, x, h1, h2, h3, h4⟩ := y
  exact ⟨T, _, x, h1, h2, h3, rfl, h4 xs q⟩
section
variable {X : Cx} {C : Ct}
def iEnumT (K : PySem.W.Frag) (ta : TA) : TI := fun σ H R => ta σ H fun vs H1 => ∃ a xs, vs = [.ref a] ∧ SqT K H1 a xs ∧ R (IteT K a) H1
theorem pi_enumT {e : Expr} {ta : TA} {p pos tpos : Pos} {elts : List Expr} {kk : Nat} (hg : Gl X "enumerate") (hm : X.mg "enumerate" = none) (ha : PA X [e] ta) (hs : starEach [e] X.env = [(false, eval e X.env)] := by rfl) :
    PI X (.Tuple elts kk tpos) (.Call (.Name "enumerate" p) [e] [] pos) (iEnumT X.K ta) := by
  refine ⟨fun pins s σ H R I h => ?_⟩
  refine Call_ (ld_blt I hg hm boot_enumerate (PyProof.Rows.callWith_type1 (thn (ha.run pos pins s σ H _ I h) fun us s1 ⟨vs, H1, I1, r1, q1⟩ => ?_) hs rfl))
  obtain ⟨a, xs, ex, hq, q⟩ := q1
  subst ex
  cases r1 with
  | cons r rr =>
    cases rr
    cases r
    obtain ⟨its, rv, p', hz⟩ := I1.tuple hq
    have hal : a < s1.heap.objs.size := by obtain ⟨_, q, _⟩ := p'; exact Heap.lt_size q
    refine dl_call_enumerate (begins_tuple a its.toArray) p' fun h' he hit hsz hk => wpAny_pyIter_enum he ?_
    have I2 : L2.Inv X pins σ H1 { s1 with heap := h' } := I1.kept (t' := s1.toks) hk
    refine ⟨s1.heap.objs.size + 1, [s1.heap.objs.size + 1, s1.heap.objs.size], _, _, H1, rfl, I2, turn_enumT a (s1.heap.objs.size + 1) s1.heap.objs.size, ⟨⟨.none, he⟩, ⟨_, hit, rfl, rfl⟩, Nat.succ_ne_self _, fun e => absurd hal (by rw [← e]; exact Nat.not_lt.mpr (Nat.le_succ _)), fun e => absurd hal (by rw [e]; exact Nat.lt_irrefl _)⟩, fun b hb => ?_, q⟩
    have e' : b = s1.heap.objs.size + 1 ∨ b = s1.heap.objs.size := by simpa using hb
    have hle : s1.heap.objs.size ≤ b := by
      rcases e' with z | z
      · rw [z]; exact Nat.le_add_right _ _
      · rw [z]; exact Nat.le_refl _
    exact I1.fpOk hle (I1.hok.fresh hle)
theorem pdi_enumT {elts : List Expr} {kk : Nat} {tpos : Pos} {e : Expr} {p pos : Pos} {m : MA} (t : PI X (.Tuple elts kk tpos) (.Call (.Name "enumerate" p) [e] [] pos) (iEnumT X.K (tDA X.K C m))) :
    PI X (.Tuple elts kk tpos) (.Call (.Name "enumerate" p) [e] [] pos) (tDI X.K C (miEnumT m)) := pi_imp t (by
  rintro σ H R0 ⟨F, sd, Qd, R, h, k⟩
  refine ⟨F, sd, _, R, h, fun vs H1 F1 ds sd1 R1 S1 rs q => ?_⟩
  obtain ⟨xs, rfl, q⟩ := q
  obtain ⟨x, rfl, r⟩ := rpA1 rs
  cases r with
  | @tup a ys _ h2 r2 =>
    refine ⟨_, _, rfl, same_t R1.ext h2, k _ H1 F1 _ sd1 R1 S1 ?_ q⟩
    have hl : (enumL 0 xs).length = ys.length := by
      rw [r2.length]
      have : ∀ (l : List PyData) n, (enumL n l).length = l.length := fun l => by
        induction l with
        | nil => intro _; rfl
        | cons d l ih => intro n; simp [enumL, ih]
      exact this xs 0
    refine ⟨fun H => SqT X.K H a ys, YPair (fun i => some (.int (i : Nat))) (fun i => ys[i]?), by rw [hl]; exact walk_enumT, fun H e => same_t e h2, fun i H x H' F' hi e1 e2 y => ?_⟩
    obtain ⟨T, x1, x2, rfl, hT, hH, y1, y2⟩ := y
    cases y1
    obtain ⟨d, hd, rd⟩ := rpA_at r2 y2
    obtain ⟨F2, al, rr⟩ := pair_al hT e2 hH (.int (i : Int)) (rd.mono e1)
    refine ⟨F2, _, al, ?_, rr⟩
    rw [enumL_get, hd]
    simp)
end
end DL
namespace DL
open PySem PySem.Spec PyProof.Rows L2
def miZipM (ma : MA) : MI := fun sd Q => ma sd fun ds s1 => ∃ z ys, ds = [.str z, .tuple ys] ∧ Q (zipL (signsD z) ys) s1
/-- the text z, and the tuple at b as it stands at each turn, the items in new pairs -/
def ItzM (K : PySem.W.Frag) (z : Str) (b : Addr) : It :=
  ⟨fun i H => i < z.cps.size ∧ ∃ (ys : List V) (y : V), SqT K H b ys ∧ ys[i]? = some y,
    fun i H v H' => ∃ T c y, v = .ref T ∧ H T = none ∧ H' = upd H T (.tup [.str ⟨#[c]⟩, y]) ∧ z.cps[i]? = some c ∧ ∀ ys, SqT K H b ys → ys[i]? = some y,
    fun i H => ∃ ys : List V, SqT K H b ys ∧ i = min z.cps.size ys.length⟩
theorem turn_zipM {P : Program} {w : World} {K : PySem.W.Frag} {elts : List Expr} {kk : Nat} {tpos : Pos} {x : Str} {t : Tok} {b z TI TO i1 i2 : Addr} (S : ZipSep2 z TI TO i1 i2 [i1] [i2, b]) :
    Turn P w K (.Tuple elts kk tpos) (ItzM K x b) [z, TI, TO, i1, i2] z (fun i h => IsZip h z TI TO .none ∧ IsTupOf2 h TI (.ref i1) (.ref i2) ∧ (∃ a1 a2, IsTupOf2 h TO a1 a2) ∧ h.IsStrIter i1 (strIterType x) x t i ∧ h.IsTupleIter i2 b i) where
  mem := by simp
  obj := fun i h st c hc => by
    obtain ⟨hz, hTI, ⟨a1, a2, hTO⟩, ⟨o1, e1, _, d1⟩, ⟨o2, e2, _, d2⟩⟩ := st
    have e' : c = z ∨ c = TI ∨ c = TO ∨ c = i1 ∨ c = i2 := by simpa using hc
    rcases e' with q | q | q | q | q
    · rw [q]; exact ⟨_, hz, fun v q => nomatch q⟩
    · rw [q]; exact ⟨_, hTI, fun v q => nomatch q⟩
    · rw [q]; exact ⟨_, hTO, fun v q => nomatch q⟩
    · rw [q]; exact ⟨o1, e1, fun v q => by rw [d1] at q; cases q⟩
    · rw [q]; exact ⟨o2, e2, fun v q => by rw [d2] at q; cases q⟩
  keep := fun i h h' st k => by
    obtain ⟨hz, hTI, ⟨a1, a2, hTO⟩, ⟨o1, e1, r1⟩, h2⟩ := st
    exact ⟨k z (by simp) _ hz, k TI (by simp) _ hTI, ⟨a1, a2, k TO (by simp) _ hTO⟩, ⟨o1, k i1 (by simp) _ e1, r1⟩, h2.at fun o q => k i2 (by simp) o q⟩
  item := by
    intro X hP hw hK hc i pins s σ H E I hf st hg
    subst hP hw hK
    obtain ⟨hz, hTI, ⟨a1, a2, hTO⟩, h1, h2⟩ := st
    obtain ⟨hlt, ys, y, hqy, hy⟩ := hg
    obtain ⟨its, rv, p, _⟩ := I.tuple hqy
    obtain ⟨u, hu, ru⟩ := rv.get hy
    obtain ⟨hul, hue⟩ := List.getElem?_eq_some_iff.mp hu
    have hzl : z < s.heap.objs.size := Heap.lt_size hz
    have D1 := Draws.text (prog := X.prog) (w := X.w) (A := X.A.in1) (show X.A.in1.handled = none from I.ok.hd hc) i1 x t
    have D2 := Draws.tuple (prog := X.prog) (w := X.w) (A := X.A.in1) (show X.A.in1.handled = none from I.ok.hd hc) i2 b (fun e => by have := S.mem2; exact absurd e (by have hbz := hf i2 (by simp); intro e; obtain ⟨f0, _⟩ := hbz; obtain ⟨o, ho, _⟩ := p; obtain ⟨o', ho', hc', _⟩ := h2; subst e; rw [ho] at ho'; cases ho'; simp_all)) its.toArray
    refine wpAny_pyNext_zipD2_item S D1 D2 hz hTI hTO h1 ⟨h2, p⟩ hlt (by simpa using hul) fun x1 x2 h' tk p1 p2 z' TO' h1' h2' hT hsz hk => ?_
    obtain ⟨c, u1, hc1, rfl⟩ := p1
    have ex : x2 = u := by
      have q1 : its[i]? = some x2 := by simpa using p2
      rw [hu] at q1
      exact (Option.some.inj q1).symm
    subst ex
    refine ⟨_, rfl, wpAny_letOwnedTupleGo_zip (s := { s with heap := h', toks := tk }) z' fun h'' z'' sb => ?_⟩
    have hT2 : h''.get? s.heap.objs.size = some { cls := .type "tuple", data := .seq #[.str ⟨#[c]⟩ u1, x2] } := (sb.2 _ (Nat.ne_of_gt hzl)).trans hT
    have new : ObjOk X.prog X.w (upd H s.heap.objs.size (.tup [.str ⟨#[c]⟩, y])) h'' s.heap.objs.size (.tup [.str ⟨#[c]⟩, y]) :=
      ⟨by show 2 ≤ sizeLine; decide, [.str ⟨#[c]⟩ u1, x2], .cons ⟨_, rfl⟩ (.cons ru .nil), ⟨_, hT2, rfl, _, rfl⟩⟩
    have I1 : L2.Inv X pins σ (upd H s.heap.objs.size (.tup [.str ⟨#[c]⟩, y])) { s with heap := h'', toks := tk } :=
      I.turnedNew (ch := [z, TI, TO, i1, i2]) (fun c o hb q => (sb.2 c (fun q' => hb (by simp [q']))).trans (hk c o (fun q' => hb (by simp [q'])) (fun q' => hb (by simp [q'])) (fun q' => hb (by simp [q'])) (fun q' => hb (by simp [q'])) q)) hf (Nat.le_refl _) new
    refine ⟨.ref s.heap.objs.size, _, I1, rfl, ⟨_, c, y, rfl, I.hok.fresh (Nat.le_refl _), rfl, hc1, fun l hl => by rw [I.tuple_inj hl hqy]; exact hy⟩, ⟨z'', ?_, ⟨.str ⟨#[c]⟩ u1, x2, ?_⟩, ?_, ?_⟩, fun c hcm => ?_⟩
    · exact (sb.2 _ S.TIz).trans (hk _ _ S.TIz S.TITO S.TIi1 S.TIi2 hTI)
    · exact (sb.2 _ S.TOz).trans TO'
    · obtain ⟨o1, e1, r1⟩ := h1'
      exact ⟨o1, (sb.2 _ S.zi1.symm).trans e1, r1⟩
    · exact h2'.1.at fun o q => (sb.2 _ S.zi2.symm).trans q
    · have hlt : c < s.heap.objs.size := by
        have e' : c = z ∨ c = TI ∨ c = TO ∨ c = i1 ∨ c = i2 := by simpa using hcm
        rcases e' with q | q | q | q | q
        · rw [q]; exact hzl
        · rw [q]; exact Heap.lt_size hTI
        · rw [q]; exact Heap.lt_size hTO
        · rw [q]; obtain ⟨_, e1, _⟩ := h1; exact Heap.lt_size e1
        · rw [q]; obtain ⟨_, e2, _⟩ := h2; exact Heap.lt_size e2
      rw [upd_ne (Nat.ne_of_lt hlt)]
      exact (hf c hcm).1
  done := by
    intro X hP hw hK hc i pins s σ H E I hf st hg
    subst hP hw hK
    obtain ⟨hz, hTI, ⟨a1, a2, hTO⟩, h1, h2⟩ := st
    obtain ⟨ys, hqy, hend⟩ := hg
    obtain ⟨its, rv, p, _⟩ := I.tuple hqy
    have l2 := rv.length
    have hsz : its.toArray.size = ys.length := by simp; omega
    have D1 := Draws.text (prog := X.prog) (w := X.w) (A := X.A.in1) (show X.A.in1.handled = none from I.ok.hd hc) i1 x t
    have D2 := Draws.tuple (prog := X.prog) (w := X.w) (A := X.A.in1) (show X.A.in1.handled = none from I.ok.hd hc) i2 b (fun e => by obtain ⟨o, ho, _⟩ := p; obtain ⟨o', ho', hc', _⟩ := h2; subst e; rw [ho] at ho'; cases ho'; simp_all) its.toArray
    exact wpAny_pyNext_zipD2_end S D1 D2 hz hTI hTO h1 ⟨h2, p⟩ (by omega) (by omega) (by omega) fun h' tk hk => ⟨rfl, I.turnedL (t' := tk) (ch := [z, TI, TO, i1, i2]) (fun c o hb q =>
      hk c o (fun q' => hb (by simp [q'])) (fun q' => hb (by simp [q'])) (fun q' => hb (by simp [q'])) (fun q' => hb (by simp [q'])) q) hf⟩
  self := fun A i s Q E st h => wpAny_pyIter_zip st.1 h
theorem walk_zipM {K : PySem.W.Frag} {z : Str} {b : Addr} {ys : List V} : Walk (ItzM K z b) (min z.cps.size ys.length) (fun H => SqT K H b ys) (YPair (fun i => z.cps[i]?.map fun c => .str ⟨#[c]⟩) (fun i => ys[i]?)) := by
  refine ⟨fun i _ hi q => ?_, fun _ q => ⟨ys, q, rfl⟩, fun i H v H' _ q y => ?_⟩
  · have h2 : i < ys.length := by omega
    exact ⟨by omega, ys, ys[i], q, by simp [h2]⟩
  · obtain ⟨T, c, y, h1, h2, h3, h4, h5⟩ := y
    exact ⟨T, .str ⟨#[c]⟩, y, h1, h2, h3, by show z.cps[i]?.map _ = _; rw [h4]; rfl, h5 ys q⟩
section
variable {X : Cx} {C : Ct}
def iZipM (K : PySem.W.Frag) (ta : TA) : TI := fun σ H R => ta σ H fun vs H1 => ∃ z b ys, vs = [.str z, .ref b] ∧ SqT K H1 b ys ∧ R (ItzM K z b) H1
theorem pi_zipM {e e2 : Expr} {ta : TA} {p pos tpos : Pos} {elts : List Expr} {kk : Nat} (hg : Gl X "zip") (hm : X.mg "zip" = none) (ha : PA X [e, e2] ta)
    (hs : starEach [e, e2] X.env = (false, eval e X.env) :: starEach [e2] X.env := by rfl) (hpl : (backTo pos (starEach [e2] X.env)).any (·.1) = false := by rfl) :
    PI X (.Tuple elts kk tpos) (.Call (.Name "zip" p) [e, e2] [] pos) (iZipM X.K ta) := by
  refine ⟨fun pins s σ H R I h => ?_⟩
  refine Call_ (ld_blt I hg hm PyProof.Rows.boot_zip (PyProof.Rows.callWith_type1 (thn (ha.run pos pins s σ H _ I h) fun us s1 ⟨vs, H1, I1, r1, q1⟩ => ?_) hs hpl))
  obtain ⟨z, b, ys, ex, hqy, q⟩ := q1
  subst ex
  cases r1 with
  | cons r rr =>
    cases rr with
    | cons r' rr =>
      cases rr
      obtain ⟨t, rfl⟩ := r
      cases r'
      have fresh5 : ∀ c, c ∈ [s1.heap.objs.size + 4, s1.heap.objs.size + 2, s1.heap.objs.size + 3, s1.heap.objs.size, s1.heap.objs.size + 1] → FpOk X pins H1 c := fun c hcm => by
        have e' : c = s1.heap.objs.size + 4 ∨ c = s1.heap.objs.size + 2 ∨ c = s1.heap.objs.size + 3 ∨ c = s1.heap.objs.size ∨ c = s1.heap.objs.size + 1 := by simpa using hcm
        have hle : s1.heap.objs.size ≤ c := by
          rcases e' with z | z | z | z | z
          · rw [z]; exact Nat.le_add_right _ _
          · rw [z]; exact Nat.le_add_right _ _
          · rw [z]; exact Nat.le_add_right _ _
          · rw [z]; exact Nat.le_refl _
          · rw [z]; exact Nat.le_add_right _ _
        exact I1.fpOk hle (I1.hok.fresh hle)
      obtain ⟨its2, rv2, p2, _⟩ := I1.tuple hqy
      obtain ⟨o2, ho2, _⟩ := id p2
      have hbl : b < s1.heap.objs.size := Heap.lt_size ho2
      refine zip_begins2 (begins_text z t) (begins_tuple b its2.toArray) trivial p2 fun h' hz hTI hTO h1 h2 hsz hk => wpAny_pyIter_zip hz ?_
      have I2 : L2.Inv X pins σ H1 { s1 with heap := h' } := I1.kept (t' := s1.toks) hk
      have sep : ZipSep2 (s1.heap.objs.size + 4) (s1.heap.objs.size + 2) (s1.heap.objs.size + 3) s1.heap.objs.size (s1.heap.objs.size + 1) [s1.heap.objs.size] [s1.heap.objs.size + 1, b] :=
        zip_sep2 (fp1 := []) (fp2 := [b]) (fun _ h => by cases h) (fun c h => by rw [List.mem_singleton.mp h]; exact hbl)
      exact ⟨s1.heap.objs.size + 4, [s1.heap.objs.size + 4, s1.heap.objs.size + 2, s1.heap.objs.size + 3, s1.heap.objs.size, s1.heap.objs.size + 1], _, _, H1, rfl, I2, turn_zipM (t := t) sep, ⟨hz, hTI, ⟨_, _, hTO⟩, ⟨_, h1, rfl, rfl⟩, ⟨_, h2, rfl, rfl⟩⟩, fresh5, q⟩
theorem pdi_zipM {elts : List Expr} {kk : Nat} {tpos : Pos} {e e2 : Expr} {p pos : Pos} {m : MA} (t : PI X (.Tuple elts kk tpos) (.Call (.Name "zip" p) [e, e2] [] pos) (iZipM X.K (tDA X.K C m))) :
    PI X (.Tuple elts kk tpos) (.Call (.Name "zip" p) [e, e2] [] pos) (tDI X.K C (miZipM m)) := pi_imp t (by
  rintro σ H R0 ⟨F, sd, Qd, R, h, k⟩
  refine ⟨F, sd, _, R, h, fun vs H1 F1 ds sd1 R1 S1 rs q => ?_⟩
  obtain ⟨z, ys, rfl, q⟩ := q
  obtain ⟨x, y, rfl, r, r'⟩ := rpA2 rs
  cases r
  cases r' with
  | @tup a zs _ h2 r2 =>
    refine ⟨_, _, _, rfl, same_t R1.ext h2, k _ H1 F1 _ sd1 R1 S1 ?_ q⟩
    have zl : ∀ (l m : List PyData), (zipL l m).length = min l.length m.length := fun l => by
      induction l with
      | nil => intro m; simp [zipL]
      | cons a l ih => intro m; cases m with
        | nil => simp [zipL]
        | cons b m => simp only [zipL, List.length_cons, ih]; omega
    have zg : ∀ (l m : List PyData) (i : Nat) (a b : PyData), l[i]? = some a → m[i]? = some b → (zipL l m)[i]? = some (.tuple [a, b]) := fun l => by
      induction l with
      | nil => intro m i a b h; simp at h
      | cons a l ih =>
        intro m i a' b' h1 h2
        cases m with
        | nil => simp at h2
        | cons b m =>
          cases i with
          | zero => simp at h1 h2; subst h1; subst h2; rfl
          | succ i => simp at h1 h2; simp only [zipL]; rw [List.getElem?_cons_succ]; exact ih m i a' b' h1 h2
    have hl : (zipL (signsD z) ys).length = min z.cps.size zs.length := by
      rw [zl, r2.length]
      simp [signsD]
    refine ⟨fun H => SqT X.K H a zs, YPair (fun i => z.cps[i]?.map fun c => .str ⟨#[c]⟩) (fun i => zs[i]?), by rw [hl]; exact walk_zipM, fun H e => same_t e h2, fun i H x H' F' hi e1 e2 y => ?_⟩
    obtain ⟨T, x1, x2, rfl, hT, hH, y1, y2⟩ := y
    obtain ⟨d, hd, rd⟩ := rpA_at r2 y2
    have y1 : z.cps[i]?.map (fun c => V.str ⟨#[c]⟩) = some x1 := y1
    cases hcz : z.cps[i]? with
    | none => rw [hcz] at y1; cases y1
    | some c =>
      rw [hcz] at y1
      cases y1
      obtain ⟨F2, al, rr⟩ := pair_al hT e2 hH (.str _) (rd.mono e1)
      refine ⟨F2, _, al, ?_, rr⟩
      refine zg _ _ _ _ _ ?_ hd
      unfold signsD
      rw [List.getElem?_map, Array.getElem?_toList, hcz]
      rfl)
end
end DL
namespace DL
open PySem PySem.Spec PyProof.Rows L2
/-- behind each item of the first source the second source's own loop; the list goes on growing -/
def lc2L (mg : MG) (mt : MT) (mi1 : MI) (mg1 : MG) (mt1 : MT) (me : ME) (vs vs1 : List Nat) (Q : List PyData → DSt → Prop) : List PyData → DSt → List PyData → Prop
  | [], s, acc => Q acc s
  | d :: ds, s, acc => mg d (swipe s vs) fun s1 => mt s1 fun b s2 => if b = true then mi1 s2 fun ds1 s3 => unOwn s3 vs1 = true ∧ lcL mg1 mt1 me vs1 (fun acc' s4 => lc2L mg mt mi1 mg1 mt1 me vs vs1 Q ds (swipe s4 vs1) acc') ds1 s3 acc
      else lc2L mg mt mi1 mg1 mt1 me vs vs1 Q ds s2 acc
def mLc2 (mi : MI) (mg : MG) (mt : MT) (mi1 : MI) (mg1 : MG) (mt1 : MT) (me : ME) (vs vs1 : List Nat) : ME := fun sd Q => mi sd fun ds s => unOwn s vs = true ∧ lc2L mg mt mi1 mg1 mt1 me vs vs1 (fun out s' => Q (.list out) (sback s s' vs)) ds s []
theorem wipe_sub {σ : L2.St} {vs : List Nat} : ∀ {vs1 : List Nat}, (∀ i ∈ vs1, i ∈ vs) → wipe (wipe σ vs1) vs = wipe σ vs
  | [], _ => rfl
  | v :: vs1, h => by
    show wipe ((wipe σ vs1).set v none) vs = _
    rw [wipe_set (h v (by simp)), wipe_sub fun i hi => h i (by simp [hi])]
section
variable {K : PySem.W.Frag} {X : Cx} {C : Ct}
/-- one turn's beginning, the slots vb of σb wiped -/
structure LcG (K : PySem.W.Frag) (C : Ct) (σ : L2.St) (s1 : DSt) (F1 H1 : Hp) (σb : L2.St) (vb : List Nat) (Dl : Addr) (F' H' : Hp) (s : DSt) (acc : List PyData) : Prop where
  R : Rs K C F' H' (wipe σb vb) (swipe s vb)
  fr : Same F1 F'
  kp : ∀ a o, H1 a = some o → ¬ Owned σ s1 a → H' a = some o
  ow : ∀ a, Owned (wipe σb vb) (swipe s vb) a → Owned σ s1 a
  nw : ∀ a o, F' a = some o → F1 a = some o ∨ H1 a = none ∨ Owned σ s1 a
  st : ∀ a, H' a = none → H1 a = none
  dl : ∃ vacc, H' Dl = some (.lst vacc) ∧ RpA K F' vacc acc
  df : F' Dl = none
theorem LcG.to {σ : L2.St} {s1 s : DSt} {F1 H1 F' H' : Hp} {vs : List Nat} {Dl : Addr} {acc : List PyData} (L : LcG K C σ s1 F1 H1 σ vs Dl F' H' s acc) : LcSt K C σ s1 F1 H1 vs Dl F' H' s acc := ⟨L.R, L.fr, L.kp, L.ow, L.nw, L.st, L.dl, L.df⟩
theorem lcg_turn {σ σb σ2 σc : L2.St} {s1 s s2 : DSt} {F1 H1 F' H' F2 H2 F3 H3 : Hp} {vb vc : List Nat} {Dl : Addr} {acc : List PyData} (R1 : Rs K C F1 H1 σ s1) (hD : H1 Dl = none) (L : LcG K C σ s1 F1 H1 σb vb Dl F' H' s acc) (al : Al F' H' F2 H2)
    {s0 : DSt} (ho : ∀ a, Owned σ2 s0 a → Owned (wipe σb vb) (swipe s vb) a) (S3 : Stp σ2 s0 F2 H2 F3 H3 s2) (Rn : Rs K C F3 H3 (wipe σc vc) (swipe s2 vc)) (on : ∀ a, Owned (wipe σc vc) (swipe s2 vc) a → Owned σ2 s2 a) : LcG K C σ s1 F1 H1 σc vc Dl F3 H3 s2 acc ∧ ¬ Owned (wipe σc vc) (swipe s2 vc) Dl ∧ C.H0 Dl = none := by
  have A := Stp.al L.R al
  have ow3 : ∀ a, Owned (wipe σc vc) (swipe s2 vc) a → Owned σ s1 a := fun a z => L.ow a (ho a (S3.ow a (on a z)))
  have nD : ¬ Owned σ s1 Dl := fun z => by
    obtain ⟨x, e⟩ := owned_at R1 z
    rw [hD] at e; cases e
  obtain ⟨vacc, h1, h2⟩ := L.dl
  have h12 : H2 Dl = some (.lst vacc) := A.kp _ _ h1 fun z => nD (L.ow _ z)
  have nD0 : ¬ Owned σ2 s0 Dl := fun z => nD (L.ow _ (ho _ z))
  refine ⟨⟨Rn, (L.fr.trans A.fr).trans S3.fr, fun a o e n => S3.kp a o (A.kp a o (L.kp a o e n) fun z => n (L.ow a z)) fun z => n (L.ow a (ho a z)), ow3, fun a o e => ?_, fun a e => L.st a (A.st a (S3.st a e)), ⟨vacc, S3.kp _ _ h12 nD0, (h2.mono A.fr).mono S3.fr⟩, ?_⟩, fun z => nD (ow3 _ z), R1.still _ hD⟩
  · rcases S3.nw a o e with e | e | e
    · rcases A.nw a o e with e | e | e
      · exact L.nw a o e
      · exact .inr (.inl (L.st a e))
      · exact .inr (.inr (L.ow a e))
    · exact .inr (.inl (L.st a (A.st a e)))
    · exact .inr (.inr (L.ow a (ho a e)))
  · cases e : F3 Dl with
    | none => rfl
    | some o =>
      rcases S3.nw _ o e with e | e | e
      · rcases A.nw _ o e with e | e | e
        · rw [L.df] at e; cases e
        · rw [h1] at e; cases e
        · exact (nD (L.ow _ e)).elim
      · rw [h12] at e; cases e
      · exact (nD0 e).elim
/-- the new list grows by an item -/
theorem LcG.push {σ σb : L2.St} {s1 s : DSt} {F1 H1 F' H' : Hp} {vb : List Nat} {Dl : Addr} {acc : List PyData} {vacc : List V} {y : V} {dy : PyData} (hD : H1 Dl = none) (L : LcG K C σ s1 F1 H1 σb vb Dl F' H' s acc) (no : ¬ Owned (wipe σb vb) (swipe s vb) Dl) (h0 : C.H0 Dl = none)
    (e1 : H' Dl = some (.lst vacc)) (e2 : RpA K F' vacc acc) (ry : Rp K F' y dy) : LcG K C σ s1 F1 H1 σb vb Dl F' (upd H' Dl (.lst (vacc ++ [y]))) s (acc ++ [dy]) := by
  refine ⟨L.R.updH L.df no h0, L.fr, fun a o e n => ?_, L.ow, L.nw, fun a e => ?_, ⟨_, upd_same, e2.snoc ry⟩, L.df⟩
  · have : a ≠ Dl := fun z => by subst z; rw [hD] at e; cases e
    rw [upd_ne this]; exact L.kp a o e n
  · by_cases z : a = Dl
    · subst z; exact hD
    · rw [upd_ne z] at e; exact L.st a e
theorem td_lc2 {mi mi1 : MI} {mg mg1 : MG} {mt mt1 : MT} {me : ME} {vs vs1 : List Nat} (hv : ∀ i ∈ vs1, i ∈ vs) {σ : L2.St} {H : Hp} {Q : VK} {F : Hp} {sd : DSt} {P : List PyData → DSt → Prop} (R : Rs K C F H σ sd) (h : mi sd fun ds s => unOwn s vs = true ∧ lc2L mg mt mi1 mg1 mt1 me vs vs1 (fun out s' => P out (sback s s' vs)) ds s [])
    (k : ∀ Dl H' F' out vout sd', Rs K C F' H' σ sd' → Stp σ sd F H F' H' sd' → H' Dl = some (.lst vout) → RpA K F' vout out → F' Dl = none → C.H0 Dl = none → ¬ Owned σ sd' Dl → H Dl = none → P out sd' → Q (.ref Dl) H') :
    tLc2 (tDI K C mi) (tDGv K C vs mg) (tDT K C mt) (tDI K C mi1) (tDGv K C vs1 mg1) (tDT K C mt1) (tD K C me) vs vs1 σ H Q := by
  refine ⟨F, sd, _, R, h, fun J H1 F1 ds s1 R1 S1 W h1 => fun Dl hD => ?_⟩
  obtain ⟨hu, h1⟩ := h1
  obtain ⟨G, Y, w, hG, hY⟩ := W.ex
  have nD : ¬ Owned σ s1 Dl := fun z => by
    obtain ⟨x, e⟩ := owned_at R1 z
    rw [hD] at e; cases e
  let Pv : Nat → Hp → Prop := fun i H' => ∃ F' s acc, LcG K C σ s1 F1 H1 σ vs Dl F' H' s acc ∧ lc2L mg mt mi1 mg1 mt1 me vs vs1 (fun out s' => P out (sback s1 s' vs)) (ds.drop i) s acc
  have p0 : Pv 0 (upd H1 Dl (.lst [])) := by
    refine ⟨F1, s1, [], ⟨rs_wipe (R1.allocH hD) vs, Same.refl _, fun a o e _ => same_new hD a o e, fun a z => owned_wipe z, fun a o e => .inl e, fun a e => ?_, ⟨[], upd_same, .nil⟩, R1.free hD⟩, h1⟩
    by_cases z : a = Dl
    · subst z; exact hD
    · rw [upd_ne z] at e; exact e
  refine ⟨fun i m H => m = ds.length - i ∧ i ≤ ds.length ∧ Pv i H, ⟨_, rfl, Nat.zero_le _, p0⟩, ?_⟩
  rintro i m H' ⟨rfl, hi, p⟩
  obtain ⟨F', s, acc, L, q⟩ := p
  have gH : G H' := hG H' (L.fr.trans L.R.ext)
  by_cases hge : ds.length ≤ i
  · have e : i = ds.length := by omega
    subst e
    rw [List.drop_length] at q
    obtain ⟨vacc, a1, a2, a3, a4, a5, a6, a7⟩ := lc_end R1 hu hD L.to
    exact .inl ⟨w.stops H' gH, k Dl H' F' acc vacc _ a5 (S1.trans a6) a1 a2 a3 a4 a7 (S1.st _ hD) q⟩
  have hlt : i < ds.length := by omega
  refine .inr ⟨w.goes i H' hlt gH, Pv (i + 1), fun H2 p2 => ⟨ds.length - (i + 1), by omega, rfl, hlt, p2⟩, fun x H'' y => ?_⟩
  have y := w.yields i H' x H'' hlt gH y
  obtain ⟨F2, d, al, hd, rd⟩ := hY i H' x H'' F' hlt L.fr L.R.ext y
  rw [drop_get hd] at q
  refine ⟨F2, swipe s vs, d, _, L.R.al al, rd, q, fun σ2 s2 R2 hw ho q2 => ⟨by rw [hw, wipe_wipe], F2, s2, _, R2, q2, fun b H3 F3 s3 R3 S3 q3 => ?_⟩⟩
  rw [wipe_wipe] at hw
  cases b with
  | false =>
    obtain ⟨L4, _, _⟩ := lcg_turn (σc := σ) (vc := vs) R1 hD L al ho S3 (by rw [← hw]; exact rs_wipe R3 vs) (fun a z => by rw [← hw] at z; exact owned_wipe z)
    exact ⟨F3, s3, acc, L4, q3⟩
  | true =>
    refine ⟨F3, s3, _, R3, q3, fun J1 H4 F4 ds1 s4 R4 S4 W4 q4 => ?_⟩
    obtain ⟨hu1, q4⟩ := q4
    obtain ⟨G1, Y1, w1, hG1, hY1⟩ := W4.ex
    obtain ⟨L4, _, _⟩ := lcg_turn (σc := σ2) (vc := vs1) R1 hD L al ho (S3.trans S4) (rs_wipe R4 vs1) (fun a z => owned_wipe z)
    let Pv1 : Nat → Hp → Prop := fun j H5 => ∃ F5 s5 acc5, LcG K C σ s1 F1 H1 σ2 vs1 Dl F5 H5 s5 acc5 ∧ Same F4 F5 ∧ lcL mg1 mt1 me vs1 (fun acc' s' => lc2L mg mt mi1 mg1 mt1 me vs vs1 (fun out s' => P out (sback s1 s' vs)) (ds.drop (i + 1)) (swipe s' vs1) acc') (ds1.drop j) s5 acc5
    refine ⟨fun j m H => m = ds1.length - j ∧ j ≤ ds1.length ∧ Pv1 j H, ⟨_, rfl, Nat.zero_le _, F4, s4, acc, L4, Same.refl _, q4⟩, ?_⟩
    rintro j m H5 ⟨rfl, hj, F5, s5, acc5, L5, sm, q5⟩
    have gH1 : G1 H5 := hG1 H5 (sm.trans L5.R.ext)
    by_cases hge1 : ds1.length ≤ j
    · have e : j = ds1.length := by omega
      subst e
      rw [List.drop_length] at q5
      refine .inl ⟨w1.stops H5 gH1, F5, swipe s5 vs1, acc5, ⟨?_, L5.fr, L5.kp, fun a z => ?_, L5.nw, L5.st, L5.dl, L5.df⟩, q5⟩
      · have := rs_wipe L5.R vs
        rw [wipe_sub hv, hw] at this
        exact this
      · rw [← hw, ← wipe_sub hv] at z
        exact L5.ow a (owned_wipe z)
    have hlt1 : j < ds1.length := by omega
    refine .inr ⟨w1.goes j H5 hlt1 gH1, Pv1 (j + 1), fun H6 p6 => ⟨ds1.length - (j + 1), by omega, rfl, hlt1, p6⟩, fun x1 H6 y1 => ?_⟩
    have y1 := w1.yields j H5 x1 H6 hlt1 gH1 y1
    obtain ⟨F6, d1, al1, hd1, rd1⟩ := hY1 j H5 x1 H6 F5 hlt1 sm L5.R.ext y1
    rw [drop_get hd1] at q5
    refine ⟨F6, swipe s5 vs1, d1, _, L5.R.al al1, rd1, q5, fun σ3 s6 R6 hw1 ho1 q6 => ⟨by rw [hw1, wipe_wipe], F6, s6, _, R6, q6, fun b H7 F7 s7 R7 S7 q7 => ?_⟩⟩
    rw [wipe_wipe] at hw1
    have smal : ∀ {Fa : Hp}, Same F6 Fa → Same F4 Fa := fun h => (sm.trans (Stp.al L5.R al1).fr).trans h
    cases b with
    | false =>
      obtain ⟨L7, _, _⟩ := lcg_turn (σc := σ2) (vc := vs1) R1 hD L5 al1 ho1 S7 (by rw [← hw1]; exact rs_wipe R7 vs1) (fun a z => by rw [← hw1] at z; exact owned_wipe z)
      exact ⟨F7, s7, acc5, L7, smal S7.fr, q7⟩
    | true =>
      refine ⟨F7, s7, _, R7, q7, fun y H8 F8 dy s8 R8 S8 ry q8 => ?_⟩
      obtain ⟨L8, no8, h08⟩ := lcg_turn (σc := σ2) (vc := vs1) R1 hD L5 al1 ho1 (S7.trans S8) (by rw [← hw1]; exact rs_wipe R8 vs1) (fun a z => by rw [← hw1] at z; exact owned_wipe z)
      obtain ⟨vacc, e1, e2⟩ := L8.dl
      exact ⟨vacc, e1, by rw [e2.length]; exact line_lt q8.1, F8, s8, acc5 ++ [dy], L8.push hD no8 h08 e1 e2 ry, smal (S7.fr.trans S8.fr), q8.2⟩
theorem td_lc2V {mi mi1 : MI} {mg mg1 : MG} {mt mt1 : MT} {me : ME} {vs vs1 : List Nat} (hv : ∀ i ∈ vs1, i ∈ vs) : ∀ σ H Q, tD K C (mLc2 mi mg mt mi1 mg1 mt1 me vs vs1) σ H Q → tLc2 (tDI K C mi) (tDGv K C vs mg) (tDT K C mt) (tDI K C mi1) (tDGv K C vs1 mg1) (tDT K C mt1) (tD K C me) vs vs1 σ H Q := by
  rintro σ H Q ⟨F, sd, Qd, R, h, k⟩
  refine td_lc2 hv R h fun Dl H' F' out vout sd' R' S h1 r hF h0 ho hn q => ?_
  obtain ⟨R2, rp⟩ := R'.freezeD h1 hF h0 ho r
  exact k _ H' _ _ sd' R2 (S.freezeD hF hn) rp q
variable {elt tg iter tg1 iter1 : Expr} {ifs ifs1 : List Expr} {scope : Scope} {pos : Pos} {mi mi1 : MI} {mg mg1 : MG} {mt mt1 : MT} {me : ME} {vs vs1 : List Nat}
theorem pd_lc2 (hv : ∀ i ∈ vs1, i ∈ vs) (t : PE X (.ListComp elt [⟨tg, iter, ifs, 0⟩, ⟨tg1, iter1, ifs1, 0⟩] scope pos) (tLc2 (tDI X.K C mi) (tDGv X.K C vs mg) (tDT X.K C mt) (tDI X.K C mi1) (tDGv X.K C vs1 mg1) (tDT X.K C mt1) (tD X.K C me) vs vs1)) : PE X (.ListComp elt [⟨tg, iter, ifs, 0⟩, ⟨tg1, iter1, ifs1, 0⟩] scope pos) (tD X.K C (mLc2 mi mg mt mi1 mg1 mt1 me vs vs1)) := pe_imp t (td_lc2V hv)
theorem pds_setLc2 (hv : ∀ i ∈ vs1, i ∈ vs) {y : Expr} {spos : Pos} {i : Nat} (t : PS X (.Assign [y] (.ListComp elt [⟨tg, iter, ifs, 0⟩, ⟨tg1, iter1, ifs1, 0⟩] scope pos) spos) (tAsg (tLc2 (tDI X.K C mi) (tDGv X.K C vs mg) (tDT X.K C mt) (tDI X.K C mi1) (tDGv X.K C vs1 mg1) (tDT X.K C mt1) (tD X.K C me) vs vs1) (gName i))) :
    PS X (.Assign [y] (.ListComp elt [⟨tg, iter, ifs, 0⟩, ⟨tg1, iter1, ifs1, 0⟩] scope pos) spos) (tDS X.K C (mAsg (mLc2 mi mg mt mi1 mg1 mt1 me vs vs1) (mgName i))) := ps_imp t (by
  rintro D σ H ⟨F, sd, Dd, R, E, h⟩
  refine td_lc2V hv σ H _ ⟨F, sd, _, R, h, fun v H1 F1 d sd1 R1 S1 r q => ?_⟩
  exact E.nx F1 H1 _ _ S1.fr (R1.setva r) q)
end
end DL
namespace DL
open PySem PySem.Spec PyProof.Rows L2
def CDivZ (i j : Int) : Prop := j ≠ 0 ∧ j.natAbs.log2 < 9000
theorem op_fdivZ {X : Cx} : OpR X (binaryOp .FloorDiv) (rI CDivZ fun i j => .int (i.fdiv j)) := opI fun i j _ _ _ _ _ hc q => floordiv_int hc.1 q (.inl (PyProof.noPylong_of_log2 hc.2))
def opFdivZ : PyData → PyData → Option PyData
  | .int a, .int b => if b ≠ 0 ∧ b.natAbs.log2 < 9000 then some (.int (a.fdiv b)) else none
  | _, _ => none
theorem rl_fdivZ {K : PySem.W.Frag} : RL2 K (rI CDivZ fun i j => V.int (i.fdiv j)) opFdivZ := by
  intro F H x y a b z Q e _ rx ry h k
  unfold opFdivZ at h
  split at h
  · cases rx; cases ry
    split at h
    · rename_i hs
      cases h
      exact ⟨_, _, rfl, rfl, hs, k _ F H .id (.int _)⟩
    · cases h
  · cases h
theorem opFdivZ_ok {a b : Int} {k : Nat} (h : b ≠ 0) (hb : sz k b) (hk : k < 9000) : opFdivZ (.int a) (.int b) = some (.int (a.fdiv b)) := by
  have := sz_log hb
  show (if b ≠ 0 ∧ b.natAbs.log2 < 9000 then _ else _) = _
  rw [if_pos ⟨h, by omega⟩]
/-- a comprehension with two fors by what each pair gives -/
theorem lc2L_run {mg mg1 : MG} {mt mt1 : MT} {mi1 : MI} {me : ME} {vs vs1 : List Nat} {Q : List PyData → DSt → Prop} (I : DSt → Prop) (k : PyData → PyData → Option PyData) (ds1 : List PyData) : ∀ ds : List PyData,
    (∀ d ∈ ds, ∀ s, I s → ∀ (N : List PyData → DSt → Prop) (acc : List PyData), acc.length + ds1.length ≤ 100000 → (∀ s', I s' → N (acc ++ ds1.filterMap (k d)) s') →
      mg d (swipe s vs) fun s1 => mt s1 fun b s2 => if b = true then mi1 s2 fun ds2 s3 => unOwn s3 vs1 = true ∧ lcL mg1 mt1 me vs1 (fun acc' s4 => N acc' (swipe s4 vs1)) ds2 s3 acc else N acc s2) →
    ∀ s acc, I s → acc.length + ds.length * ds1.length ≤ 100000 → (∀ s', I s' → Q (acc ++ ds.flatMap fun d => ds1.filterMap (k d)) s') → lc2L mg mt mi1 mg1 mt1 me vs vs1 Q ds s acc
  | [], _, s, acc, hI, _, q => by
    have := q s hI
    simpa [lc2L] using this
  | d :: ds, h, s, acc, hI, hl, q => by
    have e : (d :: ds).length * ds1.length = ds1.length + ds.length * ds1.length := by rw [List.length_cons, Nat.succ_mul, Nat.add_comm]
    rw [e] at hl
    refine h d (by simp) s hI (fun acc' s' => lc2L mg mt mi1 mg1 mt1 me vs vs1 Q ds s' acc') acc (by omega) fun s' hI' => ?_
    refine lc2L_run I k ds1 ds (fun d' hd' => h d' (by simp [hd'])) s' _ hI' ?_ fun s'' hI'' => ?_
    · have := List.length_filterMap_le (k d) ds1
      rw [List.length_append]
      omega
    · have := q s'' hI''
      rw [List.append_assoc]
      simpa using this
/-- min(a list of ints), not empty -/
def bMinL : List PyData → Option PyData
  | [.list xs] => match ints? xs with
    | some (n :: ns) => some (.int (ns.foldl min n))
    | _ => none
  | _ => none
theorem foldl_min : ∀ (ns : List Int) (n : Int), (ns.foldl min n ∈ n :: ns) ∧ ∀ a ∈ n :: ns, ns.foldl min n ≤ a
  | [], n => ⟨by simp, fun a ha => by simp at ha; subst ha; exact Int.le_refl _⟩
  | m :: ns, n => by
    obtain ⟨h1, h2⟩ := foldl_min ns (min n m)
    rw [List.foldl_cons]
    refine ⟨?_, fun a ha => ?_⟩
    · rcases List.mem_cons.mp h1 with h | h
      · rw [h]
        by_cases c : n ≤ m
        · rw [Int.min_eq_left c]; simp
        · rw [Int.min_eq_right (by omega)]; simp
      · simp [h]
    · have h0 := h2 (min n m) (by simp)
      rcases List.mem_cons.mp ha with rfl | ha
      · exact Int.le_trans h0 (Int.min_le_left _ _)
      · rcases List.mem_cons.mp ha with rfl | ha
        · exact Int.le_trans h0 (Int.min_le_right _ _)
        · exact h2 a (by simp [ha])
theorem rc_minL {K : PySem.W.Frag} : RLC K (rMin K) bMinL := by
  intro F H xs as z Q e _ rx h k
  unfold bMinL at h
  split at h
  · obtain ⟨x, rfl, r⟩ := rpA1 rx
    cases r with
    | lst h1 r1 =>
      split at h
      · rename_i n ns hn
        cases h
        rw [ints_rp r1 hn] at h1
        refine ⟨_, n :: ns, rfl, .inl (.inl (e _ _ h1)), by simp, fun m hm hle => ?_⟩
        obtain ⟨f1, f2⟩ := foldl_min ns n
        have : m = ns.foldl min n := by
          have a1 := hle _ f1
          have a2 := f2 _ hm
          omega
        rw [this]
        exact k _ F H .id (.int _)
      · cases h
  · cases h
end DL
namespace DL
open PySem PySem.Spec PyProof.Rows L2
def zipL3 : List PyData → List PyData → List PyData → List PyData
  | x :: xs, y :: ys, z :: zs => .tuple [x, y, z] :: zipL3 xs ys zs
  | _, _, _ => []
def miZip3 (ma : MA) : MI := fun sd Q => ma sd fun ds s1 => ∃ xs ys zs, ds = [.tuple xs, .tuple ys, .tuple zs] ∧ Q (zipL3 xs ys zs) s1
/-- the tuples at a, b, c as they stand at each turn, the items in new triples -/
def Itz3 (K : PySem.W.Frag) (a b c : Addr) : It :=
  ⟨fun i H => ∃ (xs ys zs : List V) (x y z : V), SqT K H a xs ∧ SqT K H b ys ∧ SqT K H c zs ∧ xs[i]? = some x ∧ ys[i]? = some y ∧ zs[i]? = some z,
    fun i H v H' => ∃ T x y z, v = .ref T ∧ H T = none ∧ H' = upd H T (.tup [x, y, z]) ∧ (∀ xs, SqT K H a xs → xs[i]? = some x) ∧ (∀ ys, SqT K H b ys → ys[i]? = some y) ∧ ∀ zs, SqT K H c zs → zs[i]? = some z,
    fun i H => ∃ xs ys zs : List V, SqT K H a xs ∧ SqT K H b ys ∧ SqT K H c zs ∧ i = min xs.length (min ys.length zs.length)⟩
theorem turn_zip3 {P : Program} {w : World} {K : PySem.W.Frag} {elts : List Expr} {kk : Nat} {tpos : Pos} {a b c z TI TO i1 i2 i3 : Addr} (S : ZipSep3 z TI TO i1 i2 i3 [i1, a] [i2, b] [i3, c]) :
    Turn P w K (.Tuple elts kk tpos) (Itz3 K a b c) [z, TI, TO, i1, i2, i3] z (fun i h => IsZip h z TI TO .none ∧ IsTupOf3 h TI (.ref i1) (.ref i2) (.ref i3) ∧ (∃ a1 a2 a3, IsTupOf3 h TO a1 a2 a3) ∧ h.IsTupleIter i1 a i ∧ h.IsTupleIter i2 b i ∧ h.IsTupleIter i3 c i) where
  mem := by simp
  obj := fun i h st d hd => by
    obtain ⟨hz, hTI, ⟨a1, a2, a3, hTO⟩, ⟨o1, e1, _, d1⟩, ⟨o2, e2, _, d2⟩, ⟨o3, e3, _, d3⟩⟩ := st
    have e' : d = z ∨ d = TI ∨ d = TO ∨ d = i1 ∨ d = i2 ∨ d = i3 := by simpa using hd
    rcases e' with q | q | q | q | q | q
    · rw [q]; exact ⟨_, hz, fun v q => nomatch q⟩
    · rw [q]; exact ⟨_, hTI, fun v q => nomatch q⟩
    · rw [q]; exact ⟨_, hTO, fun v q => nomatch q⟩
    · rw [q]; exact ⟨o1, e1, fun v q => by rw [d1] at q; cases q⟩
    · rw [q]; exact ⟨o2, e2, fun v q => by rw [d2] at q; cases q⟩
    · rw [q]; exact ⟨o3, e3, fun v q => by rw [d3] at q; cases q⟩
  keep := fun i h h' st k => by
    obtain ⟨hz, hTI, ⟨a1, a2, a3, hTO⟩, h1, h2, h3⟩ := st
    exact ⟨k z (by simp) _ hz, k TI (by simp) _ hTI, ⟨a1, a2, a3, k TO (by simp) _ hTO⟩, h1.at fun o q => k i1 (by simp) o q, h2.at fun o q => k i2 (by simp) o q, h3.at fun o q => k i3 (by simp) o q⟩
  item := by
    intro X hP hw hK hc i pins s σ H E I hf st hg
    subst hP hw hK
    obtain ⟨hz, hTI, ⟨a1, a2, a3, hTO⟩, h1, h2, h3⟩ := st
    obtain ⟨xs, ys, zs, x, y, zz, hqx, hqy, hqz, hx, hy, hzz⟩ := hg
    obtain ⟨its1, rv1, p1, _⟩ := I.tuple hqx
    obtain ⟨its2, rv2, p2, _⟩ := I.tuple hqy
    obtain ⟨its3, rv3, p3, _⟩ := I.tuple hqz
    obtain ⟨u1, hu1, ru1⟩ := rv1.get hx
    obtain ⟨u2, hu2, ru2⟩ := rv2.get hy
    obtain ⟨u3, hu3, ru3⟩ := rv3.get hzz
    obtain ⟨hl1, -⟩ := List.getElem?_eq_some_iff.mp hu1
    obtain ⟨hl2, -⟩ := List.getElem?_eq_some_iff.mp hu2
    obtain ⟨hl3, -⟩ := List.getElem?_eq_some_iff.mp hu3
    have hzl : z < s.heap.objs.size := Heap.lt_size hz
    have hh : X.A.in1.handled = none := I.ok.hd hc
    have nt : ∀ {i a : Addr} {its : Array Value} {k : Nat}, s.heap.IsTuple a its → s.heap.IsTupleIter i a k → a ≠ i := fun {i a its k} p h e => by
      obtain ⟨o, ho, _⟩ := p; obtain ⟨o', ho', hc', _⟩ := h; subst e; rw [ho] at ho'; cases ho'; simp_all
    have D1 := Draws.tuple (prog := X.prog) (w := X.w) (A := X.A.in1) hh i1 a (nt p1 h1) its1.toArray
    have D2 := Draws.tuple (prog := X.prog) (w := X.w) (A := X.A.in1) hh i2 b (nt p2 h2) its2.toArray
    have D3 := Draws.tuple (prog := X.prog) (w := X.w) (A := X.A.in1) hh i3 c (nt p3 h3) its3.toArray
    refine wpAny_pyNext_zipD3_item S D1 D2 D3 hz hTI hTO ⟨h1, p1⟩ ⟨h2, p2⟩ ⟨h3, p3⟩ (by simpa using hl1) (by simpa using hl2) (by simpa using hl3) fun x1 x2 x3 h' tk q1 q2 q3 z' TO' h1' h2' h3' hT hsz hk => ?_
    have ex : ∀ {its : List Value} {v u : Value}, its.toArray[i]? = some v → its[i]? = some u → v = u := fun {its v u} a b => by
      have : its[i]? = some v := by simpa using a
      rw [b] at this
      exact (Option.some.inj this).symm
    obtain rfl := ex q1 hu1
    obtain rfl := ex q2 hu2
    obtain rfl := ex q3 hu3
    refine ⟨_, rfl, wpAny_letOwnedTupleGo_zip (s := { s with heap := h', toks := tk }) z' fun h'' z'' sb => ?_⟩
    have hT2 : h''.get? s.heap.objs.size = some { cls := .type "tuple", data := .seq #[x1, x2, x3] } := (sb.2 _ (Nat.ne_of_gt hzl)).trans hT
    have new : ObjOk X.prog X.w (upd H s.heap.objs.size (.tup [x, y, zz])) h'' s.heap.objs.size (.tup [x, y, zz]) :=
      ⟨by show 3 ≤ sizeLine; decide, [x1, x2, x3], .cons ru1 (.cons ru2 (.cons ru3 .nil)), ⟨_, hT2, rfl, _, rfl⟩⟩
    have I1 : L2.Inv X pins σ (upd H s.heap.objs.size (.tup [x, y, zz])) { s with heap := h'', toks := tk } :=
      I.turnedNew (ch := [z, TI, TO, i1, i2, i3]) (fun c o hb q => (sb.2 c (fun q' => hb (by simp [q']))).trans (hk c o (fun q' => hb (by simp [q'])) (fun q' => hb (by simp [q'])) (fun q' => hb (by simp [q'])) (fun q' => hb (by simp [q'])) (fun q' => hb (by simp [q'])) q)) hf (Nat.le_refl _) new
    refine ⟨.ref s.heap.objs.size, _, I1, rfl, ⟨_, x, y, zz, rfl, I.hok.fresh (Nat.le_refl _), rfl, fun l hl => by rw [I.tuple_inj hl hqx]; exact hx, fun l hl => by rw [I.tuple_inj hl hqy]; exact hy, fun l hl => by rw [I.tuple_inj hl hqz]; exact hzz⟩, ⟨z'', ?_, ⟨x1, x2, x3, ?_⟩, ?_, ?_, ?_⟩, fun d hcm => ?_⟩
    · exact (sb.2 _ S.TIz).trans (hk _ _ S.TIz S.TITO S.TIi1 S.TIi2 S.TIi3 hTI)
    · exact (sb.2 _ S.TOz).trans TO'
    · exact h1'.1.at fun o q => (sb.2 _ S.zi1.symm).trans q
    · exact h2'.1.at fun o q => (sb.2 _ S.zi2.symm).trans q
    · exact h3'.1.at fun o q => (sb.2 _ S.zi3.symm).trans q
    · have hlt : d < s.heap.objs.size := by
        have e' : d = z ∨ d = TI ∨ d = TO ∨ d = i1 ∨ d = i2 ∨ d = i3 := by simpa using hcm
        rcases e' with q | q | q | q | q | q
        · rw [q]; exact hzl
        · rw [q]; exact Heap.lt_size hTI
        · rw [q]; exact Heap.lt_size hTO
        · rw [q]; obtain ⟨_, e1, _⟩ := h1; exact Heap.lt_size e1
        · rw [q]; obtain ⟨_, e2, _⟩ := h2; exact Heap.lt_size e2
        · rw [q]; obtain ⟨_, e3, _⟩ := h3; exact Heap.lt_size e3
      rw [upd_ne (Nat.ne_of_lt hlt)]
      exact (hf d hcm).1
  done := by
    intro X hP hw hK hc i pins s σ H E I hf st hg
    subst hP hw hK
    obtain ⟨hz, hTI, ⟨a1, a2, a3, hTO⟩, h1, h2, h3⟩ := st
    obtain ⟨xs, ys, zs, hqx, hqy, hqz, hend⟩ := hg
    obtain ⟨its1, rv1, p1, _⟩ := I.tuple hqx
    obtain ⟨its2, rv2, p2, _⟩ := I.tuple hqy
    obtain ⟨its3, rv3, p3, _⟩ := I.tuple hqz
    have l1 := rv1.length
    have l2 := rv2.length
    have l3 := rv3.length
    have s1 : its1.toArray.size = xs.length := by simp; omega
    have s2 : its2.toArray.size = ys.length := by simp; omega
    have s3 : its3.toArray.size = zs.length := by simp; omega
    have hh : X.A.in1.handled = none := I.ok.hd hc
    have nt : ∀ {i a : Addr} {its : Array Value} {k : Nat}, s.heap.IsTuple a its → s.heap.IsTupleIter i a k → a ≠ i := fun {i a its k} p h e => by
      obtain ⟨o, ho, _⟩ := p; obtain ⟨o', ho', hc', _⟩ := h; subst e; rw [ho] at ho'; cases ho'; simp_all
    have D1 := Draws.tuple (prog := X.prog) (w := X.w) (A := X.A.in1) hh i1 a (nt p1 h1) its1.toArray
    have D2 := Draws.tuple (prog := X.prog) (w := X.w) (A := X.A.in1) hh i2 b (nt p2 h2) its2.toArray
    have D3 := Draws.tuple (prog := X.prog) (w := X.w) (A := X.A.in1) hh i3 c (nt p3 h3) its3.toArray
    exact wpAny_pyNext_zipD3_end S D1 D2 D3 hz hTI hTO ⟨h1, p1⟩ ⟨h2, p2⟩ ⟨h3, p3⟩ (by omega) (by omega) (by omega) (by omega) fun h' tk hk => ⟨rfl, I.turnedL (t' := tk) (ch := [z, TI, TO, i1, i2, i3]) (fun c o hb q =>
      hk c o (fun q' => hb (by simp [q'])) (fun q' => hb (by simp [q'])) (fun q' => hb (by simp [q'])) (fun q' => hb (by simp [q'])) (fun q' => hb (by simp [q'])) q) hf⟩
  self := fun A i s Q E st h => wpAny_pyIter_zip st.1 h
def YTri (xs ys zs : Nat → Option V) : Nat → Hp → V → Hp → Prop := fun i H v H' => ∃ T x y z, v = .ref T ∧ H T = none ∧ H' = upd H T (.tup [x, y, z]) ∧ xs i = some x ∧ ys i = some y ∧ zs i = some z
theorem walk_zip3 {K : PySem.W.Frag} {a b c : Addr} {xs ys zs : List V} : Walk (Itz3 K a b c) (min xs.length (min ys.length zs.length)) (fun H => SqT K H a xs ∧ SqT K H b ys ∧ SqT K H c zs) (YTri (fun i => xs[i]?) (fun i => ys[i]?) (fun i => zs[i]?)) := by
  refine ⟨fun i _ hi q => ?_, fun _ q => ⟨xs, ys, zs, q.1, q.2.1, q.2.2, rfl⟩, fun i H v H' _ q y => ?_⟩
  · have h1 : i < xs.length := by omega
    have h2 : i < ys.length := by omega
    have h3 : i < zs.length := by omega
    exact ⟨xs, ys, zs, xs[i], ys[i], zs[i], q.1, q.2.1, q.2.2, by simp [h1], by simp [h2], by simp [h3]⟩
  · obtain ⟨T, x, y, z, h1, h2, h3, h4, h5, h6⟩ := y
    exact ⟨T, x, y, z, h1, h2, h3, h4 xs q.1, h5 ys q.2.1, h6 zs q.2.2⟩
theorem tri_al {K : PySem.W.Frag} {F H H' : Hp} {T : Addr} {x y z : V} {d e f : PyData} (hT : H T = none) (e2 : Same F H) (hH : H' = upd H T (.tup [x, y, z])) (r1 : Rp K F x d) (r2 : Rp K F y e) (r3 : Rp K F z f) : ∃ F', Al F H F' H' ∧ Rp K F' (.ref T) (.tuple [d, e, f]) := by
  subst hH
  have s := same_new (o := .tup [x, y, z]) (free_of e2 hT)
  exact ⟨_, .new hT, .tup (.inl (.inl upd_same)) (.cons (r1.mono s) (.cons (r2.mono s) (.cons (r3.mono s) .nil)))⟩
theorem zipL3_len : ∀ (l m n : List PyData), (zipL3 l m n).length = min l.length (min m.length n.length)
  | [], m, n => by simp [zipL3]
  | a :: l, [], n => by simp [zipL3]
  | a :: l, b :: m, [] => by simp [zipL3]
  | a :: l, b :: m, c :: n => by simp only [zipL3, List.length_cons, zipL3_len]; omega
theorem zipL3_get : ∀ (l m n : List PyData) (i : Nat) (a b c : PyData), l[i]? = some a → m[i]? = some b → n[i]? = some c → (zipL3 l m n)[i]? = some (.tuple [a, b, c])
  | [], m, n, i, a, b, c, h, _, _ => by simp at h
  | a' :: l, [], n, i, a, b, c, _, h, _ => by simp at h
  | a' :: l, b' :: m, [], i, a, b, c, _, _, h => by simp at h
  | a' :: l, b' :: m, c' :: n, 0, a, b, c, h1, h2, h3 => by simp at h1 h2 h3; subst h1 h2 h3; rfl
  | a' :: l, b' :: m, c' :: n, i + 1, a, b, c, h1, h2, h3 => by
    simp at h1 h2 h3
    simp only [zipL3]
    rw [List.getElem?_cons_succ]
    exact zipL3_get l m n i a b c h1 h2 h3
section
variable {X : Cx} {C : Ct}
def iZip3 (K : PySem.W.Frag) (ta : TA) : TI := fun σ H R => ta σ H fun vs H1 => ∃ a b c xs ys zs, vs = [.ref a, .ref b, .ref c] ∧ SqT K H1 a xs ∧ SqT K H1 b ys ∧ SqT K H1 c zs ∧ R (Itz3 K a b c) H1
theorem pi_zip3 {e e2 e3 : Expr} {ta : TA} {p pos tpos : Pos} {elts : List Expr} {kk : Nat} (hg : Gl X "zip") (hm : X.mg "zip" = none) (ha : PA X [e, e2, e3] ta)
    (hs : starEach [e, e2, e3] X.env = (false, eval e X.env) :: starEach [e2, e3] X.env := by rfl) (hpl : (backTo pos (starEach [e2, e3] X.env)).any (·.1) = false := by rfl) :
    PI X (.Tuple elts kk tpos) (.Call (.Name "zip" p) [e, e2, e3] [] pos) (iZip3 X.K ta) := by
  refine ⟨fun pins s σ H R I h => ?_⟩
  refine Call_ (ld_blt I hg hm PyProof.Rows.boot_zip (PyProof.Rows.callWith_type1 (thn (ha.run pos pins s σ H _ I h) fun us s1 ⟨vs, H1, I1, r1, q1⟩ => ?_) hs hpl))
  obtain ⟨a, b, c, xs, ys, zs, ex, hqx, hqy, hqz, q⟩ := q1
  subst ex
  cases r1 with
  | cons r rr =>
    cases rr with
    | cons r' rr =>
      cases rr with
      | cons r'' rr =>
        cases rr
        cases r
        cases r'
        cases r''
        have fresh6 : ∀ d, d ∈ [s1.heap.objs.size + 5, s1.heap.objs.size + 3, s1.heap.objs.size + 4, s1.heap.objs.size, s1.heap.objs.size + 1, s1.heap.objs.size + 2] → FpOk X pins H1 d := fun d hcm => by
          have e' : d = s1.heap.objs.size + 5 ∨ d = s1.heap.objs.size + 3 ∨ d = s1.heap.objs.size + 4 ∨ d = s1.heap.objs.size ∨ d = s1.heap.objs.size + 1 ∨ d = s1.heap.objs.size + 2 := by simpa using hcm
          have hle : s1.heap.objs.size ≤ d := by
            rcases e' with z | z | z | z | z | z
            · rw [z]; exact Nat.le_add_right _ _
            · rw [z]; exact Nat.le_add_right _ _
            · rw [z]; exact Nat.le_add_right _ _
            · rw [z]; exact Nat.le_refl _
            · rw [z]; exact Nat.le_add_right _ _
            · rw [z]; exact Nat.le_add_right _ _
          exact I1.fpOk hle (I1.hok.fresh hle)
        obtain ⟨its1, rv1, p1, _⟩ := I1.tuple hqx
        obtain ⟨its2, rv2, p2, _⟩ := I1.tuple hqy
        obtain ⟨its3, rv3, p3, _⟩ := I1.tuple hqz
        have lt1 : a < s1.heap.objs.size := by obtain ⟨o, ho, _⟩ := id p1; exact Heap.lt_size ho
        have lt2 : b < s1.heap.objs.size := by obtain ⟨o, ho, _⟩ := id p2; exact Heap.lt_size ho
        have lt3 : c < s1.heap.objs.size := by obtain ⟨o, ho, _⟩ := id p3; exact Heap.lt_size ho
        refine zip_begins3 (begins_tuple a its1.toArray) (begins_tuple b its2.toArray) (begins_tuple c its3.toArray) p1 p2 p3 fun h' hz hTI hTO h1 h2 h3 hsz hk => wpAny_pyIter_zip hz ?_
        have I2 : L2.Inv X pins σ H1 { s1 with heap := h' } := I1.kept (t' := s1.toks) hk
        have sep : ZipSep3 (s1.heap.objs.size + 5) (s1.heap.objs.size + 3) (s1.heap.objs.size + 4) s1.heap.objs.size (s1.heap.objs.size + 1) (s1.heap.objs.size + 2) [s1.heap.objs.size, a] [s1.heap.objs.size + 1, b] [s1.heap.objs.size + 2, c] :=
          zip_sep3 (fp1 := [a]) (fp2 := [b]) (fp3 := [c]) (fun d h => by rw [List.mem_singleton.mp h]; exact lt1) (fun d h => by rw [List.mem_singleton.mp h]; exact lt2) (fun d h => by rw [List.mem_singleton.mp h]; exact lt3)
        exact ⟨s1.heap.objs.size + 5, [s1.heap.objs.size + 5, s1.heap.objs.size + 3, s1.heap.objs.size + 4, s1.heap.objs.size, s1.heap.objs.size + 1, s1.heap.objs.size + 2], _, _, H1, rfl, I2, turn_zip3 sep, ⟨hz, hTI, ⟨_, _, _, hTO⟩, ⟨_, h1, rfl, rfl⟩, ⟨_, h2, rfl, rfl⟩, ⟨_, h3, rfl, rfl⟩⟩, fresh6, q⟩
theorem pdi_zip3 {elts : List Expr} {kk : Nat} {tpos : Pos} {e e2 e3 : Expr} {p pos : Pos} {m : MA} (t : PI X (.Tuple elts kk tpos) (.Call (.Name "zip" p) [e, e2, e3] [] pos) (iZip3 X.K (tDA X.K C m))) :
    PI X (.Tuple elts kk tpos) (.Call (.Name "zip" p) [e, e2, e3] [] pos) (tDI X.K C (miZip3 m)) := pi_imp t (by
  rintro σ H R0 ⟨F, sd, Qd, R, h, k⟩
  refine ⟨F, sd, _, R, h, fun vs H1 F1 ds sd1 R1 S1 rs q => ?_⟩
  obtain ⟨xs, ys, zs, rfl, q⟩ := q
  cases rs with
  | cons r rs =>
    cases rs with
    | cons r' rs =>
      cases rs with
      | cons r'' rs =>
        cases rs
        cases r with
        | @tup a xs' _ h1 r1 =>
          cases r' with
          | @tup b ys' _ h2 r2 =>
            cases r'' with
            | @tup c zs' _ h3 r3 =>
              refine ⟨_, _, _, _, _, _, rfl, same_t R1.ext h1, same_t R1.ext h2, same_t R1.ext h3, k _ H1 F1 _ sd1 R1 S1 ?_ q⟩
              have hl : (zipL3 xs ys zs).length = min xs'.length (min ys'.length zs'.length) := by rw [zipL3_len, r1.length, r2.length, r3.length]
              refine ⟨fun H => SqT X.K H a xs' ∧ SqT X.K H b ys' ∧ SqT X.K H c zs', YTri (fun i => xs'[i]?) (fun i => ys'[i]?) (fun i => zs'[i]?), by rw [hl]; exact walk_zip3, fun H e => ⟨same_t e h1, same_t e h2, same_t e h3⟩, fun i H x H' F' hi e1 e2 y => ?_⟩
              obtain ⟨T, x1, x2, x3, rfl, hT, hH, y1, y2, y3⟩ := y
              obtain ⟨d1, hd1, rd1⟩ := rpA_at r1 y1
              obtain ⟨d2, hd2, rd2⟩ := rpA_at r2 y2
              obtain ⟨d3, hd3, rd3⟩ := rpA_at r3 y3
              obtain ⟨F2, al, rr⟩ := tri_al hT e2 hH (rd1.mono e1) (rd2.mono e1) (rd3.mono e1)
              exact ⟨F2, _, al, zipL3_get _ _ _ _ _ _ _ hd1 hd2 hd3, rr⟩)
end
end DL
namespace DL
open PySem PySem.Spec PyProof.Rows L2
/-- a op b op' c op'' d -/
def tChain3 (r r' r'' : R2) (ta tb tc td : TE) : TE := fun σ H Q => ta σ H fun x H1 => tb σ H1 fun y H2 => r x y H2 fun z H3 => ∃ k, z = .bl k ∧
  (if k = true then tc σ H3 fun w H4 => r' y w H4 fun z2 H5 => ∃ k2, z2 = .bl k2 ∧ (if k2 = true then td σ H5 fun u H6 => r'' w u H6 Q else Q (.bl false) H5) else Q (.bl false) H3)
def mChain3 (f g h : PyData → PyData → Option PyData) (ma mb mc md : ME) : ME := fun sd Q => ma sd fun a s1 => mb s1 fun b s2 => ∃ c, f a b = some (.bool c) ∧
  if c = true then mc s2 fun d s3 => ∃ c2, g b d = some (.bool c2) ∧ if c2 = true then md s3 fun e s4 => ∃ r, h d e = some r ∧ Q r s4 else Q (.bool false) s3 else Q (.bool false) s2
section
variable {K : PySem.W.Frag} {X : Cx} {C : Ct}
theorem pe_chain3 {op op' op'' : CmpOp} {r r' r'' : R2} {a b c d : Expr} {ta tb tc td : TE} {pos : Pos} (ho : OpR X (compareOp op) r) (ho' : OpR X (compareOp op') r') (ho'' : OpR X (compareOp op'') r'') (ha : PE X a ta) (hb : PE X b tb) (hc : PE X c tc) (hd : PE X d td)
    (hm : lastMarks [op, op', op''] [b, c, d] = false := by with_unfolding_all rfl) : PE X (.Compare a [op, op', op''] [b, c, d] pos) (tChain3 r r' r'' ta tb tc td) := by
  refine ⟨fun pins s σ H Q I h => ?_⟩
  refine Compare_chain (thn (ha.run pins s σ H _ I h) fun v s1 ⟨x, H1, I1, r1, q1⟩ => chain_link (thn (hb.run pins s1 σ H1 _ I1 q1) fun u s2 ⟨y, H2, I2, r2, q2⟩ =>
    thn (ho pins s2 σ H2 x y v u _ I2 r1 r2 q2) fun d0 s3 ⟨z, H3, I3, r3, k, e, q3⟩ => ?_)) hm
  subst e
  cases r3
  refine wpAny_truthy_bool ?_
  cases k with
  | false => exact ite_ff ⟨.bl false, H3, I3, rfl, q3⟩
  | true =>
    refine ite_tt (chain_link (thn (hc.run pins s3 σ H3 _ I3 q3) fun w' s4 ⟨z', H4, I4, r4, q4⟩ => thn (ho' pins s4 σ H4 y z' u w' _ I4 r2 r4 q4) fun d1 s5 ⟨z2, H5, I5, r5, k2, e2, q5⟩ => ?_))
    subst e2
    cases r5
    refine wpAny_truthy_bool ?_
    cases k2 with
    | false => exact ite_ff ⟨.bl false, H5, I5, rfl, q5⟩
    | true => exact ite_tt (chain_last (thn (hd.run pins s5 σ H5 _ I5 q5) fun w2 s6 ⟨z3, H6, I6, r6, q6⟩ => ho'' pins s6 σ H6 z' z3 w' w2 Q I6 r4 r6 q6))
theorem pd_chain3 {op op' op''} {r r' r'' : R2} {f g f3 : PyData → PyData → Option PyData} {a b c d : Expr} {ma mb mc md : ME} {pos : Pos} (ho : OpR X (compareOp op) r) (ho' : OpR X (compareOp op') r') (ho'' : OpR X (compareOp op'') r'') (L : RL2 X.K r f) (L' : RL2 X.K r' g) (L'' : RL2 X.K r'' f3)
    (ha : PE X a (tD X.K C ma)) (hb : PE X b (tD X.K C mb)) (hc : PE X c (tD X.K C mc)) (hd : PE X d (tD X.K C md)) (hm : lastMarks [op, op', op''] [b, c, d] = false := by with_unfolding_all rfl) :
    PE X (.Compare a [op, op', op''] [b, c, d] pos) (tD X.K C (mChain3 f g f3 ma mb mc md)) := pe_imp (pe_chain3 ho ho' ho'' ha hb hc hd hm) (by
  rintro σ H Q ⟨F, sd, Qd, R, h, k⟩
  refine ⟨F, sd, _, R, h, fun x H1 F1 a sd1 R1 S1 rx h1 => ⟨F1, sd1, _, R1, h1, fun y H2 F2 b sd2 R2 S2 ry h2 => ?_⟩⟩
  obtain ⟨cc, e, q⟩ := h2
  refine L F2 H2 x y a b (.bool cc) _ R2.ext (fun p => R2.free) (rx.mono S2.fr) ry e fun v F' H' al rz => ?_
  cases rz
  refine ⟨cc, rfl, ?_⟩
  have S' := (S1.trans S2).trans (.al R2 al)
  cases cc with
  | false => exact k (.bl false) H' F' _ sd2 (R2.al al) S' (.bl false) q
  | true =>
    refine ⟨F', sd2, _, R2.al al, q, fun w H3 F3 d sd3 R3 S3 rw_ h3 => ?_⟩
    obtain ⟨cc2, e2, q2⟩ := h3
    refine L' F3 H3 y w b d (.bool cc2) _ R3.ext (fun p => R3.free) (ry.mono ((Stp.al R2 al).fr.trans S3.fr)) rw_ e2 fun v F4 H4 al2 rz2 => ?_
    cases rz2
    refine ⟨cc2, rfl, ?_⟩
    have S3' := (S'.trans S3).trans (.al R3 al2)
    cases cc2 with
    | false => exact k (.bl false) H4 F4 _ sd3 (R3.al al2) S3' (.bl false) q2
    | true =>
      refine ⟨F4, sd3, _, R3.al al2, q2, fun w2 H5 F5 d2 sd5 R5 S5 rw2 h5 => ?_⟩
      obtain ⟨z3, e3, q3⟩ := h5
      exact L'' F5 H5 w w2 d d2 z3 _ R5.ext (fun p => R5.free) (rw_.mono ((Stp.al R3 al2).fr.trans S5.fr)) rw2 e3 fun v F6 H6 al3 rz3 => k v H6 F6 z3 sd5 (R5.al al3) ((S3'.trans S5).trans (.al R5 al3)) rz3 q3)
end
def insI (x : Int) : List Int → List Int
  | [] => [x]
  | y :: ys => if x ≤ y then x :: y :: ys else y :: insI x ys
def srtI : List Int → List Int
  | [] => []
  | x :: xs => insI x (srtI xs)
theorem insI_perm (x : Int) : ∀ xs, (insI x xs).Perm (x :: xs)
  | [] => .refl _
  | y :: ys => by
    unfold insI
    split
    · exact .refl _
    · exact ((insI_perm x ys).cons y).trans (.swap x y ys)
theorem srtI_perm : ∀ xs, (srtI xs).Perm xs
  | [] => .refl _
  | x :: xs => (insI_perm x _).trans ((srtI_perm xs).cons x)
theorem insI_sorted (x : Int) : ∀ xs : List Int, xs.Pairwise (· ≤ ·) → (insI x xs).Pairwise (· ≤ ·)
  | [], _ => by unfold insI; exact List.pairwise_singleton _ _
  | y :: ys, h => by
    obtain ⟨h1, h2⟩ := List.pairwise_cons.mp h
    unfold insI
    split
    · rename_i le
      refine List.pairwise_cons.mpr ⟨fun z hz => ?_, h⟩
      rcases List.mem_cons.mp hz with rfl | hz
      · exact le
      · exact Int.le_trans le (h1 z hz)
    · rename_i le
      refine List.pairwise_cons.mpr ⟨fun z hz => ?_, insI_sorted x ys h2⟩
      rcases List.mem_cons.mp ((insI_perm x ys).mem_iff.mp hz) with rfl | hz
      · omega
      · exact h1 z hz
theorem srtI_sorted : ∀ xs : List Int, (srtI xs).Pairwise (· ≤ ·)
  | [] => List.Pairwise.nil
  | x :: xs => insI_sorted x _ (srtI_sorted xs)
theorem sorted_uniq : ∀ {xs ys : List Int}, xs.Perm ys → xs.Pairwise (· ≤ ·) → ys.Pairwise (· ≤ ·) → xs = ys := by
  intro xs ys p h1 h2
  exact p.eq_of_pairwise (le := (· ≤ ·)) (fun a b _ _ h1 h2 => by have : a ≤ b := h1; have : b ≤ a := h2; omega) h1 h2
def bSrtI : List PyData → Option PyData
  | [.list xs] => (ints? xs).map fun ns => .list ((srtI ns).map .int)
  | _ => none
section
variable {K : PySem.W.Frag}
theorem rpA_ints {F : Hp} : ∀ ns : List Int, RpA K F (ns.map V.int) (ns.map .int)
  | [] => .nil
  | n :: ns => .cons (.int n) (rpA_ints ns)
theorem rc_srtI : RLC K (rSortedI K) bSrtI := by
  intro F H xs as z Q e f rx h k
  unfold bSrtI at h
  split at h
  · obtain ⟨x, rfl, r⟩ := rpA1 rx
    rename_i ds
    cases en : ints? ds with
    | none => rw [en] at h; cases h
    | some ns =>
      rw [en] at h
      cases h
      cases r with
      | lst h1 r1 =>
        rw [ints_rp r1 en] at h1
        refine ⟨_, ns, rfl, .inl (.inl (e _ _ h1)), fun ns' p pm so hp => ?_⟩
        have : ns' = srtI ns := sorted_uniq (pm.trans (srtI_perm ns).symm) so (srtI_sorted ns)
        subst this
        exact k _ _ _ (.new hp) (.lst upd_same (rpA_ints _))
  · cases h
end
end DL
namespace DL
open PySem PySem.Spec PyProof.Rows L2
def mCallWT (spec : WSpec) (i : Nat) (me : ME) : ME := fun sd Q => mWell i me sd fun r s1 => ∃ n, r = .well n ∧ spec n [] fun r n' => ∃ d, fz r = some d ∧ Q d s1
section
variable {K : PySem.W.Frag} {X : Cx} {C : Ct} {F H F' H' F0 H0 : Hp} {σ : L2.St} {sd sd0 : DSt}
theorem Rs.postT {n' : Nat} {p : Addr} (R : Rs K C F H σ sd) (hp : ∃ o, H p = some o) (no : ¬ Owned σ sd p) (hc : C.H0 p = none) (hF : F p = none) (P : PostW K p F H F' H' n') (S1 : Stp σ sd0 F0 H0 F H sd) (h0 : H0 p = none) :
    Rs K C F' H' σ sd ∧ Stp σ sd0 F0 H0 F' H' sd := by
  obtain ⟨o0, hp⟩ := hp
  obtain ⟨a2, b2, c2, w1, w2⟩ := P.wl
  have ns : ∀ a, H' a = none → H a = none := fun a z => by
    by_cases za : a = p
    · subst za; rw [w1] at z; cases z
    · cases q : H a with
      | none => rfl
      | some o => rw [P.kp a o za q] at z; cases z
  refine ⟨⟨R.len, R.grow.trans P.fr, P.ext, fun a o q => ?_, fun a o q n => ?_, fun a z => R.still a (ns a z), fun j => ?_, R.sep⟩, ⟨S1.fr.trans P.fr, fun a o q n => ?_, S1.ow, fun a o q => ?_, fun a e => S1.st a (ns a e)⟩⟩
  · rcases P.nw a o q with q | q
    · exact R.new a o q
    · exact .inr (R.still a q)
  · refine P.kp a o (fun z => ?_) (R.keep a o q n)
    subst z
    rw [hc] at q; cases q
  · refine (R.slot j).grow P.fr fun q x ho eq eh en => ⟨P.kp q x (fun z => no (z ▸ ⟨j, ho, eq⟩)) eh, ?_⟩
    cases z : F' q with
    | none => rfl
    | some y =>
      rcases P.nw q y z with z | z
      · rw [en] at z; cases z
      · rw [eh] at z; cases z
  · refine P.kp a o (fun z => ?_) (S1.kp a o q n)
    subst z
    rw [h0] at q; cases q
  · rcases P.nw a o q with q | q
    · exact S1.nw a o q
    · exact .inr (.inl (S1.st a q))
theorem td_callWT {spec : WSpec} {i : Nat} {me : ME} {E : L2.St → XK} : ∀ σ H Q, tD K C (mCallWT spec i me) σ H Q → tCallG (spW K spec) E (tCons (tDR K C (mWell i me)) tNil) σ H Q := by
  rintro σ H Q ⟨F, sd, Qd, R, h, k⟩
  refine ⟨F, sd, _, R, h, fun v H1 F1 r sd1 R1 S1 rv nown fresh q => ?_⟩
  obtain ⟨n, rfl, q⟩ := q
  obtain ⟨p, a, b, c, e1, z2, z3, z4, z5⟩ := rv
  cases e1
  have nw := nown rfl p rfl
  have h0 := fresh rfl p rfl
  refine ⟨F1, p, [], n, a, b, c, [], _, rfl, R1.ext, z3, z2, z5, .nil, q, fun v H' F' r n' P ro q => ?_⟩
  obtain ⟨d, hf, q⟩ := q
  obtain ⟨R2, S2⟩ := R1.postT ⟨_, z2⟩ nw (R.still p h0) z3 P S1 h0
  obtain ⟨F2, R3, S3, rp⟩ := R2.res S2 ro (fun p hp => ⟨S1.st p hp, fun z => (R1.fresh hp).1 z, (R1.fresh hp).2⟩) hf
  exact k v H' F2 d _ R3 S3 rp q
theorem pd_callWT {spec : WSpec} {i : Nat} {me : ME} {x : Str} {p pos : Pos} {ew : Expr} {k j : Nat} {W : WX} (c : CalW X.prog X.w X.K X.mg X.base k x spec) (hr : RoomG j X.A) (hk : k ≤ j) (tk : Takes X W) (hy : PE X ew (tDR X.K C (mWell i me))) (hg : Gl X x := by rfl)
    (hdb : (x == ("__debug__" : Str)) = false := by decide) (he : starEach (ew :: []) X.env = (false, eval ew X.env) :: starEach [] X.env := by rfl) (hpl : (backTo pos (starEach [] X.env)).any (·.1) = false := by rfl) :
    PE X (.Call (.Name x p) [ew] [] pos) (tD X.K C (mCallWT spec i me)) := by
  obtain ⟨f, fd, ps, F, hm, hkp, hb⟩ := c.ex
  exact pe_imp (pe_callG F (hr.mono hk) hg hm hkp hb (passAt tk) (pa_cons hy pa_nil he) hdb he hpl) td_callWT
end
end DL
namespace DL
open PySem PySem.Spec PyProof.Rows L2
/-- xs[e] of a list that nobody else holds, which stays so -/
def mIxOwn (i : Nat) (me : ME) : ME := fun sd Q => (∃ ds, sget sd i = .own ds) ∧ me sd fun j s1 => ∃ ds n d, sget s1 i = .own ds ∧ j = .int n ∧ atI ds n = some d ∧ Q d s1
section
variable {X : Cx} {C : Ct}
theorem pd_ixOwn {i : Nat} {mb : ME} {y : Str} {p2 pos : Pos} {b : Expr} (hy : PE X (.Name y p2) (tVar i)) (hb : PE X b (tD X.K C mb)) (hs : PlainIx b := by exact fun _ _ => rfl) :
    PE X (.Subscript (.Name y p2) b pos) (tD X.K C (mIxOwn i mb)) := pe_imp (pe_ix ix_seq hy hb hs) (by
  rintro σ H Q ⟨F, sd, Qd, R, ⟨⟨ds0, h0⟩, h⟩, k⟩
  have hi := R.slot i
  rw [h0] at hi
  obtain ⟨p, vs0, e1, _⟩ := hi
  refine ⟨.ref p, gv_some.mp e1, F, sd, _, R, h, fun v H1 F1 j sd1 R1 S1 rj q => ?_⟩
  obtain ⟨ds, n, d, hs1, rfl, hat, q⟩ := q
  have hi1 := R1.slot i
  rw [hs1] at hi1
  obtain ⟨p', vs, z1, z2, z3, z4, rs⟩ := hi1
  rw [e1] at z1; cases z1
  cases rj
  obtain ⟨w, e2, r⟩ := atI_rpA rs hat
  exact .inl ⟨_, _, _, w, rfl, rfl, .inl (.inl z2), e2, k w H1 F1 d sd1 R1 S1 r q⟩)
end
theorem if_runC {t : MT} {x y : MS} {D : DE} {sd : DSt} (c : Bool) (sd2 : DSt) (ht : ∀ Q : Bool → DSt → Prop, Q c sd2 → t sd Q) (h : if c = true then x D sd2 else y D sd2) : mIf t x y D sd := ht _ h
end DL
namespace DL
open PySem PySem.Spec PyProof.Rows L2
section
variable {prog : Program} {w : World} {A : Around} {E : Value → Shared → Prop} {s : Shared}
theorem args_max3 (a b c : Value) : argsOk "max" ⟨[a, b, c], []⟩ := by unfold argsOk; kernel_rfl
theorem call_max_three {a b c : Value} {Q : Value → Shared → Prop}
    (h : wpAny (model prog w) A.in1 (pyIter (.ref s.heap.objs.size)) (fun it s₂ => ∃ I fp wr n P St bt, it = .ref I ∧ Walks prog w A.in1 I fp wr n P St ∧ St 0 s₂.heap ∧ (∀ b ∈ fp, b < s₂.heap.objs.size) ∧ 0 < n ∧ CmpOf prog w A.in1 .Gt P bt ∧
      ∀ v h' tk, P (argBest bt (n - 1)) v → (∀ b o, b ∉ wr → s₂.heap.get? b = some o → h'.get? b = some o) → Q v { s₂ with heap := h', toks := tk }) E
      { s with heap := s.heap.push { cls := .type "tuple", data := .seq #[a, b, c] } }) :
    wpAny (model prog w) A (call (.builtin "max") [a, b, c]) Q E s := by
  have hname : (toString "max" ++ toString ".loop" : String) = "max.loop" := by decide
  refine call_function_tree F.kind_max F.plain_max F.entry_max (args_max3 _ _ _) ?_
  show wpAny _ A.in1 (Builtin.Builtins.bindParams "max" ["key", "default"] 0 ⟨[], []⟩ >>= _) _ _ s
  refine wpAny_bind (wpAny_of_eq (show Builtin.Builtins.bindParams "max" ["key", "default"] 0 ⟨[], []⟩ = pure [none, none] from rfl) ?_)
  show wpAny _ A.in1 (newTuple [a, b, c] >>= _) _ _ s
  refine wpAny_bind (wpAny_newObj_type ?_)
  refine wpAny_bind (wpAny_mono h (fun it s₂ h₂ => ?_) fun _ _ e => e)
  obtain ⟨I, fp, wr, n, P, St, bt, rfl, W, hst, hfp, hn, hcmp, hQ⟩ := h₂
  refine wpAny_bind (wpAny_newObj_type ?_)
  have hSf : s₂.heap.objs.size ∉ fp := fun hm => Nat.lt_irrefl _ (hfp _ hm)
  rw [hname]
  refine wpAny_pure ⟨plainId_quiet F.plain_max_loop _, codeAny_max_loop_first W bt hcmp s₂.heap.objs.size hSf hn (W.frame _ _ _ hst fun b _ o e => Heap.get?_push_of_some _ e) (Heap.get?_push_size _ rfl) fun v h' tk hP hk => ?_⟩
  exact hQ v h' tk hP fun b o hbw e => hk b o hbw (Nat.ne_of_lt (Heap.lt_size e)) (Heap.get?_push_of_some _ e)
def max3 (a b c : Int) : Int := if b > a then (if c > b then c else b) else (if c > a then c else a)
theorem max_three_ints {a b c : Int} {t u x : Tok} {Q : Value → Shared → Prop} (hh : A.handled = none)
    (h : ∀ h' tk y, (∀ c o, s.heap.get? c = some o → h'.get? c = some o) → Q (.int (max3 a b c) y) { s with heap := h', toks := tk }) :
    wpAny (model prog w) A (call (.builtin "max") [.int a t, .int b u, .int c x]) Q E s := by
  have hT : (s.heap.push { cls := .type "tuple", data := .seq #[.int a t, .int b u, .int c x] }).IsTuple s.heap.objs.size (intItems #[(a, t), (b, u), (c, x)]) := ⟨_, Heap.get?_push_size _ rfl, rfl, 0, by simp [intItems]⟩
  refine call_max_three (wpAny_pyIter_tuple hT ?_)
  have hsz : (s.heap.push { cls := .type "tuple", data := .seq #[.int a t, .int b u, .int c x] }).objs.size = s.heap.objs.size + 1 := Heap.size_push ..
  refine ⟨_, [_, s.heap.objs.size], [_], _, _, _, _, rfl, Walks.tuple (A := A.in1) hh _ s.heap.objs.size (by rw [hsz]; exact Nat.ne_of_lt (Nat.lt_succ_self _)) (intItems #[(a, t), (b, u), (c, x)]),
    ⟨⟨_, Heap.get?_push_size _ rfl, rfl, rfl⟩, hT.push _⟩, fun d hd => ?_, by simp [intItems], CmpOf.ints_gt (numAt #[(a, t), (b, u), (c, x)]) (fun _ _ => intItems_at), fun v h' tk hP hk => ?_⟩
  · show d < ((s.heap.push _).push _).objs.size
    rw [Heap.size_push, hsz]
    rcases List.mem_cons.mp hd with rfl | hd
    · rw [hsz]; exact Nat.lt_succ_self _
    · rcases List.mem_cons.mp hd with rfl | hd
      · exact Nat.lt_succ_of_lt (Nat.lt_succ_self _)
      · cases hd
  · have hold : ∀ c o, s.heap.get? c = some o → h'.get? c = some o := fun c o e => by
      refine hk c o (fun hm => ?_) (Heap.get?_push_of_some _ (Heap.get?_push_of_some _ e))
      rcases List.mem_cons.mp hm with e1 | hm
      · have := Heap.lt_size e; rw [e1, hsz] at this; exact Nat.lt_irrefl _ (Nat.lt_of_succ_lt this)
      · cases hm
    have hv : ∃ y, v = Value.int (max3 a b c) y := by
      have hP' : (intItems #[(a, t), (b, u), (c, x)])[argBest (fun i j => decide (numAt #[(a, t), (b, u), (c, x)] i > numAt #[(a, t), (b, u), (c, x)] j)) 2]? = some v := by
        have hsz2 : (intItems #[(a, t), (b, u), (c, x)]).size - 1 = 2 := by simp [intItems]
        rw [← hsz2]; exact hP
      unfold max3
      by_cases h1 : b > a
      · rw [if_pos h1]
        by_cases h2 : c > b
        · have e : argBest (fun i j => decide (numAt #[(a, t), (b, u), (c, x)] i > numAt #[(a, t), (b, u), (c, x)] j)) 2 = 2 := by simp [argBest, numAt, h1, h2]
          rw [e] at hP'
          rw [if_pos h2]
          exact ⟨x, by simpa [intItems] using hP'.symm⟩
        · have e : argBest (fun i j => decide (numAt #[(a, t), (b, u), (c, x)] i > numAt #[(a, t), (b, u), (c, x)] j)) 2 = 1 := by simp [argBest, numAt, h1, h2]
          rw [e] at hP'
          rw [if_neg h2]
          exact ⟨u, by simpa [intItems] using hP'.symm⟩
      · rw [if_neg h1]
        by_cases h2 : c > a
        · have e : argBest (fun i j => decide (numAt #[(a, t), (b, u), (c, x)] i > numAt #[(a, t), (b, u), (c, x)] j)) 2 = 2 := by simp [argBest, numAt, h1, h2]
          rw [e] at hP'
          rw [if_pos h2]
          exact ⟨x, by simpa [intItems] using hP'.symm⟩
        · have e : argBest (fun i j => decide (numAt #[(a, t), (b, u), (c, x)] i > numAt #[(a, t), (b, u), (c, x)] j)) 2 = 0 := by simp [argBest, numAt, h1, h2]
          rw [e] at hP'
          rw [if_neg h2]
          exact ⟨t, by simpa [intItems] using hP'.symm⟩
    obtain ⟨y, rfl⟩ := hv
    exact h h' tk y hold
end
section
variable {X : Cx} {K : PySem.W.Frag}
def bMax3 : List PyData → Option PyData
  | [.int i, .int j, .int k] => some (.int (max3 i j k))
  | _ => none
theorem bMax3_i (a b c : Int) : bMax3 [.int a, .int b, .int c] = some (.int (max3 a b c)) := rfl
def rMax3 : List V → Hp → VK → Prop := fun xs H Q => ∃ i j k, xs = [V.int i, V.int j, V.int k] ∧ Q (.int (max3 i j k)) H
theorem cr_max3 (hc : X.calm = true) : CallR X (.builtin "max") rMax3 := by
  intro pins s σ H xs us Q I r h
  obtain ⟨i, j, k, rfl, q⟩ := h
  cases r with
  | cons r1 r2 =>
    obtain ⟨u, w', rfl, ⟨t2, rfl⟩, ⟨t3, rfl⟩⟩ := vals2 r2
    obtain ⟨t1, rfl⟩ := r1
    exact max_three_ints (I.ok.hd hc) fun h' tk y k' => ⟨.int (max3 i j k), H, I.kept k', ⟨y, rfl⟩, q⟩
theorem rc_max3 : RLC K rMax3 bMax3 := by
  intro F H xs as z Q e _ rx h k
  unfold bMax3 at h
  split at h
  · cases rx with
    | cons r0 rx =>
      obtain ⟨x, y, rfl, r1, r2⟩ := rpA2 rx
      cases h
      cases r0; cases r1; cases r2
      exact ⟨_, _, _, rfl, k _ F H .id (.int _)⟩
  · cases h
theorem max3_le (a b c : Int) : a ≤ max3 a b c ∧ b ≤ max3 a b c ∧ c ≤ max3 a b c ∧ (max3 a b c = a ∨ max3 a b c = b ∨ max3 a b c = c) := by
  unfold max3
  split <;> split <;> omega
end
end DL
namespace DL
open PySem PySem.Spec PyProof.Rows L2
abbrev OT := Option (Int × Int)
def toT : OT → PyData
  | none => .none
  | some t => .tuple [.int t.1, .int t.2]
theorem toT_datum (o : OT) : PySem.W.Datum.toD o = toT o := by cases o <;> rfl
def idxT (t : OT) (os : List OT) : Nat := @List.idxOf OT instBEqOfDecidableEq t os
theorem idxT_get {t : OT} {os : List OT} (h : t ∈ os) : os[idxT t os]? = some t := by
  have hl : idxT t os < os.length := (@List.idxOf_lt_length_iff OT instBEqOfDecidableEq _ _ _).mpr h
  rw [List.getElem?_eq_getElem hl]
  exact congrArg some (@List.getElem_idxOf OT instBEqOfDecidableEq _ _ _ hl)
theorem idxOf_first {α : Type} [BEq α] [LawfulBEq α] {t : α} {os : List α} {j : Nat} (h : os[j]? = some t) : os.idxOf t ≤ j := by
  induction os generalizing j with
  | nil => simp at h
  | cons o os ih =>
    rw [List.idxOf_cons]
    by_cases c : o = t
    · subst c
      simp
    · rw [beq_false_of_ne c]
      cases j with
      | zero => exact absurd (Option.some.inj h) c
      | succ j =>
        have := ih (j := j) (by simpa using h)
        simp only [cond_false]
        omega
theorem idxT_first {t : OT} {os : List OT} {j : Nat} (h : os[j]? = some t) : idxT t os ≤ j := @idxOf_first OT instBEqOfDecidableEq _ _ _ _ h
def unT : PyData → Option OT
  | .none => some none
  | .tuple [.int a, .int b] => some (some (a, b))
  | _ => none
def unTs : List PyData → Option (List OT)
  | [] => some []
  | d :: ds => match unT d, unTs ds with
    | some o, some os => some (o :: os)
    | _, _ => none
theorem unT_of {d : PyData} {o : OT} (h : unT d = some o) : d = toT o := by
  unfold unT at h
  split at h
  · cases h; rfl
  · cases h; rfl
  · cases h
theorem unTs_of : ∀ {ds : List PyData} {os : List OT}, unTs ds = some os → ds = os.map toT
  | [], os, h => by cases h; rfl
  | d :: ds, os, h => by
    unfold unTs at h
    split at h
    · rename_i o os' h1 h2
      cases h
      rw [unT_of h1, unTs_of h2]
      rfl
    · cases h
theorem unT_to (o : OT) : unT (toT o) = some o := by cases o <;> rfl
theorem unTs_to : ∀ os : List OT, unTs (os.map toT) = some os
  | [] => rfl
  | o :: os => by
    show (match unT (toT o), unTs (os.map toT) with | some o, some os => some (o :: os) | _, _ => none) = _
    rw [unT_to, unTs_to os]
def opIdxP (ds : List PyData) (b : PyData) : Option PyData := match unTs ds, unT b with
  | some os, some t => if t ∈ os ∧ os.length ≤ 100000 then some (.int (idxT t os : Nat)) else none
  | _, _ => none
theorem opIdxP_is {os : List OT} {t : OT} (h : t ∈ os) (hl : os.length ≤ 100000) : opIdxP (os.map toT) (toT t) = some (.int (idxT t os : Nat)) := by
  unfold opIdxP
  rw [unTs_to, unT_to]
  exact if_pos ⟨h, hl⟩
theorem dE_toT (o : OT) : dE (toT o) = true := by cases o <;> rfl
theorem dEs_toT : ∀ os : List OT, dEs (os.map toT) = true
  | [] => rfl
  | o :: os => by
    show (dE (toT o) && dEs (os.map toT)) = true
    rw [dE_toT, dEs_toT os]
    rfl
section
variable {K : PySem.W.Frag} {X : Cx} {C : Ct}
def rIndexP (K : PySem.W.Frag) : V → List V → Hp → VK → Prop := fun x xs H Q => ∃ (F : Hp) (p : Addr) (vs : List V) (y : V) (os : List OT) (t : OT), x = .ref p ∧ xs = [y] ∧ Same F H ∧ SqL K H p vs ∧ RpA K F vs (os.map toT) ∧ Rp K F y (toT t) ∧ t ∈ os ∧ os.length ≤ 100000 ∧ Q (.int (idxT t os : Nat)) H
theorem mt_indexP (hu : X.A.units + 64 < cLine) : MtR X "list.index" (rIndexP X.K) := by
  intro pins s σ H x xs v us Q I rx rxs h
  obtain ⟨F, p, vs, y, os, t, rfl, rfl, e, hs, ra, ry, ht, hl, q⟩ := h
  cases rx
  obtain ⟨u, rfl, ru⟩ := vals1 rxs
  obtain ⟨its, rv, hil, _⟩ := I.list hs
  obtain ⟨as, rd, _⟩ := RpA.reads I e _ _ _ ra rv (dEs_toT os)
  obtain ⟨bs, rb, _⟩ := Rp.reads I e _ _ _ ry ru (dE_toT t)
  refine PySem.W.index_list_datum (α := OT) (xs := os) (x := t) hil.isList ⟨as, ?_⟩ ⟨bs, ?_⟩ ?_ (Nat.le_trans hl (by decide)) ht ?_
  · rw [show (PySem.W.Datum.toD : OT → PyData) = toT from funext toT_datum]
    exact rd
  · rw [toT_datum]
    exact rb
  · have : PySem.W.Datum.depth OT ≤ 60 := by decide
    omega
  · exact ⟨.int (idxT t os : Nat), H, I.tok _, ⟨_, rfl⟩, q⟩
variable {o e : Expr} {apos cpos : Pos} {ma mb : ME}
theorem pd_indexP (ho : PE X o (tD X.K C ma)) (he : PE X e (tD X.K C mb)) (t : PE X (.Call (.Attribute o "index" apos) [e] [] cpos) (tBM X.K "list" (rIndexP X.K) (tD X.K C ma) (tCons (tD X.K C mb) tNil))) : PE X (.Call (.Attribute o "index" apos) [e] [] cpos) (tD X.K C (mMeth opIdxP ma mb)) := pe_imp t (td_meth (by
  intro F H p vs ds y b z Q e hp ra ry h k
  unfold opIdxP at h
  split at h
  · rename_i os t' h1 h2
    split at h
    · rename_i hc
      cases h
      have := unTs_of h1
      subst this
      have := unT_of h2
      subst this
      exact ⟨F, p, vs, y, os, t', rfl, rfl, e, .inl (.inl (e _ _ hp)), ra, ry, hc.1, hc.2, k _ (.int _)⟩
    · cases h
  · cases h))
end
end DL
namespace DL
open PySem PySem.Spec PyProof.Rows L2
def pairD (t : Int × Int) : PyData := .tuple [.int t.1, .int t.2]
def unP : PyData → Option (Int × Int)
  | .tuple [.int a, .int b] => some (a, b)
  | _ => none
def unPs : List PyData → Option (List (Int × Int))
  | [] => some []
  | d :: ds => match unP d, unPs ds with
    | some o, some os => some (o :: os)
    | _, _ => none
theorem unP_of {d : PyData} {o : Int × Int} (h : unP d = some o) : d = pairD o := by
  unfold unP at h
  split at h
  · cases h; rfl
  · cases h
theorem unPs_of : ∀ {ds : List PyData} {os : List (Int × Int)}, unPs ds = some os → ds = os.map pairD
  | [], os, h => by cases h; rfl
  | d :: ds, os, h => by
    unfold unPs at h
    split at h
    · rename_i o os' h1 h2
      cases h
      rw [unP_of h1, unPs_of h2]
      rfl
    · cases h
theorem unPs_to : ∀ os : List (Int × Int), unPs (os.map pairD) = some os
  | [] => rfl
  | o :: os => by
    show (match unP (pairD o), unPs (os.map pairD) with | some o, some os => some (o :: os) | _, _ => none) = _
    rw [unPs_to os]
    rfl
def leQ (p q : Int × Int) : Prop := p.1 < q.1 ∨ (p.1 = q.1 ∧ p.2 ≤ q.2)
instance (p q : Int × Int) : Decidable (leQ p q) := by unfold leQ; exact inferInstance
def insP (x : Int × Int) : List (Int × Int) → List (Int × Int)
  | [] => [x]
  | y :: ys => if leQ x y then x :: y :: ys else y :: insP x ys
def srtP : List (Int × Int) → List (Int × Int)
  | [] => []
  | x :: xs => insP x (srtP xs)
theorem insP_perm (x : Int × Int) : ∀ xs, (insP x xs).Perm (x :: xs)
  | [] => .refl _
  | y :: ys => by
    unfold insP
    split
    · exact .refl _
    · exact ((insP_perm x ys).cons y).trans (.swap x y ys)
theorem srtP_perm : ∀ xs, (srtP xs).Perm xs
  | [] => .refl _
  | x :: xs => (insP_perm x _).trans ((srtP_perm xs).cons x)
theorem insP_sorted (x : Int × Int) : ∀ xs : List (Int × Int), xs.Pairwise leQ → (insP x xs).Pairwise leQ
  | [], _ => by unfold insP; exact List.pairwise_singleton _ _
  | y :: ys, h => by
    obtain ⟨h1, h2⟩ := List.pairwise_cons.mp h
    unfold insP
    split
    · rename_i le
      refine List.pairwise_cons.mpr ⟨fun z hz => ?_, h⟩
      rcases List.mem_cons.mp hz with rfl | hz
      · exact le
      · have := h1 z hz
        unfold leQ at *
        omega
    · rename_i le
      refine List.pairwise_cons.mpr ⟨fun z hz => ?_, insP_sorted x ys h2⟩
      rcases List.mem_cons.mp ((insP_perm x ys).mem_iff.mp hz) with rfl | hz
      · unfold leQ at *
        omega
      · exact h1 z hz
theorem srtP_sorted : ∀ xs : List (Int × Int), (srtP xs).Pairwise leQ
  | [] => List.Pairwise.nil
  | x :: xs => insP_sorted x _ (srtP_sorted xs)
theorem sortedP_uniq {xs ys : List (Int × Int)} (p : xs.Perm ys) (h1 : xs.Pairwise leQ) (h2 : ys.Pairwise leQ) : xs = ys := by
  exact p.eq_of_pairwise (le := leQ) (fun a b _ _ h1 h2 => by
    unfold leQ at *
    exact Prod.ext (by omega) (by omega)) h1 h2
def bSrtP : List PyData → Option PyData
  | [.list xs] => (unPs xs).map fun ts => .list ((srtP ts).map pairD)
  | _ => none
theorem bSrtP_is (ts : List (Int × Int)) : bSrtP [.list (ts.map pairD)] = some (.list ((srtP ts).map pairD)) := by
  show ((unPs (ts.map pairD)).map fun ts => PyData.list ((srtP ts).map pairD)) = _
  rw [unPs_to]
  rfl
section
variable {K : PySem.W.Frag} {X : Cx}
theorem dEs_pairs : ∀ ts : List (Int × Int), dEs (ts.map pairD) = true
  | [] => rfl
  | t :: ts => by
    show (dE (pairD t) && dEs (ts.map pairD)) = true
    rw [dEs_pairs ts]
    rfl
theorem refs_pairs {F : Hp} : ∀ {ts : List (Int × Int)} {vs : List V}, RpA K F vs (ts.map pairD) → ∀ x ∈ vs, ∃ a, x = V.ref a
  | [], _, h, x, hx => by cases h; cases hx
  | t :: ts, _, h, x, hx => by
    cases h with
    | cons h1 h2 =>
      rcases List.mem_cons.mp hx with rfl | hx
      · cases h1
        exact ⟨_, rfl⟩
      · exact refs_pairs h2 x hx
theorem pair_read {h : Heap} {v : Value} {t : Int × Int} {as : List Addr} (r : Reads h v (pairD t) as) : Srt.IsPair h v t.1 t.2 := by
  cases r with
  | tuple h1 h2 h3 h4 =>
    rename_i a o vs n
    cases e : vs.toList with
    | nil => rw [e] at h4; cases h4
    | cons x l =>
      rw [e] at h4
      cases h4 with
      | cons q1 q2 =>
        cases l with
        | nil => cases q2
        | cons y l =>
          cases q2 with
          | cons q3 q4 =>
            cases l with
            | cons z l => cases q4
            | nil =>
              cases q1 with
              | int _ t1 =>
                cases q3 with
                | int _ t2 =>
                  refine ⟨a, o, t1, t2, n, rfl, h1, h2, ?_⟩
                  rw [h3]
                  congr 1
                  exact Array.toList_inj.mp e
theorem pair_same {h : Heap} {v : Value} {a b c d : Int} (p : Srt.IsPair h v a b) (q : Srt.IsPair h v c d) : a = c ∧ b = d := by
  obtain ⟨a1, o, t, u, n, rfl, h1, h2, h3⟩ := p
  obtain ⟨a2, o2, t2, u2, n2, e, g1, g2, g3⟩ := q
  cases e
  rw [h1] at g1
  cases g1
  rw [h3] at g3
  injection g3 with g3 _
  have := congrArg Array.toList g3
  simp at this
  exact ⟨this.1.1, this.2.1⟩
theorem reads_k {h : Heap} {k : Value → Int × Int} : ∀ {its : List Value} {ts : List (Int × Int)} {as : List Addr}, ReadsAll h its (ts.map pairD) as → (∀ v ∈ its, ∀ p : Int × Int, Srt.IsPair h v p.1 p.2 → k v = p) → its.map k = ts
  | [], [], _, _, _ => rfl
  | [], t :: ts, _, r, _ => by cases r
  | v :: its, [], _, r, _ => by cases r
  | v :: its, t :: ts, _, r, hk => by
    cases r with
    | cons r1 r2 =>
      rw [List.map_cons, hk v (by simp) t (pair_read r1), reads_k r2 fun v' h' => hk v' (by simp [h'])]
theorem reads_all {h : Heap} : ∀ {its : List Value} {ts : List (Int × Int)} {as : List Addr}, ReadsAll h its (ts.map pairD) as → ∀ v ∈ its, ∃ p : Int × Int, Srt.IsPair h v p.1 p.2
  | [], _, _, _, v, hv => by cases hv
  | u :: its, [], _, r, v, hv => by cases r
  | u :: its, t :: ts, _, r, v, hv => by
    cases r with
    | cons r1 r2 =>
      rcases List.mem_cons.mp hv with rfl | hv
      · exact ⟨t, pair_read r1⟩
      · exact reads_all r2 v hv
theorem rpA_pt {F : Hp} {f : Value → V} {g : Value → PyData} : ∀ {its : List Value}, RpA K F (its.map f) (its.map g) → ∀ v ∈ its, Rp K F (f v) (g v)
  | [], _, v, hv => by cases hv
  | u :: its, r, v, hv => by
    cases r with
    | cons r1 r2 =>
      rcases List.mem_cons.mp hv with rfl | hv
      · exact r1
      · exact rpA_pt r2 v hv
theorem rpA_of {F : Hp} {f : Value → V} {g : Value → PyData} : ∀ {its : List Value}, (∀ v ∈ its, Rp K F (f v) (g v)) → RpA K F (its.map f) (its.map g)
  | [], _ => .nil
  | u :: its, r => .cons (r u (by simp)) (rpA_of fun v hv => r v (by simp [hv]))
def rSrtP (K : PySem.W.Frag) : List V → Hp → VK → Prop := fun xs H Q => ∃ (F : Hp) (a : Addr) (vs : List V) (ts : List (Int × Int)), xs = [V.ref a] ∧ Same F H ∧ SqL K H a vs ∧ RpA K F vs (ts.map pairD) ∧ ∀ ys p, RpA K F ys ((srtP ts).map pairD) → H p = none → Q (.ref p) (upd H p (.lst ys))
theorem cr_srtP : CallR X (.builtin "sorted") (rSrtP X.K) := by
  intro pins s σ H xs us Q I r h
  obtain ⟨F, a, vs, ts, rfl, e, hs, ra, q⟩ := h
  obtain ⟨its, rv, hl, hz⟩ := I.list hs
  obtain ⟨u, rfl, ru⟩ := vals1 r
  obtain rfl : u = Value.ref a := ru
  obtain ⟨as, rd, _⟩ := RpA.reads I e _ _ _ ra rv (dEs_pairs ts)
  obtain ⟨e1, e2⟩ := refs_back rv (refs_pairs ra)
  have hp := reads_all rd
  obtain ⟨k, hk⟩ : ∃ k : Value → Int × Int, ∀ v ∈ its, Srt.IsPair s.heap v (k v).1 (k v).2 := by
    refine ⟨fun v => @dite _ (∃ p : Int × Int, Srt.IsPair s.heap v p.1 p.2) (Classical.propDecidable _) (fun h => Classical.choose h) (fun _ => (0, 0)), fun v hv => ?_⟩
    have h := hp v hv
    simp only [dif_pos h]
    exact Classical.choose_spec h
  have ek : its.map k = ts := reads_k rd fun v hv p z => by
    obtain ⟨z1, z2⟩ := pair_same (hk v hv) z
    exact Prod.ext z1 z2
  refine SrtO.sorted_pairsO (k := k) hl.isList (by rw [← rv.length]; exact hz) hk fun h' d out h1 h2 kp hd hn => ?_
  have mem : ∀ u ∈ out, u ∈ its := fun u hu => h2.perm.mem_iff.mp hu
  have h3 : ∀ u ∈ out, ∃ a, u = Value.ref a := fun u hu => e2 u (mem u hu)
  obtain ⟨n, hn⟩ := hn
  have es : out.map k = srtP ts := by
    refine sortedP_uniq ?_ ?_ (srtP_sorted ts)
    · rw [← ek]
      exact (h2.perm.map k).trans (srtP_perm _).symm
    · refine List.pairwise_map.mpr (List.Pairwise.imp (fun {x y} z => ?_) h1)
      have := SrtO.lexB_no.mp z
      unfold leQ
      omega
  have rs : RpA X.K F (out.map backV) ((srtP ts).map pairD) := by
    rw [← es, List.map_map]
    refine rpA_of fun v hv => ?_
    rw [e1, ← ek, List.map_map] at ra
    exact rpA_pt ra v (mem v hv)
  refine ⟨.ref d, upd H d (.lst (out.map backV)), I.laid (t' := s.toks) kp hd ⟨?_, out, n, vals_back h3, hn⟩, rfl, q _ d rs (I.hok.fresh hd)⟩
  rw [List.length_map, h2.len, ← rv.length]
  exact hz
theorem rc_srtP : RLC K (rSrtP K) bSrtP := by
  intro F H xs as z Q e f rx h k
  unfold bSrtP at h
  split at h
  · obtain ⟨x, rfl, r⟩ := rpA1 rx
    rename_i ds
    cases en : unPs ds with
    | none => rw [en] at h; cases h
    | some ts =>
      rw [en] at h
      cases h
      have := unPs_of en
      subst this
      cases r with
      | lst h1 r1 =>
        refine ⟨F, _, _, ts, rfl, e, .inl (.inl (e _ _ h1)), r1, fun ys p ry hp => ?_⟩
        exact k _ _ _ (.new hp) (.lst upd_same (ry.mono (same_new (f p hp))))
  · cases h
end
end DL
namespace DL
open PySem PySem.Spec PyProof.Rows L2
def mSetTup (i j : Nat) (mi me : ME) : MS := fun D sd => me sd fun v s1 => ∃ a b, v = .tuple [a, b] ∧ (∃ ds, sget s1 i = .own ds) ∧ mi s1 fun k s2 => ∃ ds z n, sget s2 i = .own ds ∧ k = .int z ∧ DL.ixN ds.length z = some n ∧ D.nx (sset (sset s2 i (.own (ds.set n a))) j (.va b))
section
variable {X : Cx} {C : Ct}
theorem pds_setTup {i j : Nat} {tg nm e : Expr} {kk : Nat} {tpos pos : Pos} {mi me : ME} (t : PS X (.Assign [.Tuple [tg, nm] kk tpos] e pos) (tAsg (tD X.K C me) (gTup X.K 2 (gCons (gSub (tVar i) (tD X.K C mi) rSetL) (gCons (gName j) gNil))))) : PS X (.Assign [.Tuple [tg, nm] kk tpos] e pos) (tDS X.K C (mSetTup i j mi me)) := ps_imp t (by
  rintro D σ H ⟨F, sd, Dd, R, E, h⟩
  refine ⟨F, sd, _, R, h, fun v H1 F1 d sd1 R1 S1 rv hh => ?_⟩
  obtain ⟨a, b, rfl, ⟨ds0, h0⟩, h2⟩ := hh
  cases rv with
  | tup hq ra =>
    obtain ⟨x, y, rfl, rx, ry⟩ := rpA2 ra
    have hi := R1.slot i
    rw [h0] at hi
    obtain ⟨q, vs, e1, e2, e3, e4, r⟩ := hi
    refine ⟨_, [x, y], rfl, same_t R1.ext hq, rfl, x, [y], rfl, .ref q, gv_some.mp e1, F1, sd1, _, R1, h2, fun k H2 F2 kd sd2 R2 S2 rk h3 => ?_⟩
    obtain ⟨ds, z, n, g1, rfl, g2, hnx⟩ := h3
    cases rk
    have hi2 := R2.slot i
    rw [g1] at hi2
    obtain ⟨q', vs2, z1, z2, z3, z4, r2⟩ := hi2
    rw [e1] at z1; cases z1
    refine ⟨q, vs2, z, n, rfl, rfl, z2, by rw [r2.length]; exact g2, y, [], rfl, rfl, ?_⟩
    exact E.nx F2 _ _ _ (S1.fr.trans S2.fr) ((R2.setOwn g1 e1 (RpA.set (rx.mono S2.fr) n r2)).setva (ry.mono S2.fr)) hnx)
end
end DL
namespace DL
open PySem PySem.Spec PyProof.Rows L2
def rIsET (K : PySem.W.Frag) (D a : Addr) : List V → Hp → VK → Prop := fun xs H Q => ∃ (tp : Addr) (cs : List V) (ws : List Value) (b : Bool), xs = [.ref a, .ref tp] ∧ H tp = some (.tup cs) ∧ (∀ us, Vals cs us → us = ws) ∧ PySem.W.kitAny K (.ref D) ws = some b ∧ Q (.bl b) H
theorem call_isET {X : Cx} {a D : Addr} {oe : Obj} {pn : List (Addr × Obj)} (C : ExcC X.K D) (hz : Zc (.ref D) none oe) (hf : ∃ vs, oe.data = .fields vs) : CallR (X.suite a ((a, oe) :: pn)) (.builtin "isinstance") (rIsET X.K D a) := by
  intro pins s σ H xs us Q I r h
  obtain ⟨tp, cs, ws, b, rfl, hT, hcv, e, q⟩ := h
  obtain ⟨u1, u2, rfl, r1, r2⟩ := vals2 r
  cases (show u1 = Value.ref a from r1)
  cases (show u2 = Value.ref tp from r2)
  obtain ⟨_, its, rv, o, h1, h2, n, h3⟩ := (show ObjOk (X.suite a ((a, oe) :: pn)).prog (X.suite a ((a, oe) :: pn)).w H s.heap tp (.tup cs) from I.hok tp _ hT)
  have e3 := hcv _ rv
  subst e3
  obtain ⟨oc, od, dt, sl⟩ := o
  simp only at h2 h3
  subst h2 h3
  obtain ⟨hget, _⟩ := I.pin (a, oe) (List.mem_append.mpr (.inl List.mem_cons_self))
  obtain ⟨vs, hv⟩ := hf
  have J : PySem.W.InstAt s.heap a oe D none := by
    obtain ⟨oc, od, oda, osl⟩ := oe
    obtain ⟨h1, h2⟩ := hz
    dsimp only at h1 h2 hv
    subst h1 h2 hv
    exact ⟨hget, rfl, rfl, trivial⟩
  exact PySem.W.kia_tup (PySem.W.handS_kitx_exc C.hg C.hk C.hs C.hd C.ha C.hn C.ht C.hm) I.kIn J h1 e (fun z => nomatch z) fun tk => ⟨.bl b, H, I.kept (t' := tk) fun _ _ z => z, rfl, q⟩
section
variable {K : PySem.W.Frag} {X : Cx} {C : Ct}
/-- isinstance(n, (T1, T2)) in a suite -/
theorem pd_isE2 {a A : Addr} {oe : Obj} {pn : List (Addr × Obj)} {i : Nat} {y : Str} {p p2 tp pos : Pos} {kk : Nat} {b1 b2 : Bool} {tv1 tv2 : V} {cv1 cv2 : Value} {t1 t2 : Expr} (EC : ExcC X.K A) (hz : Zc (.ref A) none oe) (hfl : ∃ vs, oe.data = .fields vs) (hm : X.mg "isinstance" = none)
    (hk1 : PySem.W.kitOne X.K (.ref A) cv1 = some b1) (hk2 : PySem.W.kitOne X.K (.ref A) cv2 = some b2) (hcv1 : ∀ u, RelV tv1 u → u = cv1) (hcv2 : ∀ u, RelV tv2 u → u = cv2) (hN : (X.suite a ((a, oe) :: pn)).N[i]? = some y) (hv : Vis (X.suite a ((a, oe) :: pn)).env.scope y)
    (hT1 : PE (X.suite a ((a, oe) :: pn)) t1 (tC tv1)) (hT2 : PE (X.suite a ((a, oe) :: pn)) t2 (tC tv2))
    (hg : Gl (X.suite a ((a, oe) :: pn)) "isinstance" := by rfl) (hd : (y == ("__debug__" : Str)) = false := by decide) (hcd : (y == ("__classdict__" : Str)) = false := by decide)
    (he : starEach (.Name y p2 :: [.Tuple [t1, t2] kk tp]) X.env = (false, eval (.Name y p2) X.env) :: starEach [.Tuple [t1, t2] kk tp] X.env := by rfl) (he1 : starEach (.Tuple [t1, t2] kk tp :: []) X.env = (false, eval (.Tuple [t1, t2] kk tp) X.env) :: starEach [] X.env := by rfl)
    (he2 : starEach (t1 :: [t2]) X.env = (false, eval t1 X.env) :: starEach [t2] X.env := by rfl) (he3 : starEach (t2 :: []) X.env = (false, eval t2 X.env) :: starEach [] X.env := by rfl)
    (hpl : (backTo pos (starEach [.Tuple [t1, t2] kk tp] X.env)).any (·.1) = false := by rfl) :
    PE (X.suite a ((a, oe) :: pn)) (.Call (.Name "isinstance" p) [.Name y p2, .Tuple [t1, t2] kk tp] [] pos) (tD X.K C (mIsE i a (b1 || b2))) := pe_imp (pe_callB (call_isET EC hz hfl) hg hm (by decide +kernel) (pa_cons (pe_var hN hv hd hcd) (pa_cons (pe_tup (pa_cons hT1 (pa_cons hT2 pa_nil he3) he2)) pa_nil he1) he) (by decide) (by decide) he hpl) (by
  rintro σ H Q ⟨F, sd, Qd, R, ⟨hs, h⟩, k⟩
  have hi := R.slot i
  rw [hs] at hi
  refine ⟨.ref a, gv_some.mp hi, by rw [sizeLine_eq, List.length_cons, List.length_cons, List.length_nil]; decide, fun p hp => ⟨p, [tv1, tv2], [cv1, cv2], b1 || b2, rfl, upd_same, fun us hus => ?_, ?_, ?_⟩⟩
  · obtain ⟨u1, u2, rfl, r1, r2⟩ := vals2 hus
    rw [hcv1 _ r1, hcv2 _ r2]
  · refine kitAny_cons hk1 (fun z => ?_) (fun z => by rw [z]; rfl)
    rw [z]
    refine kitAny_cons hk2 (fun z => by rw [z]; rfl) (fun z => by rw [z]; rfl)
  · have al : Al F H (upd F p (.tup [tv1, tv2])) (upd H p (.tup [tv1, tv2])) := .new hp
    exact k _ _ _ _ sd (R.al al) (.al R al) (.bl _) h)
end
end DL
namespace DL
open PySem PySem.Spec PyProof.Rows L2
theorem RoomG.u65 {k : Nat} {A : Around} (h : RoomG k A) : A.units + 65 < cLine := by have := h.r.un; omega
def opInD : PyData → PyData → Option PyData
  | a, .list ds => if (SeqAt.shaped a && SeqAt.shaped (.list ds)) = true then some (.bool (ds.any fun z => PyData.eqv z a)) else none
  | _, _ => none
theorem rl_inD {K : PySem.W.Frag} : RL2 K (rInD K) opInD := by
  intro F H x y a b z Q e _ rx ry h k
  unfold opInD at h
  split at h
  · split at h
    · rename_i hs
      cases h
      rw [Bool.and_eq_true] at hs
      exact ⟨a, _, rx.dp e (SeqAt.canLay_of_shaped hs.1), ry.dp e (SeqAt.canLay_of_shaped hs.2), hs.1, hs.2, k _ F H .id (.bl _)⟩
    · cases h
  · cases h
/-- a pair of numbers in a list of such -/
theorem shaped_pair {a b : Int} : SeqAt.shaped (.tuple [.int a, .int b]) = true := by
  unfold SeqAt.shaped
  simp [PyData.canLay0, PyData.canLayAll0, PyData.depth, PyData.depthAll]
def prP (u : Int × Int) : PyData := .tuple [.int u.1, .int u.2]
theorem lay_prs : ∀ l : List (Int × Int), PyData.canLayAll0 (l.map prP) = true ∧ PyData.depthAll (l.map prP) ≤ 2
  | [] => ⟨rfl, by simp [PyData.depthAll]⟩
  | u :: l => by
    obtain ⟨a, b⟩ := lay_prs l
    refine ⟨by simp [prP, PyData.canLayAll0, PyData.canLay0, a], ?_⟩
    simp only [List.map_cons, prP, PyData.depthAll, PyData.depth]
    omega
theorem any_prs {w : Int × Int} : ∀ l : List (Int × Int), ((l.map prP).any fun z => PyData.eqv z (prP w)) = decide (w ∈ l)
  | [] => by simp
  | u :: l => by
    rw [List.map_cons, List.any_cons, any_prs l]
    have e : PyData.eqv (prP u) (prP w) = decide (w = u) := by
      unfold prP
      simp [PyData.eqv, PyData.eqvAll]
      by_cases h1 : u.1 = w.1 <;> by_cases h2 : u.2 = w.2
      · have : w = u := Prod.ext h1.symm h2.symm
        simp [h1, h2, this]
      · have : ¬ w = u := fun e => h2 (by rw [e])
        simp [h1, h2, this]
      · have : ¬ w = u := fun e => h1 (by rw [e])
        simp [h1, h2, this]
      · have : ¬ w = u := fun e => h1 (by rw [e])
        simp [h1, h2, this]
    rw [e]
    by_cases c : w = u
    · simp [c]
    · simp [c]
theorem opInD_pr {w : Int × Int} {l : List (Int × Int)} : opInD (prP w) (.list (l.map prP)) = some (.bool (decide (w ∈ l))) := by
  have h : SeqAt.shaped (.list (l.map prP)) = true := by
    obtain ⟨a, b⟩ := lay_prs l
    unfold SeqAt.shaped
    have : (PyData.list (l.map prP)).canLay0 = true := by simpa [PyData.canLay0] using a
    rw [this, decide_eq_true (by simp only [PyData.depth]; omega)]
    rfl
  show (if (SeqAt.shaped (prP w) && SeqAt.shaped (.list (l.map prP))) = true then some (PyData.bool ((l.map prP).any fun z => PyData.eqv z (prP w))) else none) = _
  rw [h, show SeqAt.shaped (prP w) = true from shaped_pair, Bool.and_self, if_pos rfl, any_prs]
end DL
namespace DL
open PySem PySem.Spec PyProof.Rows L2
/-- xs.pop(e): the item, the list without it -/
def mPop (i : Nat) (me : ME) : ME := fun sd Q => (∃ ds, sget sd i = .own ds) ∧ me sd fun j s1 => ∃ (ds : List PyData) (n : Nat) (d : PyData), sget s1 i = .own ds ∧ j = .int (n : Int) ∧ n < ds.length ∧ ds.length ≤ 100000 ∧ ds[n]? = some d ∧ Q d (sset s1 i (.own (ds.eraseIdx n)))
def opNotInT : PyData → PyData → Option PyData
  | a, .tuple ds => if (SeqAt.shaped a && SeqAt.shaped (.tuple ds)) = true then some (.bool (!ds.any fun z => PyData.eqv z a)) else none
  | _, _ => none
def opInT : PyData → PyData → Option PyData
  | a, .tuple ds => if (SeqAt.shaped a && SeqAt.shaped (.tuple ds)) = true then some (.bool (ds.any fun z => PyData.eqv z a)) else none
  | _, _ => none
section
variable {X : Cx} {C : Ct} {K : PySem.W.Frag}
theorem RpA.erase {F : Hp} : ∀ {vs : List V} {ds : List PyData} (n : Nat), RpA K F vs ds → RpA K F (vs.eraseIdx n) (ds.eraseIdx n)
  | _, _, _, .nil => by simpa using RpA.nil
  | _, _, 0, .cons _ r => r
  | _, _, n + 1, .cons h r => .cons h (RpA.erase n r)
theorem pd_popAt {i : Nat} {me : ME} {y : Str} {p apos cpos : Pos} {e : Expr}
    (t : PE X (.Call (.Attribute (.Name y p) "pop" apos) [e] [] cpos) (tBM X.K "list" rPopAt (tVar i) (tCons (tD X.K C me) tNil))) :
    PE X (.Call (.Attribute (.Name y p) "pop" apos) [e] [] cpos) (tD X.K C (mPop i me)) := pe_imp t (by
  rintro σ H Q ⟨F, sd, Qd, R, ⟨⟨ds0, h0⟩, h⟩, k⟩
  have hi := R.slot i
  rw [h0] at hi
  obtain ⟨q, vs, e1, e2, e3, e4, r⟩ := hi
  refine ⟨.ref q, gv_some.mp e1, .inl ⟨rfl, vs, .inl (.inl e2)⟩, F, sd, _, R, h, fun v H1 F1 j sd1 R1 S1 rj hh => ?_⟩
  obtain ⟨ds, n, d, h1, rfl, hn, hl, hd, hq⟩ := hh
  have hi1 := R1.slot i
  rw [h1] at hi1
  obtain ⟨q', vs1, z1, z2, z3, z4, r1⟩ := hi1
  rw [e1] at z1; cases z1
  cases rj
  obtain ⟨w, w1, w2⟩ := r1.get hd
  have len := r1.length
  have six : seqIndex? (n : Int) vs1.length = some n := by
    unfold seqIndex?
    simp only [show ¬ ((n : Int) < 0) by omega, if_false]
    rw [if_pos (by rw [Bool.and_eq_true]; exact ⟨decide_eq_true (by omega), decide_eq_true (by omega)⟩)]
    simp
  refine ⟨q, vs1, n, n, w, rfl, rfl, z2, by omega, by omega, six, w1, ?_⟩
  have R2 := R1.setOwn h1 e1 (r1.erase n)
  have own : Owned σ sd1 q := ⟨i, by rw [h1]; rfl, e1⟩
  refine k w _ F1 d _ R2 (S1.trans ⟨fun _ _ h => h, fun a o ha hno => ?_, fun a ha => ?_, fun a o h => .inl h, fun a ha => ?_⟩) w2 hq
  · by_cases z : a = q
    · subst z; exact absurd own hno
    · rw [upd_ne z]; exact ha
  · obtain ⟨l, l1, l2⟩ := ha
    by_cases z : l = i
    · subst z
      rw [e1] at l2
      cases l2
      exact own
    · rw [sget_sset_ne z] at l1
      exact ⟨l, l1, l2⟩
  · by_cases z : a = q
    · subst z
      rw [upd_same] at ha
      cases ha
    · rw [upd_ne z] at ha
      exact ha)
def rNotInT (K : PySem.W.Frag) : R2 := fun x y H Q => ∃ d ds, Dp K H x d ∧ Dp K H y (.tuple ds) ∧ SeqAt.shaped d = true ∧ SeqAt.shaped (.tuple ds) = true ∧ Q (.bl (!ds.any fun z => PyData.eqv z d)) H
def rInT (K : PySem.W.Frag) : R2 := fun x y H Q => ∃ d ds, Dp K H x d ∧ Dp K H y (.tuple ds) ∧ SeqAt.shaped d = true ∧ SeqAt.shaped (.tuple ds) = true ∧ Q (.bl (ds.any fun z => PyData.eqv z d)) H
theorem lay_tup {ds : List PyData} (h : SeqAt.shaped (.tuple ds) = true) : PyData.canLayAll0 ds = true := by
  have := SeqAt.canLay_of_shaped h
  simpa [PyData.canLay0] using this
theorem op_notInT (hu : X.A.units + 65 < cLine) : OpR X (compareOp .NotIn) (rNotInT X.K) := by
  intro pins s σ H x y v u Q I rx ry h
  obtain ⟨d, ds, h1, h2, s1, s2, q⟩ := h
  obtain ⟨as, ra⟩ := Dp.reads I d x v h1 rx
  obtain ⟨bs, rb⟩ := Dp.reads I _ y u h2 ry
  exact SeqAt.notIn_tuple_reads rb ra (lay_tup s2) (SeqAt.canLay_of_shaped s1) (PyProof.Rows.room_in_shaped s1 hu) ⟨.bl _, H, I, rfl, q⟩
theorem op_inT (hu : X.A.units + 65 < cLine) : OpR X (compareOp .In) (rInT X.K) := by
  intro pins s σ H x y v u Q I rx ry h
  obtain ⟨d, ds, h1, h2, s1, s2, q⟩ := h
  obtain ⟨as, ra⟩ := Dp.reads I d x v h1 rx
  obtain ⟨bs, rb⟩ := Dp.reads I _ y u h2 ry
  exact SeqAt.in_tuple_reads rb ra (lay_tup s2) (SeqAt.canLay_of_shaped s1) (PyProof.Rows.room_in_shaped s1 hu) ⟨.bl _, H, I, rfl, q⟩
theorem rl_notInT : RL2 K (rNotInT K) opNotInT := by
  intro F H x y a b z Q e _ rx ry h k
  unfold opNotInT at h
  split at h
  · split at h
    · rename_i hs
      cases h
      rw [Bool.and_eq_true] at hs
      exact ⟨a, _, rx.dp e (SeqAt.canLay_of_shaped hs.1), ry.dp e (SeqAt.canLay_of_shaped hs.2), hs.1, hs.2, k _ F H .id (.bl _)⟩
    · cases h
  · cases h
theorem rl_inT : RL2 K (rInT K) opInT := by
  intro F H x y a b z Q e _ rx ry h k
  unfold opInT at h
  split at h
  · split at h
    · rename_i hs
      cases h
      rw [Bool.and_eq_true] at hs
      exact ⟨a, _, rx.dp e (SeqAt.canLay_of_shaped hs.1), ry.dp e (SeqAt.canLay_of_shaped hs.2), hs.1, hs.2, k _ F H .id (.bl _)⟩
    · cases h
  · cases h
end
end DL
namespace DL
open PySem PySem.Spec PyProof.Rows L2
def bIntB : List PyData → Option PyData
  | [.int i] => some (.int i)
  | [.bool b] => some (.int (if b = true then 1 else 0))
  | _ => none
def opSIdx : PyData → PyData → Option PyData
  | .str a, .str b => match Builtin.Str.occurrences a b 0 a.length 1 with
    | i :: _ => some (.int (i : Nat))
    | [] => none
  | _, _ => none
section
variable {K : PySem.W.Frag} {X : Cx} {C : Ct}
theorem rc_intB : RLC K (fun xs H Q => (∃ i, xs = [V.int i] ∧ Q (.int i) H) ∨ ∃ k, xs = [V.bl k] ∧ Q (.int (if k then 1 else 0)) H) bIntB := by
  intro F H xs as z Q e _ rx h k
  unfold bIntB at h
  split at h
  · obtain ⟨x, rfl, r⟩ := rpA1 rx
    cases h
    cases r
    exact .inl ⟨_, rfl, k _ F H .id (.int _)⟩
  · obtain ⟨x, rfl, r⟩ := rpA1 rx
    cases h
    cases r
    exact .inr ⟨_, rfl, k _ F H .id (.int _)⟩
  · cases h
/-- s.f(e): s a text -/
def mStrM (f : PyData → PyData → Option PyData) (ma mb : ME) : ME := fun sd Q => ma sd fun a s1 => ∃ s, a = .str s ∧ mb s1 fun b s2 => ∃ r, f (.str s) b = some r ∧ Q r s2
theorem td_strM1 {r : V → List V → Hp → VK → Prop} {f : PyData → PyData → Option PyData} {ma mb : ME}
    (L : ∀ (F H : Hp) (s : Str) (y : V) (b z : PyData) (Q : VK), Same F H → Rp K F y b → f (.str s) b = some z → (∀ v, Rp K F v z → Q v H) → r (.str s) [y] H Q) :
    ∀ σ H Q, tD K C (mStrM f ma mb) σ H Q → tBM K "str" r (tD K C ma) (tCons (tD K C mb) tNil) σ H Q := by
  rintro σ H Q ⟨F, sd, Qd, R, h, k⟩
  refine ⟨F, sd, _, R, h, fun x H1 F1 a sd1 R1 S1 rx h1 => ?_⟩
  obtain ⟨s, rfl, h1⟩ := h1
  cases rx
  refine ⟨rfl, F1, sd1, _, R1, h1, fun y H2 F2 b sd2 R2 S2 ry h2 => ?_⟩
  obtain ⟨z, e, q⟩ := h2
  exact L F2 H2 s y b z Q R2.ext ry e fun v rz => k v H2 F2 z sd2 R2 (S1.trans S2) rz q
variable {o e : Expr} {apos cpos : Pos} {ma mb : ME}
theorem pd_sidx (ho : PE X o (tD X.K C ma)) (he : PE X e (tD X.K C mb)) (t : PE X (.Call (.Attribute o "index" apos) [e] [] cpos) (tBM X.K "str" (fun x xs H Q => ∃ a b i rest, x = V.str a ∧ xs = [V.str b] ∧ Builtin.Str.occurrences a b 0 a.length 1 = i :: rest ∧ Q (.int (i : Nat)) H) (tD X.K C ma) (tCons (tD X.K C mb) tNil))) : PE X (.Call (.Attribute o "index" apos) [e] [] cpos) (tD X.K C (mStrM opSIdx ma mb)) := pe_imp t (td_strM1 (by
  intro F H s y b z Q e ry h k
  cases b with
  | str b' =>
    cases ry
    have h : (match Builtin.Str.occurrences s b' 0 s.length 1 with
      | i :: _ => some (PyData.int (i : Nat))
      | [] => none) = some z := h
    split at h
    · rename_i i rest ho
      cases h
      exact ⟨_, _, i, rest, rfl, rfl, ho, k _ (.int _)⟩
    · cases h
  | _ => cases h))
end
end DL
namespace DL
open PySem PySem.Spec PyProof.Rows L2
theorem u1 {k : Nat} {A : Around} (h : RoomG k A) : A.units + 1 < cLine := by have := RoomG.u64 h; omega
/-- d[k], d a dict, k a text -/
def dget (x : Str) : List (PyData × PyData) → Option PyData
  | [] => none
  | (.str y, d) :: es => if y = x then some d else dget x es
  | _ :: es => dget x es
def opDGet : PyData → PyData → Option PyData
  | .dict es, .str x => dget x es
  | _, _ => none
def strsD : List PyData → Option (List Str)
  | [] => some []
  | .str x :: ds => (strsD ds).map (x :: ·)
  | _ :: _ => none
def opJoin : PyData → PyData → Option PyData
  | .str a, .list ds => (strsD ds).bind fun ys => if (ys.map (·.length)).sum + ys.length * a.length ≤ 16777216 then some (.str (Txt.join a ys)) else none
  | _, _ => none
def opRevS : PyData → Option PyData
  | .str z => if z.length ≤ 100000 then some (.str ⟨z.cps.toList.reverse.toArray⟩) else none
  | _ => none
def mDisp (kvs : List (Str × Str)) : ME := fun sd Q => Q (.dict (kvs.map fun kv => (.str kv.1, .str kv.2))) sd
section
variable {K : PySem.W.Frag} {X : Cx} {C : Ct}
theorem rpD_get {F : Hp} (x : Str) : ∀ {kvs : List (Key × V)} {es : List (PyData × PyData)} {d : PyData}, RpD K F kvs es → dget x es = some d → ∃ v, valV kvs (.inr x) = some v ∧ Rp K F v d := by
  intro kvs
  induction kvs with
  | nil => intro es d r h; cases r; cases h
  | cons p kvs ih =>
    intro es d r h
    obtain ⟨k, v⟩ := p
    cases r with
    | cons rv r =>
      cases k with
      | inl i =>
        have h : dget x _ = some d := h
        obtain ⟨u, e, ru⟩ := ih r h
        exact ⟨u, (valV_neg (p := (Sum.inl i, v)) (by intro q; cases q)).trans e, ru⟩
      | inr y =>
        by_cases e : y = x
        · have h : (if y = x then some _ else _) = some d := h
          rw [if_pos e] at h
          cases h
          exact ⟨v, valV_pos (p := (Sum.inr y, v)) (congrArg Sum.inr e), rv⟩
        · have h : (if y = x then some _ else dget x _) = some d := h
          rw [if_neg e] at h
          obtain ⟨u, e2, ru⟩ := ih r h
          exact ⟨u, (valV_neg (p := (Sum.inr y, v)) (fun q => e (Sum.inr.inj q))).trans e2, ru⟩
theorem pd_dget {a b : Expr} {ma mb : ME} {pos : Pos} (hu : X.A.units + 1 < cLine) (ha : PE X a (tD X.K C ma)) (hb : PE X b (tD X.K C mb)) (hs : NoSl b) : PE X (.Subscript a b pos) (tD X.K C (mOp2 opDGet ma mb)) := pe_imp (pe_dget hu ha hb hs) (by
  rintro σ H Q ⟨F, sd, Qd, R, h, k⟩
  refine ⟨F, sd, _, R, h, fun x H1 F1 d1 sd1 R1 S1 rx h1 => ⟨F1, sd1, _, R1, h1, fun y H2 F2 d2 sd2 R2 S2 ry h2 => ?_⟩⟩
  obtain ⟨z, e, q⟩ := h2
  have rx' := rx.mono S2.fr
  cases d1 with
  | dict es =>
    cases d2 with
    | str s =>
      cases ry
      cases rx' with
      | dct hF r =>
        obtain ⟨v, e2, rv⟩ := rpD_get s r e
        exact ⟨_, v, rfl, .inl ⟨_, Sum.inr s, .inl (R2.ext _ _ hF), rfl, e2.symm⟩, k v H2 F2 z sd2 R2 (S1.trans S2) rv q⟩
      | ins _ _ _ => cases e
    | _ => cases e
  | _ => cases e)
theorem tPairs_c : ∀ (kvs : List (Str × Str)) (σ : L2.St) (H : Hp) (Q : List (V × V) → Hp → Prop), Q (kvs.map fun kv => (V.str kv.1, V.str kv.2)) H → tPairs (kvs.map fun kv => (tC (.str kv.1), tC (.str kv.2))) σ H Q
  | [], _, _, _, h => h
  | (x, y) :: r, σ, H, Q, h => tPairs_c r σ H (fun ps H3 => Q ((V.str x, V.str y) :: ps) H3) h
def keysK (kvs : List (Str × Str)) : List (Key × V) := kvs.map fun kv => (Sum.inr kv.1, V.str kv.2)
theorem rpD_keys {F : Hp} : ∀ kvs : List (Str × Str), RpD K F (keysK kvs) (kvs.map fun kv => (.str kv.1, .str kv.2))
  | [] => .nil
  | (x, y) :: r => .cons (k := Sum.inr x) (.str y) (rpD_keys r)
theorem pd_disp {pos : Pos} {keys : List (Option Expr)} {values : List Expr} (kvs : List (Str × Str)) (h : PPs X pos keys values (kvs.map fun kv => (tC (.str kv.1), tC (.str kv.2)))) (hall : keys.all (·.isSome) = true) (hl : keys.length = values.length) (h0 : keys ≠ [])
    (h15 : keys.length ≤ 15) (hk : kvs.length ≤ 15) (hm : mergeK [] (keysK kvs) = keysK kvs) : PE X (.Dict keys values pos) (tD X.K C (mDisp kvs)) := pe_imp (pe_disp h hall hl h0 h15) (by
  rintro σ H Q ⟨F, sd, Qd, R, h, k⟩ p hp
  refine tPairs_c kvs σ _ _ ?_
  refine ⟨upd_same, keysK kvs, by unfold keysK; rw [List.map_map]; rfl, by unfold keysK; rw [List.length_map]; exact hk, ?_⟩
  rw [hm]
  have e2 : upd (upd H p (.dK [])) p (.dK (keysK kvs)) = upd H p (.dK (keysK kvs)) := by
    funext b; unfold upd; by_cases q : b = p <;> simp [q]
  rw [e2]
  exact k (.ref p) _ _ _ sd (R.al (.new hp)) (.al R (.new hp)) (.dct upd_same (rpD_keys kvs)) h)
theorem rpA_strs {F : Hp} : ∀ {vs : List V} {ds : List PyData} {ys : List Str}, RpA K F vs ds → strsD ds = some ys → vs = ys.map V.str := by
  intro vs
  induction vs with
  | nil => intro ds ys r h; cases r; cases h; rfl
  | cons v vs ih =>
    intro ds ys r h
    cases r with
    | @cons _ _ d ds rv r =>
      cases d with
      | str x =>
        cases rv
        have h : (strsD ds).map (x :: ·) = some ys := h
        cases e : strsD ds with
        | none => rw [e] at h; cases h
        | some zs => rw [e] at h; cases h; rw [ih r e]; rfl
      | _ => cases h
variable {o e : Expr} {apos cpos : Pos} {ma mb : ME}
theorem pd_join (ho : PE X o (tD X.K C ma)) (he : PE X e (tD X.K C mb)) (t : PE X (.Call (.Attribute o "join" apos) [e] [] cpos) (tBM X.K "str" (fun x xs H Q => ∃ a p, ∃ ys : List Str, x = .str a ∧ xs = [.ref p] ∧ (SqL X.K H p (ys.map V.str) ∨ SqT X.K H p (ys.map V.str)) ∧
    (ys.map (·.length)).sum + ys.length * a.length ≤ 16777216 ∧ Q (.str (Txt.join a ys)) H) (tD X.K C ma) (tCons (tD X.K C mb) tNil))) : PE X (.Call (.Attribute o "join" apos) [e] [] cpos) (tD X.K C (mStrM opJoin ma mb)) := pe_imp t (td_strM1 (by
  intro F H s y b z Q ex ry h k
  cases b with
  | list ds =>
    cases ry with
    | lst hF r =>
      have h : ((strsD ds).bind fun ys => if (ys.map (·.length)).sum + ys.length * s.length ≤ 16777216 then some (PyData.str (Txt.join s ys)) else none) = some z := h
      cases e : strsD ds with
      | none => rw [e] at h; cases h
      | some ys =>
        rw [e] at h
        have h : (if (ys.map (·.length)).sum + ys.length * s.length ≤ 16777216 then some (PyData.str (Txt.join s ys)) else none) = some z := h
        split at h
        · rename_i hz
          cases h
          have := rpA_strs r e
          subst this
          exact ⟨_, _, ys, rfl, rfl, .inl (.inl (.inl (ex _ _ hF))), hz, k _ (.str _)⟩
        · cases h
  | _ => cases h))
theorem revS_pick (z : Str) (t : Tok) : (slicePicked z none none (some ((-1 : Int), t))).filterMap (z.cps[·]?) = z.cps.toList.reverse := by
  have e : slicePicked z none none (some ((-1 : Int), t)) = (List.range z.cps.size).map fun k => z.cps.size - 1 - k := PySem.W.krv_sliceRange z.cps.size
  rw [e, PySem.W.krv_range, List.filterMap_reverse, PySem.W.krv_all]
def tRevS (te : TE) : TE := fun σ H Q => te σ H fun x H1 => ∃ z, x = .str z ∧ z.length ≤ 100000 ∧ Q (.str ⟨z.cps.toList.reverse.toArray⟩) H1
theorem pe_revS {e : Expr} {te : TE} {k : Nat} {p1 p2 p3 pos : Pos} (he : PE X e te) : PE X (.Subscript e (.Slice none none (some (.UnaryOp .USub (.Constant (.int 1) k p1) p2)) p3) pos) (tRevS te) := by
  refine ⟨fun pins s σ H Q I h => Subscript_ (thn (he.run pins s σ H _ I h) fun v s1 hh => ?_)⟩
  obtain ⟨x, H1, I1, r1, z, ex, hz, q⟩ := hh
  subst ex
  obtain ⟨t, rfl⟩ := r1
  have one : PO X (some (.UnaryOp .USub (.Constant (.int 1) k p1) p2)) (tPart (tUn (rU fun i => .int (-i)) (tC (.int 1)))) := po_some (pe_un un_neg pe_int)
  refine wpAny_Slice (thn (po_none.run pins s1 σ H1 (fun o H2 => o = none ∧ H2 = H1) I1 ⟨rfl, rfl⟩) fun vl s2 y => ?_)
  obtain ⟨_, _, I2, pl, rfl, rfl⟩ := y
  refine thn (po_none.run pins s2 σ _ (fun o H3 => o = none ∧ H3 = _) I2 ⟨rfl, rfl⟩) fun vu s3 y => ?_
  obtain ⟨_, _, I3, pu, rfl, rfl⟩ := y
  refine thn (one.run pins s3 σ _ (fun o H4 => o = some (-1) ∧ H4 = _) I3 ⟨1, rfl, -1, rfl, rfl, rfl⟩) fun vs s4 y => ?_
  obtain ⟨_, H4, I4, ps, rfl, rfl⟩ := y
  have I5 : L2.Inv X pins σ _ { s4 with heap := s4.heap.push { cls := .type "slice", data := .fields #[vl, vu, vs] } } := I4.kept (t' := s4.toks) fun b ob q => Heap.get?_push_of_some _ q
  cases pl
  cases pu
  cases ps with
  | int _ tk =>
  show wpAny (model X.prog X.w) X.A (subscriptTail e _ (.str z t) (.ref s4.heap.objs.size)) (EP X pins σ Q) X.xe { s4 with heap := s4.heap.push { cls := .type "slice", data := .fields #[.none, .none, .int (-1) tk] } }
  refine tail_any (ops := [.str z t, .ref s4.heap.objs.size]) (typeIs_str _ z t) (PySem.F.slot_str_getitem.lookup) ?_ (by with_unfolding_all rfl)
  refine wpAny_getItem_str_slice (l := none) (u := none) (st := some (-1, tk)) ⟨_, Heap.get?_push_size _ rfl, rfl, rfl⟩ rfl ?_
  have em : sliceMade z t none none (some ((-1 : Int), tk)) = .str ⟨z.cps.toList.reverse.toArray⟩ := by
    unfold sliceMade
    rw [if_neg (by intro q; rw [Bool.and_eq_true] at q; exact absurd q.1 (by show ¬ (((-1 : Int) == 1) = true); decide)), revS_pick]
  rw [em]
  refine ⟨?_, ?_⟩
  · show (z.cps.toList.reverse.toArray).size ≤ sizeLine
    rw [List.size_toArray, List.length_reverse, Array.length_toList]
    exact Nat.le_trans hz (by decide)
  · exact ⟨.str _, _, I5.tok _, ⟨_, rfl⟩, q⟩
theorem pd_revS {e : Expr} {me : ME} {k : Nat} {p1 p2 p3 pos : Pos} (he : PE X e (tD X.K C me)) : PE X (.Subscript e (.Slice none none (some (.UnaryOp .USub (.Constant (.int 1) k p1) p2)) p3) pos) (tD X.K C (mOp1 opRevS me)) := pe_imp (pe_revS he) (by
  rintro σ H Q ⟨F, sd, Qd, R, h, k⟩
  refine ⟨F, sd, _, R, h, fun x H1 F1 a sd1 R1 S1 rx h1 => ?_⟩
  obtain ⟨z, e, q⟩ := h1
  cases a with
  | str s =>
    cases rx
    have e : (if s.length ≤ 100000 then some (PyData.str ⟨s.cps.toList.reverse.toArray⟩) else none) = some z := e
    split at e
    case isFalse => cases e
    case isTrue hz =>
    cases e
    exact ⟨s, rfl, hz, k _ H1 F1 _ sd1 R1 S1 (.str _) q⟩
  | _ => cases e)
end
end DL
namespace DL
open PySem PySem.Spec PyProof.Rows L2
/-- room for k calls, perhaps in a suite of except -/
structure RoomE (k : Nat) (A : Around) : Prop where
  dp : A.depth + 3 * k + 5 < recursionLimit
  un : A.units + 16 * k + 200 < cLine
  g : A.guards = some []
theorem RoomE.mono {j k : Nat} {A : Around} (h : RoomE k A) (hj : j ≤ k) : RoomE j A := ⟨by have := h.dp; omega, by have := h.un; omega, h.g⟩
theorem RoomE.deeper {k : Nat} {A : Around} (h : RoomE (k + 1) A) (env : Env) : RoomE k (A.deeper env) := ⟨by have := h.dp; show A.depth + 1 + _ + _ < _; omega, by have := h.un; show A.units + 3 + _ + _ < _; omega, h.g⟩
theorem RoomE.u64 {k : Nat} {A : Around} (h : RoomE k A) : A.units + 64 < cLine := by have := h.un; omega
theorem RoomG.toE {k : Nat} {A : Around} (h : RoomG k A) (v : Option Value) : RoomE k (A.mark v) := ⟨h.r.dp, h.r.un, h.g⟩
/-- a def's body's context where an error may be at hand -/
abbrev cxE (P : Program) (w : World) (K : PySem.W.Frag) (mg : Str → Option Value) (base : Heap) (N : List Str) (qual : Str) (sc : Scope) (f : Addr) (cdv : Value) (A : Around) (outer : List Env) (s : Shared) (H : Hp) (E : XK) : Cx :=
  { cxD P w K mg base N qual sc f cdv A outer s H E with calm := false }
/-- a def's promise, told the class of an error -/
abbrev ESpec := String → (S → Prop) → Prop
/-- f(e), e what slot i holds -/
def mCallE (spec : ESpec) (i : Nat) (c : String) (a : Addr) : ME := fun sd Q => sget sd i = .exc a ∧ spec c fun r => ∃ d, fz r = some d ∧ Q d sd
def spE (K : PySem.W.Frag) (spec : ESpec) (c : String) (H : Hp) (Q : VK) : Prop := ∃ (F : Hp) (Qd : S → Prop), Same F H ∧ spec c Qd ∧ ∀ (v : V) (H' F' : Hp) (r : S), Post K F H F' H' → ResOk K F' H H' v r → Qd r → Q v H'
structure FnE (P : Program) (w : World) (K : PySem.W.Frag) (mg : Str → Option Value) (base : Heap) (CN : String → Option Addr) (k : Nat) (f : Addr) (fd : FuncData) (ps : List Str) (spec : ESpec) : Prop where
  len : ps.length = 1
  run : ∀ {A : Around} {outer : List Env} {s : Shared} {H : Hp} {args : Args} {Q : VK} {E : XK} {c : String} {T a : Addr} {oe : Obj}, RoomE k A → Env0 P w K mg base A outer s H → BindsTo s fd args (ps.zip [.ref a]) → CN c = some T → Zc (.ref T) none oe → (∃ vs, oe.data = .fields vs) →
    s.heap.get? a = some oe → H a = none → a ∉ frs outer → spE K spec c H Q → codeAny (model P w) A (.call (.ref f) args) (CR (L2.CX P w) outer P w H s Q E) s
structure CalE (P : Program) (w : World) (K : PySem.W.Frag) (mg : Str → Option Value) (base : Heap) (CN : String → Option Addr) (k : Nat) (x : Str) (spec : ESpec) : Prop where
  ex : ∃ f fd ps, FnE P w K mg base CN k f fd ps spec ∧ mg x = some (.ref f) ∧ PySem.W.keepIn K (.ref f) = true ∧ Binds K fd ps []
/-- isinstance(n, T) where n is an error that stood ahead of the call -/
theorem call_isEX {X : Cx} {a D : Addr} {oe : Obj} (C : ExcC X.K D) (hz : Zc (.ref D) none oe) (hf : ∃ vs, oe.data = .fields vs) (h0 : X.s_0.heap.get? a = some oe) (hH : X.H_0 a = none) (hfs : a ∉ X.fs) (hex : a ∉ X.ex) : CallR X (.builtin "isinstance") (rIsE X.K D a) := by
  intro pins s σ H xs us Q I r h
  obtain ⟨tc, cv, b, rfl, hcv, e, q⟩ := h
  obtain ⟨u1, u2, rfl, r1, r2⟩ := vals2 r
  cases (show u1 = Value.ref a from r1)
  cases hcv _ r2
  have hget := I.base.keep a oe h0 hH hfs hex
  obtain ⟨vs, hv⟩ := hf
  have J : PySem.W.InstAt s.heap a oe D none := by
    obtain ⟨oc, od, oda, osl⟩ := oe
    obtain ⟨h1, h2⟩ := hz
    dsimp only at h1 h2 hv
    subst h1 h2 hv
    exact ⟨hget, rfl, rfl, trivial⟩
  exact PySem.W.kia_one (PySem.W.handS_kitx_exc C.hg C.hk C.hs C.hd C.ha C.hn C.ht C.hm) I.kIn J e (fun z => nomatch z) fun tk => ⟨.bl b, H, I.kept (t' := tk) fun _ _ z => z, rfl, q⟩
theorem call_isETX {X : Cx} {a D : Addr} {oe : Obj} (C : ExcC X.K D) (hz : Zc (.ref D) none oe) (hf : ∃ vs, oe.data = .fields vs) (h0 : X.s_0.heap.get? a = some oe) (hH : X.H_0 a = none) (hfs : a ∉ X.fs) (hex : a ∉ X.ex) : CallR X (.builtin "isinstance") (rIsET X.K D a) := by
  intro pins s σ H xs us Q I r h
  obtain ⟨tp, cs, ws, b, rfl, hT, hcv, e, q⟩ := h
  obtain ⟨u1, u2, rfl, r1, r2⟩ := vals2 r
  cases (show u1 = Value.ref a from r1)
  cases (show u2 = Value.ref tp from r2)
  obtain ⟨_, its, rv, o, h1, h2, n, h3⟩ := (show ObjOk X.prog X.w H s.heap tp (.tup cs) from I.hok tp _ hT)
  have e3 := hcv _ rv
  subst e3
  obtain ⟨oc, od, dt, sl⟩ := o
  simp only at h2 h3
  subst h2 h3
  have hget := I.base.keep a oe h0 hH hfs hex
  obtain ⟨vs, hv⟩ := hf
  have J : PySem.W.InstAt s.heap a oe D none := by
    obtain ⟨oc, od, oda, osl⟩ := oe
    obtain ⟨h1, h2⟩ := hz
    dsimp only at h1 h2 hv
    subst h1 h2 hv
    exact ⟨hget, rfl, rfl, trivial⟩
  exact PySem.W.kia_tup (PySem.W.handS_kitx_exc C.hg C.hk C.hs C.hd C.ha C.hn C.ht C.hm) I.kIn J h1 e (fun z => nomatch z) fun tk => ⟨.bl b, H, I.kept (t' := tk) fun _ _ z => z, rfl, q⟩
/-- what isinstance says of each of some classes -/
def KA (K : PySem.W.Frag) (A : Addr) : List V → List Value → List Bool → Prop
  | [], [], [] => True
  | tv :: tvs, cv :: cvs, b :: bs => (PySem.W.kitOne K (.ref A) cv = some b ∧ ∀ u, RelV tv u → u = cv) ∧ KA K A tvs cvs bs
  | _, _, _ => False
def tCL : List V → TA
  | [] => tNil
  | v :: vs => tCons (tC v) (tCL vs)
theorem tCL_is {σ : L2.St} {H : Hp} {Q : List V → Hp → Prop} : ∀ {vs : List V} {pre : List V}, Q (pre ++ vs) H → tCL vs σ H fun xs H1 => Q (pre ++ xs) H1
  | [], pre, h => h
  | v :: vs, pre, h => by
    show tCL vs σ H fun xs H1 => Q (pre ++ (v :: xs)) H1
    have := tCL_is (σ := σ) (vs := vs) (pre := pre ++ [v]) (Q := Q) (by simpa using h)
    simpa using this
theorem tCL_of {σ : L2.St} {H : Hp} {Q : List V → Hp → Prop} {vs : List V} (h : Q vs H) : tCL vs σ H Q := by
  have := tCL_is (σ := σ) (vs := vs) (pre := []) (Q := Q) (by simpa using h)
  simpa using this
theorem ka_vals {K : PySem.W.Frag} {A : Addr} : ∀ {tvs : List V} {cvs : List Value} {bs : List Bool}, KA K A tvs cvs bs → ∀ {us : List Value}, Vals tvs us → us = cvs
  | [], [], [], _, us, h => by cases h; rfl
  | tv :: tvs, cv :: cvs, b :: bs, k, us, h => by
    cases h with
    | cons h1 h2 => rw [k.1.2 _ h1, ka_vals k.2 h2]
  | [], [], _ :: _, k, _, _ => k.elim
  | [], _ :: _, _, k, _, _ => k.elim
  | _ :: _, [], _, k, _, _ => k.elim
  | _ :: _, _ :: _, [], k, _, _ => k.elim
theorem ka_any {K : PySem.W.Frag} {A : Addr} : ∀ {tvs : List V} {cvs : List Value} {bs : List Bool}, KA K A tvs cvs bs → PySem.W.kitAny K (.ref A) cvs = some (bs.any id)
  | [], [], [], _ => rfl
  | tv :: tvs, cv :: cvs, b :: bs, k => by
    refine kitAny_cons k.1.1 (fun z => ?_) (fun z => ?_)
    · rw [List.any_cons, z]
      exact ka_any k.2
    · rw [List.any_cons, z]
      rfl
  | [], [], _ :: _, k => k.elim
  | [], _ :: _, _, k => k.elim
  | _ :: _, [], _, k => k.elim
  | _ :: _, _ :: _, [], k => k.elim
section
variable {K : PySem.W.Frag} {X : Cx} {C : Ct}
theorem pd_isEX {a A : Addr} {oe : Obj} {i : Nat} {y : Str} {p p2 pos : Pos} {b : Bool} {tv : V} {cv : Value} {te : Expr} (EC : ExcC X.K A) (hz : Zc (.ref A) none oe) (hfl : ∃ vs, oe.data = .fields vs) (h0 : X.s_0.heap.get? a = some oe) (hH : X.H_0 a = none) (hfs : a ∉ X.fs) (hex : a ∉ X.ex) (hm : X.mg "isinstance" = none)
    (hk : PySem.W.kitOne X.K (.ref A) cv = some b) (hcv : ∀ u, RelV tv u → u = cv) (hN : X.N[i]? = some y) (hv : Vis X.env.scope y) (hT : PE X te (tC tv))
    (hg : Gl X "isinstance" := by rfl) (hd : (y == ("__debug__" : Str)) = false := by decide) (hcd : (y == ("__classdict__" : Str)) = false := by decide)
    (he : starEach (.Name y p2 :: [te]) X.env = (false, eval (.Name y p2) X.env) :: starEach [te] X.env := by rfl) (he1 : starEach (te :: []) X.env = (false, eval te X.env) :: starEach [] X.env := by rfl) (hpl : (backTo pos (starEach [te] X.env)).any (·.1) = false := by rfl) :
    PE X (.Call (.Name "isinstance" p) [.Name y p2, te] [] pos) (tD X.K C (mIsE i a b)) := pe_imp (pe_callB (call_isEX EC hz hfl h0 hH hfs hex) hg hm (by decide +kernel) (pa_cons (pe_var hN hv hd hcd) (pa_cons hT pa_nil he1) he) (by decide) (by decide) he hpl) (by
  rintro σ H Q ⟨F, sd, Qd, R, ⟨hs, h⟩, k⟩
  have hi := R.slot i
  rw [hs] at hi
  refine ⟨.ref a, gv_some.mp hi, tv, cv, b, rfl, hcv, hk, ?_⟩
  exact k _ H F _ sd R .refl (.bl _) h)
theorem pd_isETX {a A : Addr} {oe : Obj} {i : Nat} {y : Str} {p p2 tp pos : Pos} {kk : Nat} {bs : List Bool} {tvs : List V} {cvs : List Value} {t1 : Expr} {ts : List Expr} (EC : ExcC X.K A) (hz : Zc (.ref A) none oe) (hfl : ∃ vs, oe.data = .fields vs) (h0 : X.s_0.heap.get? a = some oe) (hH : X.H_0 a = none) (hfs : a ∉ X.fs) (hex : a ∉ X.ex) (hm : X.mg "isinstance" = none)
    (ka : KA X.K A tvs cvs bs) (hl : tvs.length ≤ 1000) (hN : X.N[i]? = some y) (hv : Vis X.env.scope y) (hT : PA X (t1 :: ts) (tCL tvs))
    (hg : Gl X "isinstance" := by rfl) (hd : (y == ("__debug__" : Str)) = false := by decide) (hcd : (y == ("__classdict__" : Str)) = false := by decide)
    (he : starEach (.Name y p2 :: [.Tuple (t1 :: ts) kk tp]) X.env = (false, eval (.Name y p2) X.env) :: starEach [.Tuple (t1 :: ts) kk tp] X.env := by rfl) (he1 : starEach (.Tuple (t1 :: ts) kk tp :: []) X.env = (false, eval (.Tuple (t1 :: ts) kk tp) X.env) :: starEach [] X.env := by rfl)
    (hpl : (backTo pos (starEach [.Tuple (t1 :: ts) kk tp] X.env)).any (·.1) = false := by rfl) :
    PE X (.Call (.Name "isinstance" p) [.Name y p2, .Tuple (t1 :: ts) kk tp] [] pos) (tD X.K C (mIsE i a (bs.any id))) := pe_imp (pe_callB (call_isETX EC hz hfl h0 hH hfs hex) hg hm (by decide +kernel) (pa_cons (pe_var hN hv hd hcd) (pa_cons (pe_tup hT) pa_nil he1) he) (by decide) (by decide) he hpl) (by
  rintro σ H Q ⟨F, sd, Qd, R, ⟨hs, h⟩, k⟩
  have hi := R.slot i
  rw [hs] at hi
  refine ⟨.ref a, gv_some.mp hi, (show tCL tvs σ H _ from tCL_of ?_)⟩
  refine ⟨by rw [sizeLine_eq]; omega, fun p hp => ⟨p, tvs, cvs, bs.any id, rfl, upd_same, fun us hus => ka_vals ka hus, ka_any ka, ?_⟩⟩
  have al : Al F H (upd F p (.tup tvs)) (upd H p (.tup tvs)) := .new hp
  exact k _ _ _ _ sd (R.al al) (.al R al) (.bl _) h)
/-- f(e) in the suite that holds e -/
theorem td_callE {CN : String → Option Addr} {spec : ESpec} {i : Nat} {c : String} {a : Addr} : ∀ σ H Q, tD K C (mCallE spec i c a) σ H Q → gv σ i = some (.ref a) ∧ spE K spec c H Q := by
  rintro σ H Q ⟨F, sd, Qd, R, ⟨hs, h⟩, k⟩
  have hi := R.slot i
  rw [hs] at hi
  refine ⟨hi, F, _, R.ext, h, fun v H' F' r P ro q => ?_⟩
  obtain ⟨d, hf, q⟩ := q
  obtain ⟨R2, S2⟩ := R.post P
  obtain ⟨F2, R3, S3, rp⟩ := R2.res S2 ro (fun p hp => ⟨hp, fun z => (R.fresh hp).1 (S2.ow p z), (R.fresh hp).2⟩) hf
  exact k v H' F2 d sd R3 S3 rp q
theorem pd_callE {CN : String → Option Addr} {spec : ESpec} {x y : Str} {p p2 pos : Pos} {k j i : Nat} {c : String} {T a : Addr} {oe : Obj} {pn : List (Addr × Obj)} (cal : CalE X.prog X.w X.K X.mg X.base CN k x spec) (hT : CN c = some T) (hz : Zc (.ref T) none oe) (hfl : ∃ vs, oe.data = .fields vs)
    (hr : RoomG j X.A) (hk : k ≤ j) (hN : (X.suite a ((a, oe) :: pn)).N[i]? = some y) (hv : Vis (X.suite a ((a, oe) :: pn)).env.scope y) (hg : Gl (X.suite a ((a, oe) :: pn)) x := by rfl) (hd : (y == ("__debug__" : Str)) = false := by decide) (hcd : (y == ("__classdict__" : Str)) = false := by decide)
    (hdb : (x == ("__debug__" : Str)) = false := by decide) (he : starEach (.Name y p2 :: []) X.env = (false, eval (.Name y p2) X.env) :: starEach [] X.env := by rfl) (hpl : (backTo pos (starEach [] X.env)).any (·.1) = false := by rfl) :
    PE (X.suite a ((a, oe) :: pn)) (.Call (.Name x p) [.Name y p2] [] pos) (tD X.K C (mCallE spec i c a)) := by
  obtain ⟨f, fd, ps, F, hm, hkp, hb⟩ := cal.ex
  refine ⟨fun pins s σ H Q I h => wpAny_Call_Name_kw (ld_glob I hg hm (PySem.W.callWith_K (h₀ := X.base) I.ok.mod.kin hkp (thn ((pa_cons (pe_var hN hv hd hcd) pa_nil he).run pos pins s σ H (fun vs H1 => vs = [.ref a] ∧ H1 = H ∧ spE X.K spec c H Q) I ⟨.ref a, gv_some.mp (td_callE (CN := CN) σ H Q h).1, rfl, rfl, (td_callE (CN := CN) σ H Q h).2⟩) fun us s1 hh => by
    obtain ⟨vs, H1, I1, r, rfl, rfl, hs⟩ := hh
    refine ⟨I1.kIn, ?_⟩
    have b := hb s1 us I1.kIn (by rw [List.append_nil, ← r.length, F.len]; rfl)
    rw [List.append_nil] at b
    have pin := I1.pin (a, oe) (List.mem_append.mpr (.inl List.mem_cons_self))
    obtain ⟨z1, z2, z3, z4, -⟩ := pin
    have us1 : us = [.ref a] := by
      cases r with
      | cons h1 h2 =>
        cases h2
        rw [show _ = Value.ref a from h1]
    subst us1
    refine wpAny_call (codeAny_mono (F.run (E := WE (wD X.K C CN wF) σ) ((hr.toE _).mono hk) I1.env0 b hT hz hfl z1 z2 ?_ hs) fun r s' hq => ?_)
    · intro m
      rcases I1.ok.stk with e | ⟨e, fr⟩
      · rw [e] at m
        exact z4 m
      · rw [e] at m
        unfold frs at m
        rw [List.filterMap_cons, fr] at m
        rcases List.mem_cons.mp m with m | m
        · exact z3 m
        · exact z4 m
    · cases r with
      | error e => exact passAt takesF σ pins _ s1 e s' I1 hq
      | ok fl =>
        cases fl with
        | ret u => exact I1.after hq
        | next => exact hq
        | brk => exact hq
        | cont => exact hq) he hpl) hdb)⟩
end
section
variable {P : Program} {w : World} {K : PySem.W.Frag} {mg : Str → Option Value} {base : Heap} {CN : String → Option Addr}
/-- the slots of a def that is handed an error -/
abbrev slotsE (n : Nat) (a : Addr) : DSt := .exc a :: List.replicate (n - 1) .no
theorem rs_startE {F H : Hp} {N : List Str} {a : Addr} (e : Same F H) (hl : 1 ≤ N.length) : Rs K ⟨F, H, fun _ => False, false⟩ F H (L2.start N [.ref a]) (slotsE N.length a) where
  len := by unfold L2.start slotsE; simp
  grow := Same.refl _
  ext := e
  new := fun a o h => .inl h
  keep := fun a o h _ => h
  still := fun a h => h
  slot := fun i => by
    cases i with
    | zero => exact start_gv rfl
    | succ i =>
      have : sget (slotsE N.length a) (i + 1) = .no := by
        show sget (List.replicate (N.length - 1) S.no) i = .no
        have : ∀ (k i : Nat), sget (List.replicate k S.no) i = .no := by
          intro k
          induction k with
          | zero => intro _; rfl
          | succ k ih => intro i; cases i with
            | zero => rfl
            | succ i => exact ih i
        exact this _ i
      rw [this]
      trivial
  sep := fun i j p _ o _ _ => by
    cases i with
    | zero => cases o
    | succ i =>
      have : sget (slotsE N.length a) (i + 1) = .no := by
        show sget (List.replicate (N.length - 1) S.no) i = .no
        have : ∀ (k i : Nat), sget (List.replicate k S.no) i = .no := by
          intro k
          induction k with
          | zero => intro _; rfl
          | succ k ih => intro i; cases i with
            | zero => rfl
            | succ i => exact ih i
        exact this _ i
      rw [this] at o
      cases o
/-- a def that is handed an error -/
theorem fun_okE {x qual : Str} {st : Stmt} {f : Addr} {fd : FuncData} {N ps : List Str} {k : Nat} {spec : ESpec} {m : String → Addr → MS} (F : Fun K x qual st f fd) (S : FnScope N ps (defScope st)) (hN : 1 ≤ N.length) (len : ps.length = 1)
    (hbody : ∀ (cdv : Value) (A : Around) (outer : List Env) (s : Shared) (H : Hp) (E : XK) (C : Ct) (c : String) (T a : Addr) (oe : Obj), C.isW = false → RoomE k (A.deeper (envOfC qual (defScope st) s.heap.objs.size f cdv)) →
      CN c = some T → Zc (.ref T) none oe → (∃ vs, oe.data = .fields vs) → (cxE P w K mg base N qual (defScope st) f cdv A outer s H E).s_0.heap.get? a = some oe → (cxE P w K mg base N qual (defScope st) f cdv A outer s H E).H_0 a = none → a ∉ (cxE P w K mg base N qual (defScope st) f cdv A outer s H E).fs → a ∉ (cxE P w K mg base N qual (defScope st) f cdv A outer s H E).ex →
      PSs (cxE P w K mg base N qual (defScope st) f cdv A outer s H E) (defBody st) (tDS K C (m c a)))
    (rd : ∀ c a Q, spec c Q → m c a (endP Q) (slotsE N.length a)) : FnE P w K mg base CN (k + 1) f fd ps spec := by
  obtain ⟨oc, od, kV, doc, pm, an, cdv, ct, osl, rfl, lk, code⟩ := F.ex
  refine ⟨len, fun {A outer s H args Q E c T a oe} hr e0 hb hT hz hfl z1 z2 z3 hs => ?_⟩
  have stays : ∀ b o, base.get? b = some o → s.heap.get? b = some o := fun b o e => (e0.bs b o e).1
  have KX := e0.mod.kin.keeps stays
  have rv : Vals [V.ref a] [Value.ref a] := .cons rfl .nil
  refine codeAny_call_function (by have := hr.dp; omega) (KX _ _ lk) rfl S.co S.gen rfl (PySem.W.codeRec_of KX code) (hb _ _ _ _ (wpAny_newFunctionEnv_cells S.kind (fun y hy => ?_) fun env he s1 x1 => ?_))
  · have hp := S.par y.1 (List.of_mem_zip (show (y.1, y.2) ∈ ps.zip [Value.ref a] from hy)).1
    exact hp.imp id fun c => ⟨c, PySem.W.cellsFrom_some _ _ _ (.inl c)⟩
  · subst he
    obtain ⟨F0, Qd, e, hs, hq⟩ := hs
    have R0 := rs_startE (K := K) (N := N) (a := a) e hN
    have post : ∀ {F1 H1 : Hp} {σ : L2.St} {sd : DSt}, Rs K ⟨F0, H, fun _ => False, false⟩ F1 H1 σ sd → Post K F0 H F1 H1 := fun R => ⟨R.grow, R.ext, fun a o z => R.keep a o z (fun q => q), R.new⟩
    have ht := hbody cdv A outer s H E ⟨F0, H, fun _ => False, false⟩ c T a oe rfl (hr.deeper _) hT hz hfl z1 z2 z3 (by simp [cxE, cxD, L2.cxOf])
    have ht2 : tDS K ⟨F0, H, fun _ => False, false⟩ (m c a) { nx := fun _ H' => Q .non H', rt := Q } (L2.start N [.ref a]) H := by
      refine ⟨F0, _, endP Qd, R0, ⟨fun F1 H1 σ sd _ R q => ?_, fun F1 H1 σ sd v r _ R rv own q => ?_, fun _ _ _ _ _ _ z => z.elim, fun _ _ _ _ _ _ z => z.elim⟩, rd c a Qd hs⟩
      · exact hq .non H1 F1 (.va .none) (post R) .non q
      · refine hq v H1 F1 r (post R) ?_ q
        cases r with
        | no => trivial
        | va d => obtain ⟨v', e1, q⟩ := rv; cases e1; exact q
        | own ds' => obtain ⟨p, vs', e1, h1, h2, h3, h4⟩ := rv; cases e1; exact ⟨p, vs', rfl, h1, h2, h3, h4⟩
        | scr ns => obtain ⟨p, e1, h1⟩ := rv; cases e1; exact ⟨p, rfl, h1⟩
        | exc a => exact Option.some.inj rv
        | ins c es => obtain ⟨p, Cc, dx, fs, e1, h1, h2, h3, oc, h4⟩ := rv; cases e1; exact ⟨p, Cc, dx, fs, rfl, h1, h2, own rfl p rfl, oc, h4⟩
        | well n => obtain ⟨p, a, b, c, e1, h1, h2, h3, h4⟩ := rv; cases e1; exact ⟨p, a, b, c, rfl, h1, h2, own rfl p rfl, h4⟩
    have e00 : Env0 P w K mg base { A with handled := none } outer s H := ⟨e0.frames, e0.mod, e0.bs, e0.bsz, e0.funs, e0.frf, e0.hok, e0.bare⟩
    have I1 := inv_start (CX := L2.CX P w) (E := E) S (A := { A with handled := none }) rfl e00 (vs := [.ref a]) (us := [.ref a]) len.symm rv x1
    have I0 : L2.Inv (cxE P w K mg base N qual (defScope st) f cdv A outer s H E) [] (L2.start N [.ref a]) H s1 :=
      ⟨⟨I1.ok.mod, I1.ok.kind, I1.ok.glob, I1.ok.blt, I1.ok.above, I1.ok.inj, I1.ok.has, I1.ok.cab, (fun z => nomatch z), I1.ok.frames, I1.ok.stk, I1.ok.exf, I1.ok.bs, I1.ok.bsz, I1.ok.noex, I1.ok.exfs, I1.ok.funs, I1.ok.frf⟩, I1.os, I1.bare, I1.base, I1.loc, I1.cell, I1.free, I1.freeC, I1.pin, I1.hok, I1.len⟩
    refine ⟨(e0.mod.nolimit.keeps stays).keeps x1.toInCall.keep, codeAny_func (wpAny_mono (ht.run [] s1 _ H _ I0 ht2) (fun fl s2 h2 => ?_) fun _ _ h2 => h2)⟩
    cases fl with
    | brk => exact h2.elim fun _ h => h.elim fun _ h => h.2.elim
    | cont => exact h2.elim fun _ h => h.elim fun _ h => h.2.elim
    | next => exact h2.elim fun σ2 h => h.elim fun H2 h => ⟨V.non, H2, h.1.os, h.1.bare, h.1.base, h.1.hok, rfl, h.2⟩
    | ret u => exact h2.elim fun v h => h.elim fun σ2 h => h.elim fun H2 h => ⟨v, H2, h.1.os, h.1.bare, h.1.base, h.1.hok, h.2.1, h.2.2⟩
end
/-- a dict display of constant texts, each with a number -/
def mDispI (kvs : List (Str × Int)) : ME := fun sd Q => Q (.dict (kvs.map fun kv => (.str kv.1, .int kv.2))) sd
section
variable {K : PySem.W.Frag} {X : Cx} {C : Ct}
theorem tPairs_i : ∀ (kvs : List (Str × Int)) (σ : L2.St) (H : Hp) (Q : List (V × V) → Hp → Prop), Q (kvs.map fun kv => (V.str kv.1, V.int kv.2)) H → tPairs (kvs.map fun kv => (tC (.str kv.1), tC (.int kv.2))) σ H Q
  | [], _, _, _, h => h
  | (x, y) :: r, σ, H, Q, h => tPairs_i r σ H (fun ps H3 => Q ((V.str x, V.int y) :: ps) H3) h
def keysI (kvs : List (Str × Int)) : List (Key × V) := kvs.map fun kv => (Sum.inr kv.1, V.int kv.2)
theorem rpD_keysI {F : Hp} : ∀ kvs : List (Str × Int), RpD K F (keysI kvs) (kvs.map fun kv => (.str kv.1, .int kv.2))
  | [] => .nil
  | (x, y) :: r => .cons (k := Sum.inr x) (.int y) (rpD_keysI r)
theorem pd_dispI {pos : Pos} {keys : List (Option Expr)} {values : List Expr} (kvs : List (Str × Int)) (h : PPs X pos keys values (kvs.map fun kv => (tC (.str kv.1), tC (.int kv.2)))) (hall : keys.all (·.isSome) = true) (hl : keys.length = values.length) (h0 : keys ≠ [])
    (h15 : keys.length ≤ 15) (hk : kvs.length ≤ 15) (hm : mergeK [] (keysI kvs) = keysI kvs) : PE X (.Dict keys values pos) (tD X.K C (mDispI kvs)) := pe_imp (pe_disp h hall hl h0 h15) (by
  rintro σ H Q ⟨F, sd, Qd, R, h, k⟩ p hp
  refine tPairs_i kvs σ _ _ ?_
  refine ⟨upd_same, keysI kvs, by unfold keysI; rw [List.map_map]; rfl, by unfold keysI; rw [List.length_map]; exact hk, ?_⟩
  rw [hm]
  have e2 : upd (upd H p (.dK [])) p (.dK (keysI kvs)) = upd H p (.dK (keysI kvs)) := by
    funext b; unfold upd; by_cases q : b = p <;> simp [q]
  rw [e2]
  exact k (.ref p) _ _ _ sd (R.al (.new hp)) (.al R (.new hp)) (.dct upd_same (rpD_keysI kvs)) h)
end
end DL
namespace DL
open PySem PySem.Spec PyProof.Rows L2
def opStarts : PyData → PyData → Option PyData
  | .str a, .str b => some (.bool (Txt.startswith a b))
  | _, _ => none
def opSplit : PyData → PyData → Option PyData
  | .str a, .str b => if (b.length == 0) = false ∧ a.length + 2 ≤ sizeLine then some (.list ((Txt.split a b).map .str)) else none
  | _, _ => none
def opZfill : PyData → PyData → Option PyData
  | .str a, .int i => if PadOk i = true then some (.str (Txt.zfill a i)) else none
  | _, _ => none
def opAscii : PyData → Option PyData
  | .str a => some (.bool (Txt.isascii a))
  | _ => none
def opDigit : PyData → Option PyData
  | .str a => some (.bool (Txt.isdigit a))
  | _ => none
def bStrI : List PyData → Option PyData
  | [.int i] => if i.natAbs.log2 < 1920 then some (.str (Str.ofString (toString i))) else none
  | _ => none
def bIntS : List PyData → Option PyData
  | [.str a] => match PySem.intText? a with
    | some n => if a.length ≤ 640 then some (.int n) else none
    | none => none
  | _ => none
/-- range(i, j, c): n turns from lo by steps of c -/
def rangeC (lo c : Int) (n : Nat) : List PyData := (List.range n).map fun i : Nat => .int (lo + (i : Int) * c)
def miRng3 (ma : MA) : MI := fun sd Q => ma sd fun ds s1 => ∃ (i j c : Int) (n : Nat), ds = [.int i, .int j, .int c] ∧ (0 < c ∧ c < 100000 ∧ 0 ≤ i ∧ i < 2 ^ 60 ∧ 0 ≤ j ∧ j < 2 ^ 60) ∧ (if i < j then (j - i - 1) / c + 1 else 0) = (n : Int) ∧ Q (rangeC i c n) s1
/-- s.f(): s a text -/
def mStr0 (f : PyData → Option PyData) (ma : ME) : ME := fun sd Q => ma sd fun a s1 => ∃ s, a = .str s ∧ ∃ r, f (.str s) = some r ∧ Q r s1
section
variable {K : PySem.W.Frag} {X : Cx} {C : Ct}
theorem rc_strI : RLC K (fun xs H Q => ∃ i, xs = [V.int i] ∧ i.natAbs.log2 < 1920 ∧ Q (.str (Str.ofString (toString i))) H) bStrI := by
  intro F H xs as z Q e _ rx h k
  unfold bStrI at h
  split at h
  · obtain ⟨x, rfl, r⟩ := rpA1 rx
    split at h
    · rename_i hl
      cases h
      cases r
      exact ⟨_, rfl, hl, k _ F H .id (.str _)⟩
    · cases h
  · cases h
theorem rc_intS : RLC K (fun xs H Q => ∃ a n, xs = [V.str a] ∧ PySem.intText? a = some n ∧ a.length ≤ 640 ∧ Q (.int n) H) bIntS := by
  intro F H xs as z Q e _ rx h k
  unfold bIntS at h
  split at h
  · obtain ⟨x, rfl, r⟩ := rpA1 rx
    split at h
    · rename_i n hn
      split at h
      · rename_i hl
        cases h
        cases r
        exact ⟨_, n, rfl, hn, hl, k _ F H .id (.int _)⟩
      · cases h
    · cases h
  · cases h
theorem td_str0 {r : V → List V → Hp → VK → Prop} {f : PyData → Option PyData} {ma : ME}
    (L : ∀ (H : Hp) (F : Hp) (s : Str) (z : PyData) (Q : VK), f (.str s) = some z → (∀ v, Rp K F v z → Q v H) → r (.str s) [] H Q) :
    ∀ σ H Q, tD K C (mStr0 f ma) σ H Q → tBM0 K "str" r (tD K C ma) σ H Q := by
  rintro σ H Q ⟨F, sd, Qd, R, h, k⟩
  refine ⟨F, sd, _, R, h, fun x H1 F1 a sd1 R1 S1 rx h1 => ?_⟩
  obtain ⟨s, rfl, z, e, q⟩ := h1
  cases rx
  exact ⟨rfl, L H1 F1 s z Q e fun v rz => k v H1 F1 z sd1 R1 S1 rz q⟩
variable {o e : Expr} {apos cpos : Pos} {ma mb : ME}
theorem pd_ascii (t : PE X (.Call (.Attribute o "isascii" apos) [] [] cpos) (tBM0 X.K "str" (fun x xs H Q => ∃ a, x = V.str a ∧ xs = [] ∧ True ∧ Q (V.bl (Txt.isascii a)) H) (tD X.K C ma))) : PE X (.Call (.Attribute o "isascii" apos) [] [] cpos) (tD X.K C (mStr0 opAscii ma)) := pe_imp t (td_str0 (by
  intro H F s z Q e k
  have e : some (PyData.bool (Txt.isascii s)) = some z := e
  cases e
  exact ⟨s, rfl, rfl, trivial, k _ (.bl _)⟩))
theorem pd_digit (t : PE X (.Call (.Attribute o "isdigit" apos) [] [] cpos) (tBM0 X.K "str" (fun x xs H Q => ∃ a, x = V.str a ∧ xs = [] ∧ True ∧ Q (V.bl (Txt.isdigit a)) H) (tD X.K C ma))) : PE X (.Call (.Attribute o "isdigit" apos) [] [] cpos) (tD X.K C (mStr0 opDigit ma)) := pe_imp t (td_str0 (by
  intro H F s z Q e k
  have e : some (PyData.bool (Txt.isdigit s)) = some z := e
  cases e
  exact ⟨s, rfl, rfl, trivial, k _ (.bl _)⟩))
theorem pd_starts (t : PE X (.Call (.Attribute o "startswith" apos) [e] [] cpos) (tBM X.K "str" (fun x xs H Q => ∃ a b, x = V.str a ∧ xs = [V.str b] ∧ Q (V.bl (Txt.startswith a b)) H) (tD X.K C ma) (tCons (tD X.K C mb) tNil))) : PE X (.Call (.Attribute o "startswith" apos) [e] [] cpos) (tD X.K C (mStrM opStarts ma mb)) := pe_imp t (td_strM1 (by
  intro F H s y b z Q e ry h k
  cases b with
  | str b' =>
    cases ry
    have h : some (PyData.bool (Txt.startswith s b')) = some z := h
    cases h
    exact ⟨_, _, rfl, rfl, k _ (.bl _)⟩
  | _ => cases h))
theorem pd_zfill (t : PE X (.Call (.Attribute o "zfill" apos) [e] [] cpos) (tBM X.K "str" (fun x xs H Q => ∃ a i, x = V.str a ∧ xs = [V.int i] ∧ PadOk i = true ∧ Q (V.str (Txt.zfill a i)) H) (tD X.K C ma) (tCons (tD X.K C mb) tNil))) : PE X (.Call (.Attribute o "zfill" apos) [e] [] cpos) (tD X.K C (mStrM opZfill ma mb)) := pe_imp t (td_strM1 (by
  intro F H s y b z Q e ry h k
  cases b with
  | int i =>
    cases ry
    have h : (if PadOk i = true then some (PyData.str (Txt.zfill s i)) else none) = some z := h
    split at h
    · rename_i hp
      cases h
      exact ⟨_, _, rfl, rfl, hp, k _ (.str _)⟩
    · cases h
  | _ => cases h))
theorem rpA_ofStrs {F : Hp} : ∀ ys : List Str, RpA K F (ys.map V.str) (ys.map .str)
  | [] => .nil
  | y :: ys => .cons (.str y) (rpA_ofStrs ys)
theorem pd_split (t : PE X (.Call (.Attribute o "split" apos) [e] [] cpos) (tBM X.K "str" (fun x xs H Q => ∃ a b, x = V.str a ∧ xs = [V.str b] ∧ (b.length == 0) = false ∧ a.length + 2 ≤ sizeLine ∧ rNewStrs (Txt.split a b) H Q) (tD X.K C ma) (tCons (tD X.K C mb) tNil))) : PE X (.Call (.Attribute o "split" apos) [e] [] cpos) (tD X.K C (mStrM opSplit ma mb)) := pe_imp t (by
  rintro σ H Q ⟨F, sd, Qd, R, h, k⟩
  refine ⟨F, sd, _, R, h, fun x H1 F1 a sd1 R1 S1 rx h1 => ?_⟩
  obtain ⟨s, rfl, h1⟩ := h1
  cases rx
  refine ⟨rfl, F1, sd1, _, R1, h1, fun y H2 F2 b sd2 R2 S2 ry h2 => ?_⟩
  obtain ⟨z, e, q⟩ := h2
  cases b with
  | str b' =>
    cases ry
    have e : (if (b'.length == 0) = false ∧ s.length + 2 ≤ sizeLine then some (PyData.list ((Txt.split s b').map .str)) else none) = some z := e
    split at e
    · rename_i hc
      cases e
      refine ⟨s, b', rfl, rfl, hc.1, hc.2, fun p hp => ?_⟩
      exact k (.ref p) _ _ _ sd2 (R2.al (.new hp)) ((S1.trans S2).trans (.al R2 (.new hp))) (.lst upd_same (rpA_ofStrs _)) q
    · cases e
  | _ => cases e)
theorem wk_rangeC {F : Hp} {lo c : Int} {n : Nat} : Wk K (Itc lo c n) F (rangeC lo c n) := by
  have hl : (rangeC lo c n).length = n := by simp [rangeC]
  refine ⟨fun _ => True, YFn fun i => .int (lo + (i : Nat) * c), by rw [hl]; exact walk_rangeC, fun _ _ => trivial, fun i H x H' F' hi e1 e2 y => ?_⟩
  obtain ⟨rfl, rfl⟩ := y
  refine ⟨F', _, .id, ?_, .int _⟩
  unfold rangeC
  rw [List.getElem?_map, List.getElem?_range (by rw [hl] at hi; exact hi)]
  rfl
theorem rgC_ok {i j c : Int} {n : Nat} (h : 0 < c ∧ c < 100000 ∧ 0 ≤ i ∧ i < 2 ^ 60 ∧ 0 ≤ j ∧ j < 2 ^ 60) (hn : (if i < j then (j - i - 1) / c + 1 else 0) = (n : Int)) : RgC i j c n := by
  obtain ⟨c0, c1, i0, i1, j0, j1⟩ := h
  have sz : Builtin.Range.rangeSize i j c = (n : Int) := by
    unfold Builtin.Range.rangeSize
    rw [if_pos (by omega)]
    exact hn
  have nb : (n : Int) ≤ 2 ^ 61 := by
    rw [← hn]
    split
    · have := Int.ediv_le_self c (show 0 ≤ j - i - 1 by omega)
      omega
    · decide
  have fit : ∀ z : Int, 0 ≤ z → z ≤ 2 ^ 61 → Builtin.Range.rangeFitsLong z = true := by
    intro z h0 h1
    unfold Builtin.Range.rangeFitsLong
    simp
    omega
  refine ⟨by omega, by omega, ?_, sz⟩
  unfold Builtin.Range.small
  rw [sz, fit i i0 (by omega), fit j j0 (by omega), fit c (by omega) (by omega), fit n (by omega) nb, if_pos (by omega), fit (j + (c - 1)) (by omega) (by omega)]
  simp
theorem d_range3 {tg a b c : Expr} {p pos : Pos} {m : MA} (hm : X.mg "range" = none) (h : PA X [a, b, c] (tDA X.K C m)) (hg : Gl X "range" := by rfl) (hs : starEach [a, b, c] X.env = (false, eval a X.env) :: starEach [b, c] X.env := by rfl) (hs2 : ((backTo pos (starEach [b, c] X.env)).any fun x => x.fst) = false := by rfl) : PI X tg (.Call (.Name "range" p) [a, b, c] [] pos) (tDI X.K C (miRng3 m)) := pi_imp (pi_range3 hg hm h hs hs2) (by
  rintro σ H R0 ⟨F, sd, Qd, R, h, k⟩
  refine ⟨F, sd, _, R, h, fun vs H1 F1 ds sd1 R1 S1 rs q => ?_⟩
  obtain ⟨i, j, c, n, rfl, hc, hn, q⟩ := q
  cases rs with
  | cons r rs =>
    obtain ⟨y, z, rfl, r', r2⟩ := rpA2 rs
    cases r; cases r'; cases r2
    exact ⟨i, j, c, n, rfl, rgC_ok hc hn, k _ H1 F1 _ sd1 R1 S1 wk_rangeC q⟩)
end
end DL
namespace DL
open PySem PySem.Spec PyProof.Rows L2
/-- all that is still owned holds flat things only -/
def flatOwn (sd : DSt) : Prop := (∀ j ds, sget sd j = .own ds → ∀ d ∈ ds, flatD d = true) ∧ ∀ j c es, sget sd j ≠ .ins c es
/-- e, with a flat value, reads slot i, which owns a list and goes on owning it -/
def mPeek (i : Nat) (me : ME) : ME := fun sd Q => ∃ ds, sget sd i = .own ds ∧ flatOwn sd ∧ me sd fun d s1 => flatD d = true ∧ s1 = sset sd i (.va (.list ds)) ∧ Q d sd
/-- return x, x a slot that owns its list -/
def mRetV (i : Nat) : MS := fun D sd => ∃ ds, sget sd i = .own ds ∧ D.rt (.own ds) sd
/-- text.split(sign), a list that nobody else holds -/
def mrSplit (ma mb : ME) : MR := fun sd Q => ma sd fun a s1 => (∃ z, a = .str z) ∧ mb s1 fun b s2 => ∃ xs, opSplit a b = some (.list xs) ∧ Q (.own xs) s2
theorem rp_flat {K : PySem.W.Frag} {F F' : Hp} : ∀ {d : PyData} {v : V}, flatD d = true → Rp K F v d → Rp K F' v d
  | .none, _, _, .non => .non
  | .bool _, _, _, .bl b => .bl b
  | .int _, _, _, .int i => .int i
  | .str _, _, _, .str x => .str x
theorem rpA_flat {K : PySem.W.Frag} {F F' : Hp} : ∀ {ds : List PyData} {vs : List V}, (∀ d ∈ ds, flatD d = true) → RpA K F vs ds → RpA K F' vs ds
  | [], _, _, .nil => .nil
  | _ :: _, _, h, .cons a r => .cons (rp_flat (h _ (List.mem_cons_self ..)) a) (rpA_flat (fun d m => h d (List.mem_cons_of_mem _ m)) r)
section
variable {K : PySem.W.Frag} {X : Cx} {C : Ct}
theorem Rs.peek {F H F1 H1 : Hp} {σ : L2.St} {sd : DSt} {i : Nat} {ds : List PyData} (R : Rs K C F H σ sd) (h : sget sd i = .own ds) (fl : flatOwn sd) (R1 : Rs K C F1 H1 σ (sset sd i (.va (.list ds)))) (S1 : Stp σ sd F H F1 H1 (sset sd i (.va (.list ds)))) :
    Rs K C F H1 σ sd ∧ Stp σ sd F H F H1 sd := by
  have hl : i < sd.length := by
    by_cases z : i < sd.length
    · exact z
    · rw [sget_out (by omega)] at h; cases h
  refine ⟨⟨R.len, R.grow, fun a o e => R1.ext a o (S1.fr a o e), R.new, R1.keep, R1.still, fun j => ?_, R.sep⟩, ⟨Same.refl _, S1.kp, fun _ z => z, fun _ _ z => .inl z, S1.st⟩⟩
  by_cases ji : j = i
  · subst ji
    have a := R.slot j
    have b := R1.slot j
    rw [h] at a ⊢
    rw [sget_sset hl] at b
    obtain ⟨p, vs, e1, e2, e3, e4, r⟩ := a
    obtain ⟨v, e5, r1⟩ := b
    rw [e1] at e5
    cases e5
    cases r1 with
    | lst e6 r1 => exact ⟨p, _, e1, R1.ext _ _ e6, e3, e4, rpA_flat (fl.1 j ds h) r1⟩
  · have a := R.slot j
    have b := R1.slot j
    rw [sget_sset_ne ji] at b
    generalize hs : sget sd j = s at a b
    cases s with
    | no => trivial
    | va d => exact a
    | scr ns => exact a
    | exc q => exact a
    | ins c es => exact absurd hs (fl.2 j c es)
    | own es =>
      obtain ⟨p, vs, e1, e2, e3, e4, r⟩ := a
      obtain ⟨p', vs', f1, f2, f3, f4, r'⟩ := b
      rw [e1] at f1
      cases f1
      exact ⟨p, vs', e1, f2, e3, e4, rpA_flat (fl.1 j es hs) r'⟩
    | well n =>
      obtain ⟨p, x, y, z, e1, e2, e3, e4, r⟩ := a
      obtain ⟨p', x', y', z', f1, f2, f3, f4, r'⟩ := b
      rw [e1] at f1
      cases f1
      exact ⟨p, x', y', z', e1, f2, e3, e4, r'⟩
theorem pd_peek {i : Nat} {e : Expr} {me : ME} (he : PE X e (tD X.K C me)) : PE X e (tD X.K C (mPeek i me)) := pe_imp he (by
  rintro σ H Q ⟨F, sd, Qd, R, ⟨ds, h0, fl, h⟩, k⟩
  refine ⟨F, sd, _, R, h, fun v H1 F1 d sd1 R1 S1 rv hh => ?_⟩
  obtain ⟨fd, rfl, q⟩ := hh
  obtain ⟨R2, S2⟩ := R.peek h0 fl R1 S1
  exact k v H1 F d sd R2 S2 (rp_flat fd rv) q)
theorem pds_retV {i : Nat} {y : Str} {p pos : Pos} (he : PE X (.Name y p) (tVar i)) : PS X (.Return (some (.Name y p)) pos) (tDS X.K C (mRetV i)) := ps_imp (ps_ret he) (by
  rintro D σ H ⟨F, sd, Dd, R, E, ds, h0, h⟩
  have a := R.slot i
  rw [h0] at a
  obtain ⟨q, vs, e1, e2, e3, e4, r⟩ := a
  refine ⟨.ref q, gv_some.mp e1, ?_⟩
  exact E.rt F H σ sd (.ref q) (.own ds) (Same.refl _) R ⟨q, vs, rfl, e2, e3, e4, r⟩ (fun _ q' e => by cases e; exact e4) h)
variable {o e : Expr} {apos cpos : Pos} {ma mb : ME}
theorem pdr_split (t : PE X (.Call (.Attribute o "split" apos) [e] [] cpos) (tBM X.K "str" (fun x xs H Q => ∃ a b, x = V.str a ∧ xs = [V.str b] ∧ (b.length == 0) = false ∧ a.length + 2 ≤ sizeLine ∧ rNewStrs (Txt.split a b) H Q) (tD X.K C ma) (tCons (tD X.K C mb) tNil))) : PE X (.Call (.Attribute o "split" apos) [e] [] cpos) (tDR X.K C (mrSplit ma mb)) := pe_imp t (by
  rintro σ H Q ⟨F, sd, Qd, R, h, k⟩
  refine ⟨F, sd, _, R, h, fun x H1 F1 a sd1 R1 S1 rx h1 => ?_⟩
  obtain ⟨⟨s, rfl⟩, h1⟩ := h1
  cases rx
  refine ⟨rfl, F1, sd1, _, R1, h1, fun y H2 F2 b sd2 R2 S2 ry h2 => ?_⟩
  obtain ⟨z, e, q⟩ := h2
  cases b with
  | str b' =>
    cases ry
    have e : (if (b'.length == 0) = false ∧ s.length + 2 ≤ sizeLine then some (PyData.list ((Txt.split s b').map .str)) else none) = some (.list z) := e
    split at e
    · rename_i hc
      cases e
      refine ⟨s, b', rfl, rfl, hc.1, hc.2, fun p hp => ?_⟩
      have S := S1.trans S2
      refine k (.ref p) _ F2 (.own _) sd2 (R2.allocH hp) (S.trans ⟨Same.refl _, fun a o e _ => same_new hp a o e, fun _ z => z, fun _ _ e => .inl e, fun a e => ?_⟩) ⟨p, _, rfl, upd_same, R2.free hp, R2.still p hp, rpA_ofStrs _⟩ (fun _ q' e => ?_) (fun _ q' e => ?_) q
      · by_cases z : a = p
        · subst z; exact hp
        · rw [upd_ne z] at e; exact e
      · cases e; exact (R2.fresh hp).1
      · cases e; exact S.st p hp
    · cases e
  | _ => cases e)
end
end DL
namespace DL
open PySem PySem.Spec PyProof.Rows L2
theorem RoomG.make {k : Nat} {A : Around} (h : RoomG (k + 1) A) (C : Addr) (us : List Value) (kw : List (Str × Value)) : RoomG k (A.under (.builtin "type.__call__" { pos := .ref C :: us, kw := kw })) := ⟨h.r.make C us kw, by
  unfold Around.under
  dsimp only
  rw [h.g]
  rfl⟩
section
variable {X : Cx} {k : Nat} {f C : Addr} {fd : FuncData} {ps : List Str} {sp : Sp} {E : L2.St → XK}
theorem run_makeG {pins : List (Addr × Obj)} {σ : L2.St} {H : Hp} {s : Shared} {Q : VK} {us : List Value} {vs : List V} (M : Mk X.K C f) (F : FnG X.prog X.w X.K X.mg X.base k f fd ps sp) (hr : RoomG (k + 1) X.A) (hb : Binds X.K fd ps []) (hx : PassesAt (L2.CX X.prog X.w) X σ (E σ))
    (I : L2.Inv X pins σ H s) (r : Vals vs us) (h : ∀ x dx, H x = none → H dx = none → dx ≠ x → sp (.ref x :: vs) (upd (upd H dx (.own x)) x (.ins C dx [])) (fun v H2 => v = .non ∧ Q (.ref x) H2) (E σ)) :
    wpAny (model X.prog X.w) X.A (call (.ref C) us) (EP X pins σ Q) X.xe s := by
  have I1 := I.made (C := C)
  have f1 := I.hok.fresh (a := s.heap.objs.size) (Nat.le_refl _)
  have f2 := I.hok.fresh (a := s.heap.objs.size + 1) (Nat.le_succ _)
  have hs := h (s.heap.objs.size + 1) s.heap.objs.size f2 f1 (Nat.ne_of_lt (Nat.lt_succ_self _))
  have rr : Vals (V.ref (s.heap.objs.size + 1) :: vs) (Value.ref (s.heap.objs.size + 1) :: us) := .cons rfl r
  have hl : ((Value.ref (s.heap.objs.size + 1) :: us) ++ []).length = ps.length := by rw [List.append_nil, ← rr.length]; exact F.len _ _ _ _ hs
  have b := hb _ (Value.ref (s.heap.objs.size + 1) :: us) I1.kIn hl
  rw [List.append_nil] at b
  refine wpAny_call (make_map I.kIn M.makes M.init (by have := M.fn; simpa [PySem.W.isFn] using this) (codeAny_mono (F.run (hr.make C us []) (I1.env0.make C us []) b rr hs) fun r s' hq => ?_))
  cases r with
  | error e => exact hx pins _ _ e s' I1 hq
  | ok fl =>
    cases fl with
    | ret u =>
      have q := I1.after hq
      obtain ⟨v, H2, I2, rv, hv, hq2⟩ := q
      subst hv
      cases rv
      exact ⟨rfl, .ref _, H2, I2, rfl, hq2⟩
    | next => exact hq
    | brk => exact hq
    | cont => exact hq
/-- C(e, ..) of an own class with __init__ -/
def tMakeG (C : Addr) (sp : Sp) (E : L2.St → XK) (t : TA) : TE := fun σ H Q => t σ H fun vs H1 => ∀ x dx, H1 x = none → H1 dx = none → dx ≠ x → sp (.ref x :: vs) (upd (upd H1 dx (.own x)) x (.ins C dx [])) (fun v H2 => v = .non ∧ Q (.ref x) H2) (E σ)
theorem pe_makeG {x : Str} {p pos : Pos} {e : Expr} {es : List Expr} {t : TA} (M : Mk X.K C f) (F : FnG X.prog X.w X.K X.mg X.base k f fd ps sp) (hr : RoomG (k + 1) X.A) (hg : Gl X x) (hm : X.mg x = some (.ref C)) (hb : Binds X.K fd ps []) (hx : ∀ σ, PassesAt (L2.CX X.prog X.w) X σ (E σ))
    (ha : PA X (e :: es) t) (hdb : (x == ("__debug__" : Str)) = false) (he : starEach (e :: es) X.env = (false, eval e X.env) :: starEach es X.env) (hpl : (backTo pos (starEach es X.env)).any (·.1) = false) :
    PE X (.Call (.Name x p) (e :: es) [] pos) (tMakeG C sp E t) :=
  ⟨fun pins s σ H Q I h => wpAny_Call_Name_kw (ld_glob I hg hm (PySem.W.callWith_K (h₀ := X.base) I.ok.mod.kin M.kp (thn (ha.run pos pins s σ H _ I h) fun us s1 hh => by
    obtain ⟨vs, H1, I1, r, q⟩ := hh
    exact ⟨I1.kIn, run_makeG M F hr hb (hx σ) I1 r q⟩) he hpl) hdb)⟩
theorem ins_inst {P : Program} {w : World} {H : Hp} {h : Heap} {a dx : Addr} {fs : List (Str × V)} (hok : HOk P w H h) (e : H a = some (.ins C dx fs)) : ∃ ox od, PySem.W.InstAt h a ox C od := by
  obtain ⟨mA, o, -⟩ := ins_get hok e
  have n := o.ns
  unfold Heap.Ns1 at n
  obtain ⟨o2, es, ep, h2, -⟩ := n
  exact ⟨_, some o2, o.obj, rfl, rfl, h2⟩
/-- a op b by the def of the left one's class -/
def rBinO (C : Addr) (sp : Sp) : R2 := fun x y H Q => ∃ a b dx dy fs gs, x = .ref a ∧ y = .ref b ∧ H a = some (.ins C dx fs) ∧ H b = some (.ins C dy gs) ∧ sp [x, y] H Q fun _ _ _ => False
theorem op_binO {op : Operator} (hf : PySem.W.findIn X.K (.ref C) (dunder op.info.snd) = some (some (.ref f))) (hfn : PySem.W.isFn X.K (.ref f) = true) (sf : PySem.W.selfFirst X.K C = true) (F : FnG X.prog X.w X.K X.mg X.base k f fd ps sp) (hb : Binds X.K fd ps []) (hr : RoomG k X.A) : OpR X (binaryOp op) (rBinO C sp) := by
  intro pins s σ H x y v u Q I rx ry h
  obtain ⟨a, b, dx, dy, fs, gs, rfl, rfl, h1, h2, q⟩ := h
  cases (show v = Value.ref a from rx)
  cases (show u = Value.ref b from ry)
  obtain ⟨m, fr⟩ := I.fr
  obtain ⟨ox, od, J⟩ := ins_inst I.hok h1
  obtain ⟨oy, od', J'⟩ := ins_inst I.hok h2
  refine PySem.W.binop_K fr I.ok.mod.kin J J'.type sf hf hfn ?_
  refine wpAny_mono (wp_callG (E := fun _ _ _ _ => False) F hr hb (fun pins H s e s' _ z => ?_) I (vs := [V.ref a, V.ref b]) (.cons (show L2.RelV (V.ref a) (.ref a) from rfl) (.cons (show L2.RelV (V.ref b) (.ref b) from rfl) .nil)) q) (fun v s' hq => ?_) fun _ _ z => z
  · obtain ⟨_, _, _, _, _, _, _, _, _, _, _, _, z⟩ := z
    exact z.elim
  · obtain ⟨z, H2, I2, rz, hq⟩ := hq
    exact SlX.cmpback rz ⟨z, H2, I2, rz, hq⟩
end
theorem RpF.get {K : PySem.W.Frag} {F : Hp} {n : Str} {d : PyData} : ∀ {fs : List (Str × V)} {es : List PyData}, RpF K F fs es → fget n es = some d → ∃ v, fs.lookup n = some v ∧ Rp K F v d
  | _, _, .nil, h => by cases h
  | _, _, .cons (n := m) (v := v) (fs := fs) (d := d') (es := es) a r, h => by
    have h : (if n = m then some d' else fget n es) = some d := h
    by_cases e : n = m
    · rw [if_pos e] at h
      cases h
      exact ⟨v, by simp [List.lookup, e], a⟩
    · rw [if_neg e] at h
      obtain ⟨w, h1, h2⟩ := RpF.get r h
      have : (n == m) = false := beq_false_of_ne e
      exact ⟨w, by simp only [List.lookup, this]; exact h1, h2⟩
theorem RpF.put {K : PySem.W.Frag} {F : Hp} {n : Str} {v : V} {d : PyData} (q : Rp K F v d) : ∀ {fs : List (Str × V)} {es : List PyData}, RpF K F fs es → RpF K F (putF n v fs) (fput n d es)
  | _, _, .nil => .cons q .nil
  | _, _, .cons (n := m) (v := v') (fs := fs) (d := d') (es := es) a r => by
    show RpF K F (if m = n then (m, v) :: fs else (m, v') :: putF n v fs) (if m = n then .tuple [.str m, d] :: es else .tuple [.str m, d'] :: fput n d es)
    by_cases e : m = n
    · rw [if_pos e, if_pos e]; exact .cons q r
    · rw [if_neg e, if_neg e]; exact .cons a (RpF.put q r)
theorem RpF.length {K : PySem.W.Frag} {F : Hp} : ∀ {fs : List (Str × V)} {es : List PyData}, RpF K F fs es → fs.length = es.length
  | _, _, .nil => rfl
  | _, _, .cons _ r => by simp [RpF.length r]
/-- e.n, e a frozen instance of the class c -/
def opAttr (c n : Str) : PyData → Option PyData
  | .dict [(.none, .tuple (.str c' :: es))] => if c' = c then fget n es else none
  | _ => none
/-- e.n, e the instance in slot i that nobody else holds -/
def mAttrO (i : Nat) (c n : Str) : ME := fun sd Q => ∃ es d, sget sd i = .ins c es ∧ fget n es = some d ∧ Q d sd
/-- x.n = e, x the instance in slot i that nobody else holds -/
def mSetF (i : Nat) (c n : Str) (me : ME) : MS := fun D sd => me sd fun d s1 => ∃ es, sget s1 i = .ins c es ∧ es.length < 900 ∧ D.nx (sset s1 i (.ins c (fput n d es)))
theorem rp_obj {K : PySem.W.Frag} {F : Hp} {x : V} {c : Str} {es : List PyData} (r : Rp K F x (objD c es)) : ∃ a Cc dx fs, x = .ref a ∧ F a = some (.ins Cc dx fs) ∧ ObjC K c Cc ∧ RpF K F fs es := by
  cases r with
  | dct _ rd => exact (rpD_key rd rfl).elim
  | ins h o r => exact ⟨_, _, _, _, rfl, h, o, r⟩
theorem opAttr_inv {c n : Str} {d z : PyData} (h : opAttr c n d = some z) : ∃ es, d = objD c es ∧ fget n es = some z := by
  unfold opAttr at h
  split at h
  · split at h
    · rename_i c' es e
      subst e
      exact ⟨es, rfl, h⟩
    · cases h
  · cases h
section
variable {X : Cx} {C : Ct}
theorem pd_attr {c n : Str} {e : Expr} {me : ME} {pos : Pos} (na : ∀ Cc, ObjC X.K c Cc → NoAttr X.K Cc n) (he : PE X e (tD X.K C me)) (hb : attributeBase e n X.env (eval e X.env) = eval e X.env := by rfl) : PE X (.Attribute e n pos) (tD X.K C (mOp1 (opAttr c n) me)) :=
  pe_imp (pe_fld he hb) (by
  rintro σ H Q ⟨F, sd, Qd, R, h, k⟩
  refine ⟨F, sd, _, R, h, fun x H1 F1 d sd1 R1 S1 rx h1 => ?_⟩
  obtain ⟨z, ez, q⟩ := h1
  obtain ⟨es, rfl, hg⟩ := opAttr_inv ez
  obtain ⟨a, Cc, dx, fs, rfl, hF, oc, rf⟩ := rp_obj rx
  obtain ⟨v, hl, rv⟩ := rf.get hg
  exact ⟨a, Cc, dx, fs, v, rfl, R1.ext _ _ hF, oc.cl, na Cc oc, hl, k v H1 F1 z sd1 R1 S1 rv q⟩)
theorem pd_attrO {c n : Str} {i : Nat} {e : Expr} {pos : Pos} (na : ∀ Cc, ObjC X.K c Cc → NoAttr X.K Cc n) (he : PE X e (tVar i)) (hb : attributeBase e n X.env (eval e X.env) = eval e X.env := by rfl) : PE X (.Attribute e n pos) (tD X.K C (mAttrO i c n)) :=
  pe_imp (pe_fld he hb) (by
  rintro σ H Q ⟨F, sd, Qd, R, ⟨es, z, hs, hg, q⟩, k⟩
  have a := R.slot i
  rw [hs] at a
  obtain ⟨p, Cc, dx, fs, e1, e2, e3, e4, oc, rf⟩ := a
  obtain ⟨v, hl, rv⟩ := rf.get hg
  exact ⟨.ref p, gv_some.mp e1, p, Cc, dx, fs, v, rfl, e2, oc.cl, na Cc oc, hl, k v H F z sd R .refl rv q⟩)
theorem Rs.setIns {K : PySem.W.Frag} {F H : Hp} {σ : L2.St} {sd : DSt} (R : Rs K C F H σ sd) {i : Nat} {c : Str} {es es' : List PyData} {p Cc dx : Addr} {fs fs' : List (Str × V)} (h : sget sd i = .ins c es) (e : gv σ i = some (.ref p)) (hp : H p = some (.ins Cc dx fs)) (oc : ObjC K c Cc) (r : RpF K F fs' es') :
    Rs K C F (upd H p (.ins Cc dx fs')) σ (sset sd i (.ins c es')) := by
  have hi := R.slot i
  rw [h] at hi
  obtain ⟨p', Cc', dx', fs2, e1, e2, e3, e4, oc', r2⟩ := hi
  rw [e] at e1; cases e1
  have hl : i < sd.length := R.lt_of_own (by rw [h]; intro z; cases z)
  refine ⟨by rw [sset_length]; exact R.len, R.grow, fun a o z => ?_, R.new, fun a o z n => ?_, fun a z => ?_, fun j => ?_, fun j k q hjk o1 o2 z1 => ?_⟩
  · by_cases q : a = p
    · subst q; rw [e3] at z; cases z
    · rw [upd_ne q]; exact R.ext a o z
  · by_cases q : a = p
    · subst q
      rcases e4 with e4 | e4
      · exact absurd e4.2 n
      · rw [e4.2] at z; cases z
    · rw [upd_ne q]; exact R.keep a o z n
  · by_cases q : a = p
    · subst q; rw [upd_same] at z; cases z
    · rw [upd_ne q] at z; exact R.still a z
  · by_cases hj : j = i
    · subst hj
      rw [sget_sset hl]
      exact ⟨p, Cc, dx, fs', e, upd_same, e3, e4, oc, r⟩
    · rw [sget_sset_ne hj]
      refine (R.slot j).grow (Same.refl _) fun q x o eq eh en => ?_
      have : q ≠ p := fun z => by
        subst z
        exact R.sep i j q (Ne.symm hj) (by rw [h]; rfl) o e eq
      rw [upd_ne this]; exact ⟨eh, en⟩
  · have sw : ∀ m, isOwn (sget (sset sd i (.ins c es')) m) = true → isOwn (sget sd m) = true := fun m o => by
      by_cases hm : m = i
      · subst hm; rw [h]; rfl
      · rwa [sget_sset_ne hm] at o
    exact R.sep j k q hjk (sw j o1) (sw k o2) z1
theorem pds_setF {c n : Str} {i : Nat} {o value : Expr} {pos pos' : Pos} {me : ME} (na : ∀ Cc, ObjC X.K c Cc → NoAttr X.K Cc n) (ho : PE X o (tVar i)) (hv : PE X value (tD X.K C me)) (hs : swapsWith value (some (.Attribute o n pos')) pos.line X.env = pure false := by rfl) :
    PS X (.Assign [.Attribute o n pos'] value pos) (tDS X.K C (mSetF i c n me)) := ps_imp (ps_fld ho hv hs) (by
  rintro D σ H ⟨F, sd, Dd, R, E, h⟩
  refine ⟨F, sd, _, R, h, fun v H1 F1 d sd1 R1 S1 rv hh => ?_⟩
  obtain ⟨es, hs, hl, q⟩ := hh
  have a := R1.slot i
  rw [hs] at a
  obtain ⟨p, Cc, dx, fs, e1, e2, e3, e4, oc, rf⟩ := a
  refine ⟨.ref p, gv_some.mp e1, p, Cc, dx, fs, rfl, e2, oc.cl, na Cc oc, by rw [rf.length]; omega, ?_⟩
  exact E.nx F1 _ σ _ S1.fr (R1.setIns hs e1 e2 oc (rf.put rv)) q)
end
abbrev OSpec := List PyData → List PyData → (S → List PyData → Prop) → (String → List PyData → Prop) → Prop
structure PostO (K : PySem.W.Frag) (c : Str) (p : Addr) (F H F' H' : Hp) (es' : List PyData) : Prop where
  fr : Same F F'
  ext : Same F' H'
  kp : ∀ a o, a ≠ p → H a = some o → H' a = some o
  nw : ∀ a o, F' a = some o → F a = some o ∨ H a = none
  ob : ∃ Cc dx fs, H' p = some (.ins Cc dx fs) ∧ F' p = none ∧ ObjC K c Cc ∧ RpF K F' fs es'
def spO (K : PySem.W.Frag) (CN : String → Option Addr) (c : Str) (spec : OSpec) : Sp := fun vs H Q E => ∃ F p ws Cc dx fs es ds Qd Ed, vs = .ref p :: ws ∧ Same F H ∧ F p = none ∧ H p = some (.ins Cc dx fs) ∧ ObjC K c Cc ∧ RpF K F fs es ∧ RpA K F ws ds ∧ spec es ds Qd Ed ∧
  (∀ v H' F' r es', PostO K c p F H F' H' es' → ResOk K F' H H' v r → Qd r es' → Q v H') ∧ ∀ cn a H' F' es', CN cn = some a → PostO K c p F H F' H' es' → Ed cn es' → E (.ref a) none H'
def slotsO (N : Nat) (c : Str) (es ds : List PyData) : DSt := .ins c es :: slots0 (N - 1) ds
def endO (c : Str) (Q : S → List PyData → Prop) : DE := { nx := fun sd => ∃ es, sget sd 0 = .ins c es ∧ Q (.va .none) es, rt := fun r sd => ∃ es, sget sd 0 = .ins c es ∧ Q r es }
section
variable {P : Program} {w : World} {K : PySem.W.Frag} {mg : Str → Option Value} {base : Heap} {CN : String → Option Addr}
theorem rs_startO {F H : Hp} {N : List Str} {c : Str} {p Cc dx : Addr} {fs : List (Str × V)} {vs : List V} {es ds : List PyData} (e : Same F H) (hF : F p = none) (hp : H p = some (.ins Cc dx fs)) (oc : ObjC K c Cc) (rf : RpF K F fs es) (r : RpA K F vs ds) (hl : ds.length + 1 ≤ N.length) :
    Rs K ⟨F, H, fun q => q = p, true⟩ F H (L2.start N (.ref p :: vs)) (slotsO N.length c es ds) where
  len := by unfold L2.start slotsO slots0; simp [r.length]; omega
  grow := Same.refl _
  ext := e
  new := fun a o h => .inl h
  keep := fun a o h _ => h
  still := fun a h => h
  slot := fun i => by
    cases i with
    | zero => exact ⟨p, Cc, dx, fs, rfl, hp, hF, .inl ⟨rfl, rfl⟩, oc, rf⟩
    | succ i =>
      show SlotOk K _ F H _ (sget (slots0 (N.length - 1) ds) i)
      rcases sget_va (s := sget (slots0 (N.length - 1) ds) i) rfl with ⟨d, h1, h2⟩ | h
      · rw [h2]
        obtain ⟨v, e1, rv⟩ := r.get h1
        exact ⟨v, start_gv (i := i + 1) (by simpa using e1), rv⟩
      · rw [h]; trivial
  sep := fun i j q hij o1 o2 => by
    have z : ∀ k, isOwn (sget (slotsO N.length c es ds) k) = true → k = 0 := fun k o => by
      cases k with
      | zero => rfl
      | succ k =>
        have o : isOwn (sget (slots0 (N.length - 1) ds) k) = true := o
        rcases sget_va (s := sget (slots0 (N.length - 1) ds) k) rfl with ⟨d, h1, h2⟩ | h
        · rw [h2] at o; cases o
        · rw [h] at o; cases o
    exact absurd ((z i o1).trans (z j o2).symm) hij
theorem fun_okO {x qual c : Str} {st : Stmt} {f : Addr} {fd : FuncData} {N ps : List Str} {k : Nat} {spec : OSpec} {m : WD → MS} (F : Fun K x qual st f fd) (S : FnScope N ps (defScope st)) (hN : ps.length ≤ N.length) (len : ∀ es ds Q E, spec es ds Q E → ds.length + 1 = ps.length)
    (hbody : ∀ (cdv : Value) (A : Around) (outer : List Env) (s : Shared) (H : Hp) (E : XK) (C : Ct) (W : WD), RoomG k (A.deeper (envOfC qual (defScope st) s.heap.objs.size f cdv)) →
      Takes (cxD P w K mg base N qual (defScope st) f cdv A outer s H E) (wD K C CN W) → PSs (cxD P w K mg base N qual (defScope st) f cdv A outer s H E) (defBody st) (tDS K C (m W)))
    (rd : ∀ es ds Q E, spec es ds Q E → m (fun cn sd => ∃ es', sget sd 0 = .ins c es' ∧ E cn es') (endO c Q) (slotsO N.length c es ds)) : FnG P w K mg base (k + 1) f fd ps (spO K CN c spec) := by
  refine fun_okG F S (fun vs H Q E h => ?_) (fun cdv A outer s H vs Q E hr h => ?_)
  · obtain ⟨F0, p, ws, Cc, dx, fs, es, ds, Qd, Ed, rfl, _, _, _, _, _, r, hs, _⟩ := h
    have := len _ _ _ _ hs
    have := r.length
    simp; omega
  · obtain ⟨F0, p, ws, Cc, dx, fs, es, ds, Qd, Ed, rfl, e, hF, hp, oc, rf, r, hs, hq, he⟩ := h
    have R0 := rs_startO (N := N) e hF hp oc rf r (by rw [len _ _ _ _ hs]; exact hN)
    have post : ∀ {F1 H1 : Hp} {σ : L2.St} {sd : DSt} {es' : List PyData}, Rs K ⟨F0, H, fun q => q = p, true⟩ F1 H1 σ sd → sget sd 0 = .ins c es' → PostO K c p F0 H F1 H1 es' := fun {F1 H1 σ sd es'} R h0 => by
      have hs0 := R.slot 0
      rw [h0] at hs0
      obtain ⟨p', Cc', dx', fs', _, z2, z3, z4, z5, z6⟩ := hs0
      refine ⟨R.grow, R.ext, fun a o za z => R.keep a o z za, R.new, ?_⟩
      rcases z4 with z4 | z4
      · have : p' = p := z4.2
        subst this
        exact ⟨Cc', dx', fs', z2, z3, z5, z6⟩
      · cases z4.1
    refine ⟨_, hbody cdv A outer s H E ⟨F0, H, fun q => q = p, true⟩ (fun cn sd => ∃ es', sget sd 0 = .ins c es' ∧ Ed cn es') hr (takes_cxD fun cls d σ H' hw => ?_), F0, _, endO c Qd, R0, ⟨fun F1 H1 σ sd _ R q => ?_, fun F1 H1 σ sd v r _ R rv own q => ?_, fun _ _ _ _ _ _ z => z.elim, fun _ _ _ _ _ _ z => z.elim⟩, rd es ds Qd Ed hs⟩
    · obtain ⟨cn, a, F1, sd, hc, rfl, rfl, R, es', h0, q⟩ := hw
      exact he cn a H' F1 es' hc (post R h0) q
    · obtain ⟨es', h0, q⟩ := q
      exact hq .non H1 F1 (.va .none) es' (post R h0) .non q
    · obtain ⟨es', h0, q⟩ := q
      refine hq v H1 F1 r es' (post R h0) ?_ q
      cases r with
      | no => trivial
      | va d => obtain ⟨v', e1, q⟩ := rv; cases e1; exact q
      | own ds' => obtain ⟨p, vs', e1, h1, h2, h3, h4⟩ := rv; cases e1; exact ⟨p, vs', rfl, h1, h2, own rfl p rfl, h4⟩
      | scr ns => obtain ⟨p, e1, h1⟩ := rv; cases e1; exact ⟨p, rfl, h1⟩
      | exc a => exact Option.some.inj rv
      | ins c es => obtain ⟨p, Cc, dx, fs, e1, h1, h2, h3, oc, h4⟩ := rv; cases e1; exact ⟨p, Cc, dx, fs, rfl, h1, h2, own rfl p rfl, oc, h4⟩
      | well n => obtain ⟨p, a, b, c, e1, h1, h2, h3, h4⟩ := rv; cases e1; exact ⟨p, a, b, c, rfl, h1, h2, own rfl p rfl, h4⟩
end
structure CalI (P : Program) (w : World) (K : PySem.W.Frag) (mg : Str → Option Value) (base : Heap) (CN : String → Option Addr) (k : Nat) (c : Str) (spec : OSpec) : Prop where
  ex : ∃ f fd ps Cc, FnG P w K mg base k f fd ps (spO K CN c spec) ∧ mg c = some (.ref Cc) ∧ ObjC K c Cc ∧ Mk K Cc f ∧ Binds K fd ps []
def mMake (c : Str) (spec : OSpec) (W : WD) (ma : MA) : ME := fun sd Q => ma sd fun ds s1 => spec [] ds (fun r es => r = .va .none ∧ Q (objD c es) s1) (fun cn _ => W cn s1)
section
variable {X : Cx} {C : Ct} {CN : String → Option Addr}
theorem Rs.freezeI {K : PySem.W.Frag} {F H : Hp} {σ : L2.St} {sd : DSt} {p Cc dx : Addr} {c : Str} {fs : List (Str × V)} {es : List PyData} (R : Rs K C F H σ sd) (h : H p = some (.ins Cc dx fs)) (hF : F p = none) (h0 : C.H0 p = none) (ho : ¬ Owned σ sd p) (oc : ObjC K c Cc) (r : RpF K F fs es) :
    Rs K C (upd F p (.ins Cc dx fs)) H σ sd ∧ Rp K (upd F p (.ins Cc dx fs)) (.ref p) (objD c es) := by
  have sF : Same F (upd F p (.ins Cc dx fs)) := same_new hF
  refine ⟨⟨R.len, R.grow.trans sF, fun a x e => ?_, fun a x e => ?_, R.keep, R.still, fun i => ?_, R.sep⟩, .ins upd_same oc (r.mono sF)⟩
  · by_cases z : a = p
    · subst z; rw [upd_same] at e; cases e; exact h
    · rw [upd_ne z] at e; exact R.ext a x e
  · by_cases z : a = p
    · subst z; exact .inr h0
    · rw [upd_ne z] at e; exact R.new a x e
  · refine (R.slot i).grow sF fun q x o e eh en => ⟨eh, ?_⟩
    have : q ≠ p := fun z => by subst z; exact ho ⟨i, o, e⟩
    rw [upd_ne this]; exact en
theorem td_make {K : PySem.W.Frag} {c : Str} {spec : OSpec} {W : WD} {ma : MA} {Cc : Addr} (oc : ObjC K c Cc) : ∀ σ H Q, tD K C (mMake c spec W ma) σ H Q → tMakeG Cc (spO K CN c spec) (WE (wD K C CN W)) (tDA K C ma) σ H Q := by
  rintro σ H Q ⟨F, sd, Qd, R, h, k⟩
  refine ⟨F, sd, _, R, h, fun vs H1 F1 ds sd1 R1 S1 rs h1 => fun x dx hx hdx hne => ?_⟩
  have sm : Same H1 (upd (upd H1 dx (.own x)) x (.ins Cc dx [])) := fun a o e => by
    rw [upd_ne (ne_of_none e hx), upd_ne (ne_of_none e hdx)]; exact e
  have po : ∀ {H' F' : Hp} {es' : List PyData}, PostO K c x F1 (upd (upd H1 dx (.own x)) x (.ins Cc dx [])) F' H' es' → Post K F1 H1 F' H' := fun {H' F' es'} P =>
    ⟨P.fr, P.ext, fun a o e => P.kp a o (ne_of_none e hx) (sm a o e), fun a o e => by
      rcases P.nw a o e with z | z
      · exact .inl z
      · refine .inr ?_
        cases hh : H1 a with
        | none => rfl
        | some o' => rw [sm a o' hh] at z; cases z⟩
  refine ⟨F1, x, vs, Cc, dx, [], [], ds, _, _, rfl, fun a o e => sm a o (R1.ext a o e), R1.free hx, upd_same, oc, .nil, rs, h1, fun v H' F' r es' P ro q => ?_, fun cn a H' F' es' hc P q => ?_⟩
  · obtain ⟨rfl, q⟩ := q
    obtain ⟨Cc', dx', fs', e1, e2, oc', rf⟩ := P.ob
    obtain ⟨R2, S2⟩ := R1.post (po P)
    cases ro
    refine ⟨rfl, ?_⟩
    obtain ⟨R3, rp⟩ := R2.freezeI e1 e2 (R1.still x hx) (fun z => (R1.fresh hx).1 z) oc' rf
    exact k (.ref x) H' _ _ sd1 R3 ((S1.trans S2).freezeD e2 (S1.st x hx)) rp q
  · exact ⟨cn, a, F', sd1, hc, rfl, rfl, (R1.post (po P)).1, q⟩
theorem pd_make {c : Str} {spec : OSpec} {W : WD} {ma : MA} {p pos : Pos} {e : Expr} {es : List Expr} {k j : Nat} (cl : CalI X.prog X.w X.K X.mg X.base CN k c spec) (hr : RoomG j X.A) (hk : k + 1 ≤ j) (tk : Takes X (wD X.K C CN W)) (ha : PA X (e :: es) (tDA X.K C ma)) (hg : Gl X c := by rfl)
    (hdb : (c == ("__debug__" : Str)) = false := by decide) (he : starEach (e :: es) X.env = (false, eval e X.env) :: starEach es X.env := by rfl) (hpl : (backTo pos (starEach es X.env)).any (·.1) = false := by rfl) :
    PE X (.Call (.Name c p) (e :: es) [] pos) (tD X.K C (mMake c spec W ma)) := by
  obtain ⟨f, fd, ps, Cc, F, hm, oc, M, hb⟩ := cl.ex
  exact pe_imp (pe_makeG M F (hr.mono hk) hg hm hb (passAt tk) ha hdb he hpl) (td_make oc)
end
structure CalM (P : Program) (w : World) (K : PySem.W.Frag) (mg : Str → Option Value) (base : Heap) (CN : String → Option Addr) (k : Nat) (c dn : Str) (spec : PSpec) : Prop where
  ex : ∃ f fd ps Cc, FnG P w K mg base k f fd ps (spP K CN spec) ∧ ObjC K c Cc ∧ PySem.W.findIn K (.ref Cc) dn = some (some (.ref f)) ∧ PySem.W.isFn K (.ref f) = true ∧ Binds K fd ps []
/-- a op b, both instances of the class c: the def of the left one's class, which raises nothing -/
def mBinM (c : Str) (spec : PSpec) (ma mb : ME) : ME := fun sd Q => ma sd fun a s1 => mb s1 fun b s2 => (∃ es, a = objD c es) ∧ (∃ es, b = objD c es) ∧ spec [a, b] (fun r => ∃ d, fz r = some d ∧ Q d s2) fun _ => False
/-- a in b, b an instance of the class c -/
def mInM (c : Str) (spec : PSpec) (ma mb : ME) : ME := fun sd Q => ma sd fun a s1 => mb s1 fun b s2 => (∃ es, b = objD c es) ∧ spec [b, a] (fun r => ∃ t, r = .va (.bool t) ∧ Q (.bool t) s2) fun _ => False
section
variable {X : Cx} {C : Ct} {CN : String → Option Addr} {k : Nat} {f Cc : Addr} {fd : FuncData} {ps : List Str} {sp : Sp}
theorem pd_binM {op : Operator} {c dn : Str} {spec : PSpec} {ma mb : ME} {a b : Expr} {pos : Pos} {j : Nat} (cl : CalM X.prog X.w X.K X.mg X.base CN k c dn spec) (hd : dunder op.info.snd = dn) (sf : ∀ Cc, ObjC X.K c Cc → PySem.W.selfFirst X.K Cc = true) (hr : RoomG j X.A) (hk : k ≤ j) (ha : PE X a (tD X.K C ma)) (hb : PE X b (tD X.K C mb)) :
    PE X (.BinOp a op b pos) (tD X.K C (mBinM c spec ma mb)) := by
  obtain ⟨f, fd, ps, Cc, F, oc, hf, hfn, hbi⟩ := cl.ex
  subst hd
  refine pe_imp (pe_op (op_binO hf hfn (sf Cc oc) F hbi (hr.mono hk)) ha hb) ?_
  rintro σ H Q ⟨F0, sd, Qd, R, h, kk⟩
  refine ⟨F0, sd, _, R, h, fun x H1 F1 d sd1 R1 S1 rx h1 => ⟨F1, sd1, _, R1, h1, fun y H2 F2 e sd2 R2 S2 ry h2 => ?_⟩⟩
  obtain ⟨⟨es1, rfl⟩, ⟨es2, rfl⟩, hs⟩ := h2
  have rx := rx.mono S2.fr
  obtain ⟨a1, C1, d1, f1, rfl, h1, o1, r1⟩ := rp_obj rx
  obtain ⟨a2, C2, d2, f2, rfl, h2, o2, r2⟩ := rp_obj ry
  cases o1.uniq oc
  cases o2.uniq oc
  refine ⟨a1, a2, d1, d2, f1, f2, rfl, rfl, R2.ext _ _ h1, R2.ext _ _ h2, F2, _, _, _, R2.ext, .cons rx (.cons ry .nil), hs, fun v H' F' r P ro q => ?_, fun _ _ _ _ _ _ z => z⟩
  obtain ⟨d, hfz, q⟩ := q
  obtain ⟨R3, S3⟩ := R2.post P
  obtain ⟨F3, R4, S4, rp⟩ := R3.res ((S1.trans S2).trans S3) ro (fun p hp => ⟨S1.st p (S2.st p hp), fun z => (R2.fresh hp).1 (S3.ow p z), (R2.fresh hp).2⟩) hfz
  exact kk v H' F3 d sd2 R4 S4 rp q
/-- x in y by the def of y's class -/
def rInO (C : Addr) (sp : Sp) : R2 := fun x y H Q => ∃ b dy gs, y = .ref b ∧ H b = some (.ins C dy gs) ∧ sp [y, x] H (fun v H2 => ∃ t, v = .bl t ∧ Q (.bl t) H2) fun _ _ _ => False
theorem op_inO (hf : PySem.W.findIn X.K (.ref Cc) "__contains__" = some (some (.ref f))) (hfn : PySem.W.isFn X.K (.ref f) = true) (F : FnG X.prog X.w X.K X.mg X.base k f fd ps sp) (hb : Binds X.K fd ps []) (hr : RoomG k X.A) : OpR X (compareOp .In) (rInO Cc sp) := by
  intro pins s σ H x y v u Q I rx ry h
  obtain ⟨b, dy, gs, rfl, h1, q⟩ := h
  cases (show u = Value.ref b from ry)
  obtain ⟨m, fr⟩ := I.fr
  obtain ⟨ox, od, J⟩ := ins_inst I.hok h1
  refine PySem.W.in_K fr I.ok.mod.kin J hf hfn ?_
  refine wpAny_mono (wp_callG (E := fun _ _ _ _ => False) F hr hb (fun pins H s e s' _ z => ?_) I (vs := [V.ref b, x]) (.cons (show L2.RelV (V.ref b) (.ref b) from rfl) (.cons rx .nil)) q) (fun v s' hq => ?_) fun _ _ z => z
  · obtain ⟨_, _, _, _, _, _, _, _, _, _, _, _, z⟩ := z
    exact z.elim
  · obtain ⟨z, H2, I2, rz, t, rfl, hq⟩ := hq
    cases (show v = Value.bool t from rz)
    exact wpAny_truthy_bool ⟨.bl t, H2, I2, rfl, hq⟩
theorem pd_inM {c : Str} {spec : PSpec} {ma mb : ME} {a b : Expr} {pos : Pos} {j : Nat} (cl : CalM X.prog X.w X.K X.mg X.base CN k c "__contains__" spec) (hr : RoomG j X.A) (hk : k ≤ j) (ha : PE X a (tD X.K C ma)) (hb : PE X b (tD X.K C mb)) (hm : behindInMarks .In b = false) :
    PE X (.Compare a [.In] [b] pos) (tD X.K C (mInM c spec ma mb)) := by
  obtain ⟨f, fd, ps, Cc, F, oc, hf, hfn, hbi⟩ := cl.ex
  refine pe_imp (pe_cmpR (op_inO hf hfn F hbi (hr.mono hk)) ha hb hm) ?_
  rintro σ H Q ⟨F0, sd, Qd, R, h, kk⟩
  refine ⟨F0, sd, _, R, h, fun x H1 F1 d sd1 R1 S1 rx h1 => ⟨F1, sd1, _, R1, h1, fun y H2 F2 e sd2 R2 S2 ry h2 => ?_⟩⟩
  obtain ⟨⟨es2, rfl⟩, hs⟩ := h2
  have rx := rx.mono S2.fr
  obtain ⟨a2, C2, d2, f2, rfl, h2, o2, r2⟩ := rp_obj ry
  cases o2.uniq oc
  refine ⟨a2, d2, f2, rfl, R2.ext _ _ h2, F2, _, _, _, R2.ext, .cons ry (.cons rx .nil), hs, fun v H' F' r P ro q => ?_, fun _ _ _ _ _ _ z => z⟩
  obtain ⟨t, rfl, q⟩ := q
  obtain ⟨R3, S3⟩ := R2.post P
  cases ro
  exact ⟨t, rfl, kk (.bl t) H' F' _ sd2 R3 ((S1.trans S2).trans S3) (.bl t) q⟩
end
/-- what isinstance says of it and the built-in kinds -/
structure KitC (K : PySem.W.Frag) (Cc : Addr) : Prop where
  own : PySem.W.kitOne K (.ref Cc) (.ref Cc) = some true
  non : PySem.W.kitOne K (.type "NoneType") (.ref Cc) = some false
  bl : PySem.W.kitOne K (.type "bool") (.ref Cc) = some false
  int : PySem.W.kitOne K (.type "int") (.ref Cc) = some false
  str : PySem.W.kitOne K (.type "str") (.ref Cc) = some false
  lst : PySem.W.kitOne K (.type "list") (.ref Cc) = some false
  tup : PySem.W.kitOne K (.type "tuple") (.ref Cc) = some false
  dct : PySem.W.kitOne K (.type "dict") (.ref Cc) = some false
def bIsC (c : Str) : PyData → Option PyData
  | .dict [(.none, .tuple (.str c' :: _))] => if c' = c then some (.bool true) else none
  | .dict ((.none, _) :: _) => none
  | _ => some (.bool false)
theorem isC_obj {c : Str} {es : List PyData} : bIsC c (objD c es) = some (.bool true) := if_pos rfl
theorem isC_dct {c : Str} {es : List (PyData × PyData)} {z : PyData} (h : ∀ x y, es ≠ (.none, x) :: y) (e : bIsC c (.dict es) = some z) : z = .bool false := by
  unfold bIsC at e
  split at e
  · rename_i h2
    cases h2
    exact absurd rfl (h _ _)
  · rename_i h2
    cases h2
    exact absurd rfl (h _ _)
  · cases e
    rfl
section
variable {X : Cx} {C : Ct} {K : PySem.W.Frag}
theorem kit_c {c : Str} {Cc : Addr} {F H : Hp} {x : V} {d z : PyData} (oc : ObjC K c Cc) (kc : KitC K Cc) (e : Same F H) (r : Rp K F x d) (h : bIsC c d = some z) : ∃ t b, TyX K H x t ∧ PySem.W.kitOne K t (.ref Cc) = some b ∧ z = .bool b := by
  cases r with
  | non => cases h; exact ⟨_, _, .base .non, kc.non, rfl⟩
  | bl b => cases h; exact ⟨_, _, .base (.bl b), kc.bl, rfl⟩
  | int i => cases h; exact ⟨_, _, .base (.int i), kc.int, rfl⟩
  | str s => cases h; exact ⟨_, _, .base (.str s), kc.str, rfl⟩
  | lst hh _ => cases h; exact ⟨_, _, .base (.lst (e _ _ hh)), kc.lst, rfl⟩
  | tup hh _ =>
    cases h
    rcases hh with (hh | ⟨o, hh⟩) | ⟨o, its, n, hh, c, _⟩
    · exact ⟨_, _, .base (.tup (e _ _ hh)), kc.tup, rfl⟩
    · exact ⟨_, _, .fTuple (e _ _ hh), kc.tup, rfl⟩
    · exact ⟨_, _, .kTuple hh c, kc.tup, rfl⟩
  | dct hh rd => exact ⟨_, _, .base (.dK (e _ _ hh)), kc.dct, isC_dct (fun x y q => rpD_key rd q) h⟩
  | ins hh o _ =>
    rename_i c' _ _ _
    have h : (if c' = c then some (PyData.bool true) else none) = some z := h
    by_cases q : c' = c
    · rw [if_pos q] at h
      cases h
      have o2 : ObjC K c _ := q ▸ o
      cases o2.uniq oc
      exact ⟨_, _, .base (.ins (e _ _ hh) o.cl o.ha o.hn o.htk o.hm), kc.own, rfl⟩
    · rw [if_neg q] at h
      cases h
theorem pd_isC {p p2 pos : Pos} {e : Expr} {m : ME} {c : Str} (hm : X.mg "isinstance" = none) (hc : ∃ Cc, X.mg c = some (.ref Cc) ∧ ObjC X.K c Cc ∧ KitC X.K Cc) (he : PE X e (tD X.K C m))
    (hgI : Gl X "isinstance" := by rfl) (hgT : Gl X c := by rfl) (hdb : (c == ("__debug__" : Str)) = false := by decide) (hpl : (backTo pos (starEach [.Name c p2] X.env)).any (·.1) = false := by rfl)
    (hs : starEach (e :: [.Name c p2]) X.env = (false, eval e X.env) :: starEach [.Name c p2] X.env := by rfl) :
    PE X (.Call (.Name "isinstance" p) [e, .Name c p2] [] pos) (tD X.K C (mOp1 (bIsC c) m)) := by
  obtain ⟨Cc, hmc, oc, kc⟩ := hc
  refine pe_imp (pe_callB call_isi hgI hm (by decide +kernel) (pa_cons he (pa_cons (pe_glob (v := .ref Cc) hgT hmc rfl hdb) pa_nil) hs) (by decide) (by decide) hs hpl) ?_
  rintro σ H Q ⟨F, sd, Qd, R, h, kk⟩
  refine ⟨F, sd, _, R, h, fun x H1 F1 a sd1 R1 S1 rx h1 => ?_⟩
  obtain ⟨z, ez, q⟩ := h1
  obtain ⟨t, b, t1, t2, rfl⟩ := kit_c oc kc R1.ext rx ez
  exact ⟨x, .ref Cc, t, .ref Cc, b, rfl, .own _, t1, t2, kk (.bl b) H1 F1 _ sd1 R1 S1 (.bl b) q⟩
theorem pdt_inM {CN : String → Option Addr} {c : Str} {spec : PSpec} {ma mb : ME} {a b : Expr} {pos : Pos} {k j : Nat} (cl : CalM X.prog X.w X.K X.mg X.base CN k c "__contains__" spec) (hr : RoomG j X.A) (hk : k ≤ j) (ha : PE X a (tD X.K C ma)) (hb : PE X b (tD X.K C mb)) (hm : behindInMarks .In b = false) :
    PT X (.Compare a [.In] [b] pos) (tDT X.K C (mT (mInM c spec ma mb))) := by
  obtain ⟨f, fd, ps, Cc, F, oc, hf, hfn, hbi⟩ := cl.ex
  refine pt_imp (pt_cmpR (op_inO hf hfn F hbi (hr.mono hk)) ha hb hm) (td_test ?_)
  rintro σ H Q ⟨F0, sd, Qd, R, h, kk⟩
  refine ⟨F0, sd, _, R, h, fun x H1 F1 d sd1 R1 S1 rx h1 => ⟨F1, sd1, _, R1, h1, fun y H2 F2 e sd2 R2 S2 ry h2 => ?_⟩⟩
  obtain ⟨⟨es2, rfl⟩, hs⟩ := h2
  have rx := rx.mono S2.fr
  obtain ⟨a2, C2, d2, f2, rfl, h2, o2, r2⟩ := rp_obj ry
  cases o2.uniq oc
  refine ⟨a2, d2, f2, rfl, R2.ext _ _ h2, F2, _, _, _, R2.ext, .cons ry (.cons rx .nil), hs, fun v H' F' r P ro q => ?_, fun _ _ _ _ _ _ z => z⟩
  obtain ⟨t, rfl, q⟩ := q
  obtain ⟨R3, S3⟩ := R2.post P
  cases ro
  exact ⟨t, rfl, kk (.bl t) H' F' _ sd2 R3 ((S1.trans S2).trans S3) (.bl t) q⟩
end
end DL
namespace DL
open PySem PySem.Spec PyProof.Rows L2
theorem RoomG.in1 {k : Nat} {A : Around} (h : RoomG (k + 1) A) : RoomG k A.in1 := ⟨L2.Room.in1 h.r, h.g⟩
theorem callK_of {M : Model} {A : Around} {E : Value → Shared → Prop} {s : Shared} {a : Addr} {pos : Pos} {Q : Value → Shared → Prop} {args : List (Bool × Sem Value)} {keywords : List (Option Str × Sem Value)} (hplain : (args.any (·.1) || keywords.any (·.1.isNone)) = false)
    (h : wpAny M A (evalArgs (.ref a) true args keywords) (fun x s₁ => (∃ C ox od, PySem.W.InstAt s₁.heap a ox C od ∧ ox.data = .plain) ∧ wpAny M A (call (.ref a) ([] ++ x.pos) x.kw) Q E s₁) E s) : wpAny M A (callWith pos (.ref a) [] args keywords) Q E s := by
  unfold callWith
  refine wpAny_bind (wpAny_holding (wpAny_mono h (fun a s₁ h₁ => wpAny_bind (wpAny_standAt ?_)) fun _ _ y => y))
  obtain ⟨⟨C, ox, od, J, hd⟩, h₁⟩ := h₁
  have L := PySem.W.kco_keeper (M := M) J hd
  simp only [hplain]
  refine wpAny_bind (L.here ?_)
  have tail : ∀ {t : Sem Value}, wpAny M A t Q E s₁ → wpAny M A (t >>= fun r => holding [r] point >>= fun _ => pure r) Q E s₁ :=
    fun ht => wpAny_bind (wpAny_mono ht (fun r s₂ hr => wpAny_bind (wpAny_holding (wpAny_point (wpAny_pure hr)))) fun _ _ y => y)
  exact tail (wpAny_operateT h₁)
/-- a one-place operation by the def of the instance's class -/
def rUnO (C : Addr) (sp : Sp) : V → Hp → VK → Prop := fun x H Q => ∃ a dx fs, x = .ref a ∧ H a = some (.ins C dx fs) ∧ sp [x] H Q fun _ _ _ => False
section
variable {X : Cx} {C : Ct} {CN : String → Option Addr} {k : Nat} {f Cc g p : Addr} {fd : FuncData} {ps : List Str} {sp : Sp}
theorem un_negO (hf : PySem.W.findIn X.K (.ref Cc) "__neg__" = some (some (.ref f))) (hfn : PySem.W.isFn X.K (.ref f) = true) (F : FnG X.prog X.w X.K X.mg X.base k f fd ps sp) (hb : Binds X.K fd ps []) (hr : RoomG k X.A) : UnR X (unaryOp .USub) (rUnO Cc sp) := by
  intro pins s σ H x v Q I rx h
  obtain ⟨a, dx, fs, rfl, h1, q⟩ := h
  cases (show v = Value.ref a from rx)
  obtain ⟨m, fr⟩ := I.fr
  obtain ⟨ox, od, J⟩ := ins_inst I.hok h1
  refine PySem.W.ksp_neg fr I.ok.mod.kin J hf hfn ?_
  refine wp_callG (E := fun _ _ _ _ => False) F hr hb (fun pins H s e s' _ z => ?_) I (vs := [V.ref a]) (.cons (show L2.RelV (V.ref a) (.ref a) from rfl) .nil) q
  obtain ⟨_, _, _, _, _, _, _, _, _, _, _, _, z⟩ := z
  exact z.elim
/-- a property of an instance of the class c, or -a: its def, which raises nothing -/
def mUnM (c : Str) (spec : PSpec) (ma : ME) : ME := fun sd Q => ma sd fun a s1 => (∃ es, a = objD c es) ∧ spec [a] (fun r => ∃ d, fz r = some d ∧ Q d s1) fun _ => False
theorem td_unM {c : Str} {spec : PSpec} {ma : ME} (oc : ObjC X.K c Cc) : ∀ σ H Q, tD X.K C (mUnM c spec ma) σ H Q → tUn (rUnO Cc (spP X.K CN spec)) (tD X.K C ma) σ H Q := by
  rintro σ H Q ⟨F0, sd, Qd, R, h, kk⟩
  refine ⟨F0, sd, _, R, h, fun x H1 F1 d sd1 R1 S1 rx h1 => ?_⟩
  obtain ⟨⟨es1, rfl⟩, hs⟩ := h1
  obtain ⟨a1, C1, d1, f1, rfl, h1, o1, r1⟩ := rp_obj rx
  cases o1.uniq oc
  refine ⟨a1, d1, f1, rfl, R1.ext _ _ h1, F1, _, _, _, R1.ext, .cons rx .nil, hs, fun v H' F' r P ro q => ?_, fun _ _ _ _ _ _ z => z⟩
  obtain ⟨d, hfz, q⟩ := q
  obtain ⟨R3, S3⟩ := R1.post P
  obtain ⟨F3, R4, S4, rp⟩ := R3.res (S1.trans S3) ro (fun p hp => ⟨S1.st p hp, fun z => (R1.fresh hp).1 (S3.ow p z), (R1.fresh hp).2⟩) hfz
  exact kk v H' F3 d sd1 R4 S4 rp q
theorem pd_negM {c : Str} {spec : PSpec} {ma : ME} {a : Expr} {pos : Pos} {j : Nat} (cl : CalM X.prog X.w X.K X.mg X.base CN k c "__neg__" spec) (hr : RoomG j X.A) (hk : k ≤ j) (ha : PE X a (tD X.K C ma)) :
    PE X (.UnaryOp .USub a pos) (tD X.K C (mUnM c spec ma)) := by
  obtain ⟨f, fd, ps, Cc, F, oc, hf, hfn, hbi⟩ := cl.ex
  exact pe_imp (pe_un (un_negO hf hfn F hbi (hr.mono hk)) ha) (td_unM oc)
theorem getprop_okG {pins : List (Addr × Obj)} {σ : L2.St} {H : Hp} {s : Shared} {Q : VK} {b : Bool} {a dx : Addr} {fs : List (Str × V)} {n : Str} (I : L2.Inv X pins σ H s) (ea : H a = some (.ins Cc dx fs)) (hg1 : PySem.W.plainGet X.K Cc Str.empty = true) (hd1 : PySem.W.hasDictIn X.K Cc = true) (hp : PropOf X.K Cc n p g)
    (F : FnG X.prog X.w X.K X.mg X.base k g fd ps sp) (hr : RoomG (k + 1) X.A) (hb : Binds X.K fd ps []) (h : sp [.ref a] H Q fun _ _ _ => False) :
    wpAny (model X.prog X.w) X.A (getAttr (.ref a) n b) (EP X pins σ Q) X.xe s := by
  obtain ⟨mA, O, _, _, _, _⟩ := ins_get I.hok ea
  obtain ⟨od, J, _⟩ := O.look
  obtain ⟨rest, hrec⟩ := hp.rec_
  have I1 := I.tok (s.toks + 1)
  have hl : ([Value.ref a] ++ []).length = ps.length := by
    rw [← F.len _ _ _ _ h]; rfl
  have hc : (PySem.W.clsIn X.K Cc).isSome = true := by
    obtain ⟨cd, hc, _⟩ := PySem.W.any_some hd1
    rw [hc]
    rfl
  have bb := hb { s with toks := s.toks + 1 } [.ref a] I1.kIn hl
  rw [List.append_nil] at bb
  refine PySem.W.get_bind I.kIn J (PySem.W.plainGet_of hg1).1 (PySem.W.findObj_data hc hp.at_ hp.get hp.tak) (PySem.W.plainGet_of hg1).2 (wpAny_call (PySem.W.prop_get (s := { s with toks := s.toks + 1 }) I.kIn hrec ?_))
  refine codeAny_mono (F.run hr.in1 I1.env0.in1 bb (.cons (show L2.RelV (V.ref a) (.ref a) from rfl) .nil) h) fun r s' hq => ?_
  cases r with
  | error er =>
    obtain ⟨_, _, _, _, _, _, _, _, _, _, _, _, z⟩ := hq
    exact z.elim
  | ok fl =>
    cases fl with
    | ret u =>
      obtain ⟨v, H', I3, rv, q3⟩ := I1.after hq
      show wpAny _ _ (handedOut u) _ _ _
      rw [PySem.W.handedOut_of (handed_of rv)]
      exact wpAny_pure ⟨v, H', I3, rv, q3⟩
    | next => exact False.elim hq
    | brk => exact False.elim hq
    | cont => exact False.elim hq
/-- the class c has the name as a property whose getter is promised -/
structure CalPr (P : Program) (w : World) (K : PySem.W.Frag) (mg : Str → Option Value) (base : Heap) (CN : String → Option Addr) (k : Nat) (c n : Str) (spec : PSpec) : Prop where
  ex : ∃ g fd ps p Cc, FnG P w K mg base k g fd ps (spP K CN spec) ∧ ObjC K c Cc ∧ PropOf K Cc n p g ∧ Binds K fd ps []
theorem pd_propM {c n : Str} {spec : PSpec} {ma : ME} {a : Expr} {pos : Pos} {j : Nat} (cl : CalPr X.prog X.w X.K X.mg X.base CN k c n spec) (hr : RoomG j X.A) (hk : k + 1 ≤ j) (ha : PE X a (tD X.K C ma)) (hab : attributeBase a n X.env (eval a X.env) = eval a X.env) :
    PE X (.Attribute a n pos) (tD X.K C (mUnM c spec ma)) := by
  obtain ⟨g, fd, ps, p, Cc, F, oc, hp, hbi⟩ := cl.ex
  refine pe_imp (t := tUn (rUnO Cc (spP X.K CN spec)) (tD X.K C ma)) ⟨fun pins s σ H Q I h => ?_⟩ (td_unM oc)
  refine attr_of hab (thn (ha.run pins s σ H _ I h) fun u s1 ⟨x, H1, I1, rx, a, dx, fs, ex, ea, q⟩ => ?_)
  subst ex
  obtain rfl : u = Value.ref a := rx
  exact getprop_okG I1 ea oc.cl.pg oc.cl.hd hp F (hr.mono hk) hbi q
/-- f(e, ..), f an expression that gives an instance of C -/
def tCallI (C : Addr) (sp : Sp) (tf : TE) (t : TA) : TE := fun σ H Q => tf σ H fun y H1 => ∃ a, y = V.ref a ∧ t σ H1 fun vs H2 => (∃ dx fs, H2 a = some (.ins C dx fs)) ∧ sp (V.ref a :: vs) H2 Q fun _ _ _ => False
def tCallIK (C : Addr) (sp : Sp) (gV : List V → List V → List V) (tf : TE) (tk : TA) : TE := fun σ H Q => tf σ H fun y H1 => ∃ a, y = V.ref a ∧ tk σ H1 fun zs H2 => (∃ dx fs, H2 a = some (.ins C dx fs)) ∧ sp (gV [V.ref a] zs) H2 Q fun _ _ _ => False
theorem passNo {σ : L2.St} : PassesAt (L2.CX X.prog X.w) X σ fun _ _ _ => False := fun pins H s e s' _ z => by
  obtain ⟨_, _, _, _, _, _, _, _, _, _, _, _, z⟩ := z
  exact z.elim
theorem run_callI {pins : List (Addr × Obj)} {σ : L2.St} {H : Hp} {s : Shared} {Q : VK} {a dx : Addr} {fs : List (Str × V)} {us : List Value} {vs : List V} (c : StX.CallO X.K Cc g) (F : FnG X.prog X.w X.K X.mg X.base k g fd ps sp) (hr : RoomG k X.A) (hb : Binds X.K fd ps []) (I : L2.Inv X pins σ H s) (e : H a = some (.ins Cc dx fs)) (r : Vals vs us)
    (h : sp (V.ref a :: vs) H Q fun _ _ _ => False) : wpAny (model X.prog X.w) X.A (call (.ref a) us) (EP X pins σ Q) X.xe s := by
  obtain ⟨ox, od, J, hd⟩ := StX.insC_at I (.inr ⟨dx, fs, e⟩)
  have rr : Vals (V.ref a :: vs) (Value.ref a :: us) := .cons rfl r
  have hl : ((Value.ref a :: us) ++ []).length = ps.length := by rw [List.append_nil, ← rr.length]; exact F.len _ _ _ _ h
  have b := hb s (Value.ref a :: us) I.kIn hl
  rw [List.append_nil] at b
  refine wpAny_call (PySem.W.kco_code I.kIn J hd c.at_ c.fn c.fi (codeAny_mono (run_fnG (E := fun _ _ _ _ => False) (args := ⟨Value.ref a :: us, []⟩) (n := 0) F hr b (passNo (σ := σ)) I rr h) fun r s' hq => ?_))
  rcases r with _ | (_ | _ | _ | _) <;> exact hq
theorem run_callIK {ks : List Str} {gg : List Value → List Value → List Value} {gV : List V → List V → List V} {pins : List (Addr × Obj)} {σ : L2.St} {H : Hp} {s : Shared} {Q : VK} {a dx : Addr} {fs : List (Str × V)} {ws : List Value} {zs : List V} (c : StX.CallO X.K Cc g) (F : FnG X.prog X.w X.K X.mg X.base k g fd ps sp) (hr : RoomG k X.A) (hb : KBinds X.K fd ps ks gg gV) (I : L2.Inv X pins σ H s) (e : H a = some (.ins Cc dx fs)) (rz : Vals zs ws)
    (h : sp (gV [V.ref a] zs) H Q fun _ _ _ => False) : wpAny (model X.prog X.w) X.A (call (.ref a) [] (ks.zip ws)) (EP X pins σ Q) X.xe s := by
  obtain ⟨ox, od, J, hd⟩ := StX.insC_at I (.inr ⟨dx, fs, e⟩)
  have rg := hb.rel (vs := [V.ref a]) (us := [Value.ref a]) (.cons (show L2.RelV (V.ref a) (.ref a) from rfl) .nil) rz
  have hl : (gg [Value.ref a] ws).length = ps.length := rg.length ▸ F.len _ _ _ _ h
  refine wpAny_call (PySem.W.kco_code I.kIn J hd c.at_ c.fn c.fi (codeAny_mono (run_fnG (E := fun _ _ _ _ => False) (args := ⟨[Value.ref a], ks.zip ws⟩) (n := 0) F hr (hb.to s [Value.ref a] ws I.kIn hl) (passNo (σ := σ)) I rg h) fun r s' hq => ?_))
  rcases r with _ | (_ | _ | _ | _) <;> exact hq
theorem pe_callI {fe e : Expr} {es : List Expr} {pos : Pos} {tf : TE} {t : TA} (hf : PE X fe tf) (c : StX.CallO X.K Cc g) (F : FnG X.prog X.w X.K X.mg X.base k g fd ps sp) (hr : RoomG k X.A) (hb : Binds X.K fd ps []) (ha : PA X (e :: es) t)
    (ht : eval (.Call fe (e :: es) [] pos) X.env = (do callWith pos (← eval fe X.env) [] (backTo pos (starEach (e :: es) X.env)) (backToKw pos (keywordEach [] X.env))))
    (he : starEach (e :: es) X.env = (false, eval e X.env) :: starEach es X.env) (hpl : (backTo pos (starEach es X.env)).any (·.1) = false) : PE X (.Call fe (e :: es) [] pos) (tCallI Cc sp tf t) := by
  refine ⟨fun pins s σ H Q I h => ?_⟩
  rw [ht]
  refine wpAny_bind (thn (hf.run pins s σ H _ I h) fun u s1 ⟨y, H1, I1, ry, a, ey, q⟩ => ?_)
  subst ey
  obtain rfl : u = Value.ref a := ry
  refine StX.callO_with (thn (ha.run pos pins s1 σ H1 _ I1 q) fun us s2 ⟨vs, H2, I2, r, ⟨dx, fs, hi⟩, q2⟩ => ?_) he hpl
  obtain ⟨ox, od, J, hd⟩ := StX.insC_at I2 (.inr ⟨dx, fs, hi⟩)
  exact ⟨⟨Cc, ox, od, J, hd⟩, run_callI c F hr hb I2 hi r q2⟩
theorem pe_callIK {ks : List Str} {gg : List Value → List Value → List Value} {gV : List V → List V → List V} {fe : Expr} {kws : List Keyword} {pos : Pos} {tf : TE} {tk : TA} (hf : PE X fe tf) (c : StX.CallO X.K Cc g) (F : FnG X.prog X.w X.K X.mg X.base k g fd ps sp) (hr : RoomG k X.A) (hb : KBinds X.K fd ps ks gg gV) (hkw : PK X kws tk)
    (ht : eval (.Call fe [] kws pos) X.env = (do callWith pos (← eval fe X.env) [] (backTo pos (starEach [] X.env)) (backToKw pos (keywordEach kws X.env))))
    (hall : (backToKw pos (keywordEach kws X.env)).all (·.1.isSome) = true) (hks : (backToKw pos (keywordEach kws X.env)).filterMap (·.1) = ks)
    (hpl : ((backTo pos (starEach [] X.env)).any (·.1) || (backToKw pos (keywordEach kws X.env)).any (·.1.isNone)) = false) : PE X (.Call fe [] kws pos) (tCallIK Cc sp gV tf tk) := by
  refine ⟨fun pins s σ H Q I h => ?_⟩
  rw [ht]
  refine wpAny_bind (thn (hf.run pins s σ H _ I h) fun u s1 ⟨y, H1, I1, ry, a, ey, q⟩ => ?_)
  subst ey
  obtain rfl : u = Value.ref a := ry
  refine callK_of hpl (evalArgs_kw2_nil hall (thn (hkw.run pos pins s1 σ H1 _ I1 q) fun ws s2 ⟨zs, H2, I2, rz, ⟨dx, fs, hi⟩, q2⟩ => ?_))
  obtain ⟨ox, od, J, hd⟩ := StX.insC_at I2 (.inr ⟨dx, fs, hi⟩)
  refine ⟨⟨Cc, ox, od, J, hd⟩, ?_⟩
  rw [hks]
  exact run_callIK c F hr hb I2 hi rz q2
/-- a(e, ..): the class's __call__, which raises nothing -/
def mCallM (c : Str) (spec : PSpec) (mf : ME) (ma : MA) : ME := fun sd Q => mf sd fun a s1 => (∃ es, a = objD c es) ∧ ma s1 fun ds s2 => spec (a :: ds) (fun r => ∃ d, fz r = some d ∧ Q d s2) fun _ => False
/-- a(x=e, ..) -/
def mCallMK (c : Str) (spec : PSpec) (gg : List PyData → List PyData → List PyData) (mf : ME) (mk : MA) : ME := fun sd Q => mf sd fun a s1 => (∃ es, a = objD c es) ∧ mk s1 fun ds s2 => spec (gg [a] ds) (fun r => ∃ d, fz r = some d ∧ Q d s2) fun _ => False
structure CalC (P : Program) (w : World) (K : PySem.W.Frag) (mg : Str → Option Value) (base : Heap) (CN : String → Option Addr) (k : Nat) (c : Str) (spec : PSpec) : Prop where
  ex : ∃ g fd ps Cc, FnG P w K mg base k g fd ps (spP K CN spec) ∧ ObjC K c Cc ∧ StX.CallO K Cc g ∧ Binds K fd ps []
structure CalCK (P : Program) (w : World) (K : PySem.W.Frag) (mg : Str → Option Value) (base : Heap) (CN : String → Option Addr) (k : Nat) (c : Str) (spec : PSpec) (ks : List Str) (gg : {α : Type} → List α → List α → List α) : Prop where
  ex : ∃ g fd ps Cc, FnG P w K mg base k g fd ps (spP K CN spec) ∧ ObjC K c Cc ∧ StX.CallO K Cc g ∧ KBinds K fd ps ks gg gg
  ord : Ord gg
theorem td_callI {c : Str} {spec : PSpec} {mf : ME} {ma : MA} (oc : ObjC X.K c Cc) : ∀ σ H Q, tD X.K C (mCallM c spec mf ma) σ H Q → tCallI Cc (spP X.K CN spec) (tD X.K C mf) (tDA X.K C ma) σ H Q := by
  rintro σ H Q ⟨F0, sd, Qd, R, h, kk⟩
  refine ⟨F0, sd, _, R, h, fun x H1 F1 d sd1 R1 S1 rx h1 => ?_⟩
  obtain ⟨⟨es1, rfl⟩, hs⟩ := h1
  obtain ⟨a1, C1, d1, f1, rfl, h1, o1, r1⟩ := rp_obj rx
  cases o1.uniq oc
  refine ⟨a1, rfl, F1, sd1, _, R1, hs, fun vs H2 F2 ds sd2 R2 S2 rs h2 => ?_⟩
  have rx := rx.mono S2.fr
  obtain ⟨a2, C2, d2, f2, e2, h3, o2, r2⟩ := rp_obj rx
  cases e2
  cases o2.uniq oc
  refine ⟨⟨d2, f2, R2.ext _ _ h3⟩, F2, _, _, _, R2.ext, .cons rx rs, h2, fun v H' F' r P ro q => ?_, fun _ _ _ _ _ _ z => z⟩
  obtain ⟨d, hfz, q⟩ := q
  obtain ⟨R3, S3⟩ := R2.post P
  obtain ⟨F3, R4, S4, rp⟩ := R3.res ((S1.trans S2).trans S3) ro (fun p hp => ⟨S1.st p (S2.st p hp), fun z => (R2.fresh hp).1 (S3.ow p z), (R2.fresh hp).2⟩) hfz
  exact kk v H' F3 d sd2 R4 S4 rp q
theorem td_callIK {c : Str} {spec : PSpec} {mf : ME} {mk : MA} {gg : {α : Type} → List α → List α → List α} (og : Ord gg) (oc : ObjC X.K c Cc) : ∀ σ H Q, tD X.K C (mCallMK c spec gg mf mk) σ H Q → tCallIK Cc (spP X.K CN spec) gg (tD X.K C mf) (tDA X.K C mk) σ H Q := by
  rintro σ H Q ⟨F0, sd, Qd, R, h, kk⟩
  refine ⟨F0, sd, _, R, h, fun x H1 F1 d sd1 R1 S1 rx h1 => ?_⟩
  obtain ⟨⟨es1, rfl⟩, hs⟩ := h1
  obtain ⟨a1, C1, d1, f1, rfl, h1, o1, r1⟩ := rp_obj rx
  cases o1.uniq oc
  refine ⟨a1, rfl, F1, sd1, _, R1, hs, fun vs H2 F2 ds sd2 R2 S2 rs h2 => ?_⟩
  have rx := rx.mono S2.fr
  obtain ⟨a2, C2, d2, f2, e2, h3, o2, r2⟩ := rp_obj rx
  cases e2
  cases o2.uniq oc
  refine ⟨⟨d2, f2, R2.ext _ _ h3⟩, F2, _, _, _, R2.ext, paired_rpA (og.rel _ (rpA_paired (.cons rx .nil)) (rpA_paired rs)), h2, fun v H' F' r P ro q => ?_, fun _ _ _ _ _ _ z => z⟩
  obtain ⟨d, hfz, q⟩ := q
  obtain ⟨R3, S3⟩ := R2.post P
  obtain ⟨F3, R4, S4, rp⟩ := R3.res ((S1.trans S2).trans S3) ro (fun p hp => ⟨S1.st p (S2.st p hp), fun z => (R2.fresh hp).1 (S3.ow p z), (R2.fresh hp).2⟩) hfz
  exact kk v H' F3 d sd2 R4 S4 rp q
theorem pd_callI {c : Str} {spec : PSpec} {mf : ME} {ma : MA} {fe e : Expr} {es : List Expr} {pos : Pos} {j : Nat} (cl : CalC X.prog X.w X.K X.mg X.base CN k c spec) (hr : RoomG j X.A) (hk : k ≤ j) (hf : PE X fe (tD X.K C mf)) (ha : PA X (e :: es) (tDA X.K C ma))
    (ht : eval (.Call fe (e :: es) [] pos) X.env = (do callWith pos (← eval fe X.env) [] (backTo pos (starEach (e :: es) X.env)) (backToKw pos (keywordEach [] X.env))) := by rfl)
    (he : starEach (e :: es) X.env = (false, eval e X.env) :: starEach es X.env := by rfl) (hpl : (backTo pos (starEach es X.env)).any (·.1) = false := by rfl) :
    PE X (.Call fe (e :: es) [] pos) (tD X.K C (mCallM c spec mf ma)) := by
  obtain ⟨g, fd, ps, Cc, F, oc, co, hb⟩ := cl.ex
  exact pe_imp (pe_callI hf co F (hr.mono hk) hb ha ht he hpl) (td_callI oc)
theorem pd_callIK {c : Str} {spec : PSpec} {mf : ME} {mk : MA} {fe : Expr} {kws : List Keyword} {ks : List Str} {pos : Pos} {j : Nat} {gg : {α : Type} → List α → List α → List α} (cl : CalCK X.prog X.w X.K X.mg X.base CN k c spec ks gg) (hr : RoomG j X.A) (hk : k ≤ j) (hf : PE X fe (tD X.K C mf)) (hkw : PK X kws (tDA X.K C mk))
    (ht : eval (.Call fe [] kws pos) X.env = (do callWith pos (← eval fe X.env) [] (backTo pos (starEach [] X.env)) (backToKw pos (keywordEach kws X.env))) := by rfl)
    (hall : (backToKw pos (keywordEach kws X.env)).all (·.1.isSome) = true := by rfl) (hks : (backToKw pos (keywordEach kws X.env)).filterMap (·.1) = ks := by rfl)
    (hpl : ((backTo pos (starEach [] X.env)).any (·.1) || (backToKw pos (keywordEach kws X.env)).any (·.1.isNone)) = false := by rfl) :
    PE X (.Call fe [] kws pos) (tD X.K C (mCallMK c spec gg mf mk)) := by
  obtain ⟨g, fd, ps, Cc, F, oc, co, hb⟩ := cl.ex
  exact pe_imp (pe_callIK hf co F (hr.mono hk) hb hkw ht hall hks hpl) (td_callIK cl.ord oc)
theorem nf_c {K : PySem.W.Frag} {c : Str} {F H : Hp} {x : V} {d : PyData} (oc : ObjC K c Cc) (e : Same F H) (r : Rp K F x d) (h : ∃ z, bIsC c d = some z) : ∃ t, TyX K H x t ∧ PySem.W.notFirst K Cc t = true := by
  have nf : ∀ {T : String}, (PySem.W.subIn K (.type T) (.ref Cc) == some false) = true → PySem.W.notFirst K Cc (.type T) = true := fun h => by
    unfold PySem.W.notFirst
    rw [h, Bool.or_true]
  obtain ⟨z, h⟩ := h
  cases r with
  | non => exact ⟨_, .base .non, nf rfl⟩
  | bl b => exact ⟨_, .base (.bl b), nf rfl⟩
  | int i => exact ⟨_, .base (.int i), nf rfl⟩
  | str s => exact ⟨_, .base (.str s), nf rfl⟩
  | lst hh _ => exact ⟨_, .base (.lst (e _ _ hh)), nf rfl⟩
  | tup hh _ =>
    rcases hh with (hh | ⟨o, hh⟩) | ⟨o, its, n, hh, c, _⟩
    · exact ⟨_, .base (.tup (e _ _ hh)), nf rfl⟩
    · exact ⟨_, .fTuple (e _ _ hh), nf rfl⟩
    · exact ⟨_, .kTuple hh c, nf rfl⟩
  | dct hh rd => exact ⟨_, .base (.dK (e _ _ hh)), nf rfl⟩
  | ins hh o _ =>
    rename_i c' _ _ _
    have h : (if c' = c then some (PyData.bool true) else none) = some z := h
    by_cases q : c' = c
    · have o2 : ObjC K c _ := q ▸ o
      cases o2.uniq oc
      refine ⟨_, .base (.ins (e _ _ hh) o.cl o.ha o.hn o.htk o.hm), ?_⟩
      unfold PySem.W.notFirst
      rw [beq_self_eq_true, Bool.true_or]
    · rw [if_neg q] at h
      cases h
def rEqO (K : PySem.W.Frag) (C : Addr) (sp : Sp) : R2 := fun x y H Q => ∃ a dx fs t, x = .ref a ∧ H a = some (.ins C dx fs) ∧ TyX K H y t ∧ PySem.W.notFirst K C t = true ∧ sp [x, y] H (fun v H2 => ∃ t, v = .bl t ∧ Q (.bl t) H2) fun _ _ _ => False
theorem op_eqO {op : CmpOp} (hop : ∀ a b, compareOp op a b = richCompare op a b) (hs : PySem.W.findIn X.K (.ref Cc) (cmpInfo op).2.1 = some (some (.ref f))) (hf : PySem.W.isFn X.K (.ref f) = true) (F : FnG X.prog X.w X.K X.mg X.base k f fd ps sp) (hb : Binds X.K fd ps []) (hr : RoomG k X.A) : OpR X (compareOp op) (rEqO X.K Cc sp) := by
  intro pins s σ H x y v u Q I rx ry h
  obtain ⟨a, dx, fs, t, rfl, h1, ty, hn, q⟩ := h
  cases (show v = Value.ref a from rx)
  obtain ⟨m, fr⟩ := I.fr
  obtain ⟨ox, od, J⟩ := ins_inst I.hok h1
  obtain ⟨P, kx, hp, _⟩ := kit_of I ry ty
  rw [hop]
  refine PySem.W.cmp_K hr.r.units0 fr I.ok.mod.kin J (kx.ty _ _ I.kIn hp) hn hs hf ?_
  refine wpAny_mono (wp_callG (E := fun _ _ _ _ => False) F hr hb (passNo (σ := σ)) I (vs := [V.ref a, y]) (.cons (show L2.RelV (V.ref a) (.ref a) from rfl) (.cons ry .nil)) q) (fun v s' hq => ?_) fun _ _ z => z
  obtain ⟨z, H2, I2, rz, t, rfl, hq⟩ := hq
  cases (show v = Value.bool t from rz)
  exact ⟨.bl t, H2, I2, rfl, hq⟩
/-- a == b, a an instance of the class c: its def, which raises nothing and gives a truth value -/
def mEqM (c : Str) (spec : PSpec) (ma mb : ME) : ME := fun sd Q => ma sd fun a s1 => mb s1 fun b s2 => (∃ es, a = objD c es) ∧ (∃ z, bIsC c b = some z) ∧ spec [a, b] (fun r => ∃ t, r = .va (.bool t) ∧ Q (.bool t) s2) fun _ => False
theorem td_eqM {c : Str} {spec : PSpec} {ma mb : ME} (oc : ObjC X.K c Cc) : ∀ σ H Q, tD X.K C (mEqM c spec ma mb) σ H Q → tOp (rEqO X.K Cc (spP X.K CN spec)) (tD X.K C ma) (tD X.K C mb) σ H Q := by
  rintro σ H Q ⟨F0, sd, Qd, R, h, kk⟩
  refine ⟨F0, sd, _, R, h, fun x H1 F1 d sd1 R1 S1 rx h1 => ⟨F1, sd1, _, R1, h1, fun y H2 F2 e sd2 R2 S2 ry h2 => ?_⟩⟩
  obtain ⟨⟨es2, rfl⟩, hz, hs⟩ := h2
  have rx := rx.mono S2.fr
  obtain ⟨a2, C2, d2, f2, rfl, h2, o2, r2⟩ := rp_obj rx
  cases o2.uniq oc
  obtain ⟨t, ty, hn⟩ := nf_c oc R2.ext ry hz
  refine ⟨a2, d2, f2, t, rfl, R2.ext _ _ h2, ty, hn, F2, _, _, _, R2.ext, .cons rx (.cons ry .nil), hs, fun v H' F' r P ro q => ?_, fun _ _ _ _ _ _ z => z⟩
  obtain ⟨t, rfl, q⟩ := q
  obtain ⟨R3, S3⟩ := R2.post P
  cases ro
  exact ⟨t, rfl, kk (.bl t) H' F' _ sd2 R3 ((S1.trans S2).trans S3) (.bl t) q⟩
theorem pd_eqM {op : CmpOp} {c dn : Str} {spec : PSpec} {ma mb : ME} {a b : Expr} {pos : Pos} {j : Nat} (cl : CalM X.prog X.w X.K X.mg X.base CN k c dn spec) (hd : (cmpInfo op).2.1 = dn) (hop : ∀ a b, compareOp op a b = richCompare op a b) (hr : RoomG j X.A) (hk : k ≤ j) (ha : PE X a (tD X.K C ma)) (hb : PE X b (tD X.K C mb)) (hm : behindInMarks op b = false) :
    PE X (.Compare a [op] [b] pos) (tD X.K C (mEqM c spec ma mb)) := by
  obtain ⟨f, fd, ps, Cc, F, oc, hf, hfn, hbi⟩ := cl.ex
  subst hd
  exact pe_imp (pe_cmpR (op_eqO hop hf hfn F hbi (hr.mono hk)) ha hb hm) (td_eqM oc)
theorem pdt_eqM {op : CmpOp} {c dn : Str} {spec : PSpec} {ma mb : ME} {a b : Expr} {pos : Pos} {j : Nat} (cl : CalM X.prog X.w X.K X.mg X.base CN k c dn spec) (hd : (cmpInfo op).2.1 = dn) (hop : ∀ a b, compareOp op a b = richCompare op a b) (hr : RoomG j X.A) (hk : k ≤ j) (ha : PE X a (tD X.K C ma)) (hb : PE X b (tD X.K C mb)) (hm : behindInMarks op b = false) :
    PT X (.Compare a [op] [b] pos) (tDT X.K C (mT (mEqM c spec ma mb))) := by
  obtain ⟨f, fd, ps, Cc, F, oc, hf, hfn, hbi⟩ := cl.ex
  subst hd
  exact pt_imp (pt_cmpR (op_eqO hop hf hfn F hbi (hr.mono hk)) ha hb hm) (td_test (td_eqM oc))
theorem ne_K {prog : Program} {w : World} {A : Around} {E : Value → Shared → Prop} {s : Shared} {K : PySem.W.Frag} {x C L f : Addr} {h₀ : Heap} {m : Str → Option Value} {ox : Obj} {od : Option Obj} {b tb : Value} {Q : Value → Shared → Prop}
    (hu : A.units < cLine) (hu1 : A.in1.units < cLine) (fr : Fr h₀ L s.heap m) (X₀ : K.In h₀) (I : PySem.W.InstAt s.heap x ox C od) (hb : PySem.W.Looks (model prog w) s.heap (typeOf b) tb) (hn : PySem.W.notFirst K C tb = true)
    (hs : PySem.W.findIn K (.ref C) "__ne__" = some (some (.builtin "object.__ne__"))) (he : PySem.W.findIn K (.ref C) "__eq__" = some (some (.ref f))) (hf : PySem.W.isFn K (.ref f) = true) (hm : PySem.W.mroIn K C (.type "object") = some true)
    (h : wpAny (model prog w) A.in1 (call (.ref f) [.ref x, b]) (fun v s' => ∃ t, v = .bool t ∧ Q (.bool (!t)) s') E s) : wpAny (model prog w) A (richCompare .NotEq (.ref x) b) Q E s := by
  have X := X₀.keeps fr.keep
  have one : wpAny (model prog w) A (tryCompare (.ref x) "__ne__" b) (fun r s' => ∃ v, r = some v ∧ Q v s') E s := by
    unfold tryCompare
    refine wpAny_bind (NtL.csib (I.type.andThen (PySem.W.looks_findIn X hs)) (PySem.F.cmp_object.ne.bind _) ?_)
    refine wpAny_call (codeAny_call_builtin PySem.F.cmp_object.ne.plain PySem.F.cmpEntry_ne (PySem.W.check_slot PySem.F.cmpKind_ne PySem.F.cmpSplit_ne (I.type.andThen (PySem.W.looks_subIn X hm)) (PySem.F.cmpArgs_ne _ _) ?_))
    show wpAny _ A.in1 (Builtin.«object.__ne__» ⟨[.ref x, b], []⟩) _ _ s
    unfold Builtin.«object.__ne__»
    refine wpAny_bind (wpAny_of_eq (a := ((Value.ref x), [b])) rfl ?_)
    refine wpAny_bind (wpAny_cRoomFor hu1 ?_)
    refine wpAny_bind (PySem.W.ifBound_K X I he hf (wpAny_mono h (fun v s' hv => ?_) fun _ _ e => e))
    obtain ⟨t, rfl, q⟩ := hv
    refine wpAny_bind (wpAny_truthy_bool ?_)
    exact wpAny_pure (wpAny_pure ⟨_, rfl, q⟩)
  unfold richCompare
  simp only [oneThing_ref]
  refine wpAny_holding (wpAny_bind (wpAny_cRoomFor hu ?_))
  refine wpAny_bind (I.type.here (wpAny_bind (hb.here ?_)))
  split
  · rename_i q
    have e : PySem.W.subIn K tb (.ref C) = some false := by
      rcases Bool.or_eq_true_iff.mp hn with e | e
      · rw [beq_iff_eq.mp e] at q; simp at q
      · exact beq_iff_eq.mp e
    refine wpAny_bind ((PySem.W.looks_subIn X e).here ?_)
    simp only [Bool.false_eq_true, if_false]
    refine wpAny_bind (wpAny_mono one (fun r s' z => ?_) fun _ _ e => e)
    obtain ⟨v, rfl, hq⟩ := z
    exact wpAny_pure hq
  · refine wpAny_bind (wpAny_pure ?_)
    simp only [Bool.false_eq_true, if_false]
    refine wpAny_bind (wpAny_mono one (fun r s' z => ?_) fun _ _ e => e)
    obtain ⟨v, rfl, hq⟩ := z
    exact wpAny_pure hq
theorem op_neO (hs : PySem.W.findIn X.K (.ref Cc) "__ne__" = some (some (.builtin "object.__ne__"))) (he : PySem.W.findIn X.K (.ref Cc) "__eq__" = some (some (.ref f))) (hf : PySem.W.isFn X.K (.ref f) = true) (hm : PySem.W.mroIn X.K Cc (.type "object") = some true)
    (F : FnG X.prog X.w X.K X.mg X.base k f fd ps sp) (hb : Binds X.K fd ps []) (hr : RoomG (k + 1) X.A) : OpR X (compareOp .NotEq) (fun x y H Q => rEqO X.K Cc sp x y H fun v H2 => ∃ t, v = .bl t ∧ Q (.bl (!t)) H2) := by
  intro pins s σ H x y v u Q I rx ry h
  obtain ⟨a, dx, fs, t, rfl, h1, ty, hn, q⟩ := h
  cases (show v = Value.ref a from rx)
  obtain ⟨m, fr⟩ := I.fr
  obtain ⟨ox, od, J⟩ := ins_inst I.hok h1
  obtain ⟨P, kx, hp, _⟩ := kit_of I ry ty
  show wpAny _ _ (richCompare .NotEq (.ref a) u) _ _ _
  refine ne_K hr.r.units0 hr.in1.r.units0 fr I.ok.mod.kin J (kx.ty _ _ I.kIn hp) hn hs he hf hm ?_
  have rr : Vals [V.ref a, y] [Value.ref a, u] := .cons (show L2.RelV (V.ref a) (.ref a) from rfl) (.cons ry .nil)
  have hl : ([Value.ref a, u] ++ []).length = ps.length := by rw [← F.len _ _ _ _ q]; rfl
  have bb := hb s [.ref a, u] I.kIn hl
  rw [List.append_nil] at bb
  refine wpAny_call (codeAny_mono (F.run hr.in1 I.env0.in1 bb rr q) fun r s' hq => ?_)
  cases r with
  | error er =>
    obtain ⟨_, _, _, _, _, _, _, _, _, _, _, _, z⟩ := hq
    exact z.elim
  | ok fl =>
    cases fl with
    | ret u =>
      obtain ⟨z, H', I3, rv, t, rfl, t2, e2, q3⟩ := I.after hq
      cases e2
      cases (show u = Value.bool t from rv)
      exact ⟨t, rfl, .bl (!t), H', I3, rfl, q3⟩
    | next => exact False.elim hq
    | brk => exact False.elim hq
    | cont => exact False.elim hq
/-- a != b, a an instance of the class c that has no __ne__ of its own -/
def mNeM (c : Str) (spec : PSpec) (ma mb : ME) : ME := fun sd Q => ma sd fun a s1 => mb s1 fun b s2 => (∃ es, a = objD c es) ∧ (∃ z, bIsC c b = some z) ∧ spec [a, b] (fun r => ∃ t, r = .va (.bool t) ∧ Q (.bool (!t)) s2) fun _ => False
theorem td_neM {c : Str} {spec : PSpec} {ma mb : ME} (oc : ObjC X.K c Cc) : ∀ σ H Q, tD X.K C (mNeM c spec ma mb) σ H Q → tOp (fun x y H Q => rEqO X.K Cc (spP X.K CN spec) x y H fun v H2 => ∃ t, v = .bl t ∧ Q (.bl (!t)) H2) (tD X.K C ma) (tD X.K C mb) σ H Q := by
  rintro σ H Q ⟨F0, sd, Qd, R, h, kk⟩
  refine ⟨F0, sd, _, R, h, fun x H1 F1 d sd1 R1 S1 rx h1 => ⟨F1, sd1, _, R1, h1, fun y H2 F2 e sd2 R2 S2 ry h2 => ?_⟩⟩
  obtain ⟨⟨es2, rfl⟩, hz, hs⟩ := h2
  have rx := rx.mono S2.fr
  obtain ⟨a2, C2, d2, f2, rfl, h2, o2, r2⟩ := rp_obj rx
  cases o2.uniq oc
  obtain ⟨t, ty, hn⟩ := nf_c oc R2.ext ry hz
  refine ⟨a2, d2, f2, t, rfl, R2.ext _ _ h2, ty, hn, F2, _, _, _, R2.ext, .cons rx (.cons ry .nil), hs, fun v H' F' r P ro q => ?_, fun _ _ _ _ _ _ z => z⟩
  obtain ⟨t, rfl, q⟩ := q
  obtain ⟨R3, S3⟩ := R2.post P
  cases ro
  exact ⟨t, rfl, t, rfl, kk (.bl (!t)) H' F' _ sd2 R3 ((S1.trans S2).trans S3) (.bl (!t)) q⟩
/-- the class c has object's __ne__, and its own __eq__ -/
structure CalN (P : Program) (w : World) (K : PySem.W.Frag) (mg : Str → Option Value) (base : Heap) (CN : String → Option Addr) (k : Nat) (c : Str) (spec : PSpec) : Prop where
  ex : ∃ f fd ps Cc, FnG P w K mg base k f fd ps (spP K CN spec) ∧ ObjC K c Cc ∧ PySem.W.findIn K (.ref Cc) "__eq__" = some (some (.ref f)) ∧ PySem.W.isFn K (.ref f) = true ∧ Binds K fd ps [] ∧ PySem.W.findIn K (.ref Cc) "__ne__" = some (some (.builtin "object.__ne__"))
theorem pd_neM {c : Str} {spec : PSpec} {ma mb : ME} {a b : Expr} {pos : Pos} {j : Nat} (cl : CalN X.prog X.w X.K X.mg X.base CN k c spec) (hr : RoomG j X.A) (hk : k + 1 ≤ j) (ha : PE X a (tD X.K C ma)) (hb : PE X b (tD X.K C mb)) (hm : behindInMarks .NotEq b = false) :
    PE X (.Compare a [.NotEq] [b] pos) (tD X.K C (mNeM c spec ma mb)) := by
  obtain ⟨f, fd, ps, Cc, F, oc, hf, hfn, hbi, hne⟩ := cl.ex
  exact pe_imp (pe_cmpR (op_neO hne hf hfn oc.hm F hbi (hr.mono hk)) ha hb hm) (td_neM oc)
theorem pdt_neM {c : Str} {spec : PSpec} {ma mb : ME} {a b : Expr} {pos : Pos} {j : Nat} (cl : CalN X.prog X.w X.K X.mg X.base CN k c spec) (hr : RoomG j X.A) (hk : k + 1 ≤ j) (ha : PE X a (tD X.K C ma)) (hb : PE X b (tD X.K C mb)) (hm : behindInMarks .NotEq b = false) :
    PT X (.Compare a [.NotEq] [b] pos) (tDT X.K C (mT (mNeM c spec ma mb))) := by
  obtain ⟨f, fd, ps, Cc, F, oc, hf, hfn, hbi, hne⟩ := cl.ex
  exact pt_imp (pt_cmpR (op_neO hne hf hfn oc.hm F hbi (hr.mono hk)) ha hb hm) (td_test (td_neM oc))
/-- the class c may be made by the keywords ks (n of them), whose order hh turns into the def's -/
structure CalIK (P : Program) (w : World) (K : PySem.W.Frag) (mg : Str → Option Value) (base : Heap) (CN : String → Option Addr) (k : Nat) (c : Str) (spec : OSpec) (ks : List Str) (hh : {α : Type} → List α → List α) : Prop where
  ex : ∃ f fd ps Cc, ∃ gg : {α : Type} → List α → List α → List α, FnG P w K mg base k f fd ps (spO K CN c spec) ∧ mg c = some (.ref Cc) ∧ ObjC K c Cc ∧ Mk K Cc f ∧ KBinds K fd ps ks gg gg ∧ ∀ {α : Type} (v : α) (ws : List α), ws.length = ks.length → gg [v] ws = v :: hh ws
  ord : ∀ {α β : Type} (R : α → β → Prop) {as : List α} {bs : List β}, Paired R as bs → Paired R (hh as) (hh bs)
def mKw (n : Nat) (hh : {α : Type} → List α → List α) (mk : MA) : MA := fun sd Q => mk sd fun ds s1 => ds.length = n ∧ Q (hh ds) s1
def mMakeK (c : Str) (spec : OSpec) (W : WD) (n : Nat) (hh : {α : Type} → List α → List α) (mk : MA) : ME := mMake c spec W (mKw n hh mk)
def tKw (n : Nat) (hh : {α : Type} → List α → List α) (tk : TA) : TA := fun σ H Q => tk σ H fun zs H1 => zs.length = n ∧ Q (hh zs) H1
theorem rpA_length {K : PySem.W.Frag} {F : Hp} : ∀ {vs : List V} {ds : List PyData}, RpA K F vs ds → vs.length = ds.length
  | _, _, .nil => rfl
  | _, _, .cons _ r => congrArg Nat.succ (rpA_length r)
theorem td_kw {K : PySem.W.Frag} {n : Nat} {hh : {α : Type} → List α → List α} {mk : MA} (og : ∀ {α β : Type} (R : α → β → Prop) {as : List α} {bs : List β}, Paired R as bs → Paired R (hh as) (hh bs)) : ∀ σ H Q, tDA K C (mKw n hh mk) σ H Q → tKw n hh (tDA K C mk) σ H Q := by
  rintro σ H Q ⟨F, sd, Qd, R, h, kk⟩
  refine ⟨F, sd, _, R, h, fun vs H1 F1 ds sd1 R1 S1 rs h1 => ?_⟩
  obtain ⟨hl, q⟩ := h1
  exact ⟨(rpA_length rs).trans hl, kk _ _ _ _ _ R1 S1 (paired_rpA (og _ (rpA_paired rs))) q⟩
theorem run_makeGK {E : L2.St → XK} {ks : List Str} {gg : {α : Type} → List α → List α → List α} {pins : List (Addr × Obj)} {σ : L2.St} {H : Hp} {s : Shared} {Q : VK} {ws : List Value} {zs : List V} (M : Mk X.K Cc f) (F : FnG X.prog X.w X.K X.mg X.base k f fd ps sp) (hr : RoomG (k + 1) X.A) (hb : KBinds X.K fd ps ks gg gg) (hx : PassesAt (L2.CX X.prog X.w) X σ (E σ))
    (I : L2.Inv X pins σ H s) (rz : Vals zs ws) (h : ∀ x dx, H x = none → H dx = none → dx ≠ x → sp (gg [V.ref x] zs) (upd (upd H dx (.own x)) x (.ins Cc dx [])) (fun v H2 => v = .non ∧ Q (.ref x) H2) (E σ)) :
    wpAny (model X.prog X.w) X.A (call (.ref Cc) [] (ks.zip ws)) (EP X pins σ Q) X.xe s := by
  have I1 := I.made (C := Cc)
  have f1 := I.hok.fresh (a := s.heap.objs.size) (Nat.le_refl _)
  have f2 := I.hok.fresh (a := s.heap.objs.size + 1) (Nat.le_succ _)
  have hs := h (s.heap.objs.size + 1) s.heap.objs.size f2 f1 (Nat.ne_of_lt (Nat.lt_succ_self _))
  have rg := hb.rel (vs := [V.ref (s.heap.objs.size + 1)]) (us := [Value.ref (s.heap.objs.size + 1)]) (.cons (show L2.RelV (V.ref (s.heap.objs.size + 1)) (.ref (s.heap.objs.size + 1)) from rfl) .nil) rz
  have hl : (gg [Value.ref (s.heap.objs.size + 1)] ws).length = ps.length := rg.length ▸ F.len _ _ _ _ hs
  have b := hb.to _ [Value.ref (s.heap.objs.size + 1)] ws I1.kIn hl
  refine wpAny_call (make_map I.kIn M.makes M.init (by have := M.fn; simpa [PySem.W.isFn] using this) (codeAny_mono (F.run (hr.make Cc [] (ks.zip ws)) (I1.env0.make Cc [] (ks.zip ws)) b rg hs) fun r s' hq => ?_))
  cases r with
  | error e => exact hx pins _ _ e s' I1 hq
  | ok fl =>
    cases fl with
    | ret u =>
      have q := I1.after hq
      obtain ⟨v, H2, I2, rv, hv, hq2⟩ := q
      subst hv
      cases rv
      exact ⟨rfl, .ref _, H2, I2, rfl, hq2⟩
    | next => exact hq
    | brk => exact hq
    | cont => exact hq
theorem pd_makeK {c : Str} {spec : OSpec} {W : WD} {mk : MA} {p pos : Pos} {kws : List Keyword} {ks : List Str} {k j : Nat} {hh : {α : Type} → List α → List α} (cl : CalIK X.prog X.w X.K X.mg X.base CN k c spec ks hh) (hr : RoomG j X.A) (hk : k + 1 ≤ j) (tk : Takes X (wD X.K C CN W)) (hkw : PK X kws (tDA X.K C mk)) (hg : Gl X c := by rfl)
    (hall : (backToKw pos (keywordEach kws X.env)).all (·.1.isSome) = true := by rfl) (hks : (backToKw pos (keywordEach kws X.env)).filterMap (·.1) = ks := by rfl) (hdb : (c == ("__debug__" : Str)) = false := by decide)
    (hpl : ((backTo pos (starEach [] X.env)).any (·.1) || (backToKw pos (keywordEach kws X.env)).any (·.1.isNone)) = false := by rfl) :
    PE X (.Call (.Name c p) [] kws pos) (tD X.K C (mMakeK c spec W ks.length hh mk)) := by
  obtain ⟨f, fd, ps, Cc, gg, F, hm, oc, M, hb, sh⟩ := cl.ex
  refine pe_imp (t := tMakeG Cc (spO X.K CN c spec) (WE (wD X.K C CN W)) (tKw ks.length hh (tDA X.K C mk))) ⟨fun pins s σ H Q I h => ?_⟩ fun σ H Q h => ?_
  · refine wpAny_Call_Name_kw (ld_glob I hg hm (PySem.W.callWith_KW0 (h₀ := X.base) I.ok.mod.kin M.kp hall (thn (hkw.run pos pins s σ H _ I h) fun ws s2 h2 => ?_) hpl) hdb)
    obtain ⟨zs, H2, I2, rz, hl, q2⟩ := h2
    refine ⟨I2.kIn, ?_⟩
    rw [hks]
    refine run_makeGK (E := WE (wD X.K C CN W)) M F (hr.mono hk) hb (passAt tk σ) I2 rz fun x dx h1 h2 h3 => ?_
    rw [sh _ _ hl]
    exact q2 x dx h1 h2 h3
  · have z := td_make (K := X.K) (C := C) (CN := CN) (W := W) (ma := mKw ks.length hh mk) (spec := spec) oc σ H Q h
    exact td_kw cl.ord σ H _ z
theorem op_ninO (hf : PySem.W.findIn X.K (.ref Cc) "__contains__" = some (some (.ref f))) (hfn : PySem.W.isFn X.K (.ref f) = true) (F : FnG X.prog X.w X.K X.mg X.base k f fd ps sp) (hb : Binds X.K fd ps []) (hr : RoomG k X.A) : OpR X (compareOp .NotIn) (fun x y H Q => rInO Cc sp x y H fun v H2 => ∃ t, v = .bl t ∧ Q (.bl (!t)) H2) := by
  intro pins s σ H x y v u Q I rx ry h
  obtain ⟨b, dy, gs, rfl, h1, q⟩ := h
  cases (show u = Value.ref b from ry)
  obtain ⟨m, fr⟩ := I.fr
  obtain ⟨ox, od, J⟩ := ins_inst I.hok h1
  refine PySem.W.notIn_K fr I.ok.mod.kin J hf hfn ?_
  refine wpAny_mono (wp_callG (E := fun _ _ _ _ => False) F hr hb (passNo (σ := σ)) I (vs := [V.ref b, x]) (.cons (show L2.RelV (V.ref b) (.ref b) from rfl) (.cons rx .nil)) q) (fun v s' hq => ?_) fun _ _ z => z
  obtain ⟨z, H2, I2, rz, t, rfl, t2, e2, hq⟩ := hq
  cases e2
  cases (show v = Value.bool t from rz)
  exact wpAny_truthy_bool ⟨.bl (!t), H2, I2, rfl, hq⟩
def mNinM (c : Str) (spec : PSpec) (ma mb : ME) : ME := fun sd Q => ma sd fun a s1 => mb s1 fun b s2 => (∃ es, b = objD c es) ∧ spec [b, a] (fun r => ∃ t, r = .va (.bool t) ∧ Q (.bool (!t)) s2) fun _ => False
theorem td_ninM {c : Str} {spec : PSpec} {ma mb : ME} (oc : ObjC X.K c Cc) : ∀ σ H Q, tD X.K C (mNinM c spec ma mb) σ H Q → tOp (fun x y H Q => rInO Cc (spP X.K CN spec) x y H fun v H2 => ∃ t, v = .bl t ∧ Q (.bl (!t)) H2) (tD X.K C ma) (tD X.K C mb) σ H Q := by
  rintro σ H Q ⟨F0, sd, Qd, R, h, kk⟩
  refine ⟨F0, sd, _, R, h, fun x H1 F1 d sd1 R1 S1 rx h1 => ⟨F1, sd1, _, R1, h1, fun y H2 F2 e sd2 R2 S2 ry h2 => ?_⟩⟩
  obtain ⟨⟨es2, rfl⟩, hs⟩ := h2
  have rx := rx.mono S2.fr
  obtain ⟨a2, C2, d2, f2, rfl, h2, o2, r2⟩ := rp_obj ry
  cases o2.uniq oc
  refine ⟨a2, d2, f2, rfl, R2.ext _ _ h2, F2, _, _, _, R2.ext, .cons ry (.cons rx .nil), hs, fun v H' F' r P ro q => ?_, fun _ _ _ _ _ _ z => z⟩
  obtain ⟨t, rfl, q⟩ := q
  obtain ⟨R3, S3⟩ := R2.post P
  cases ro
  exact ⟨t, rfl, t, rfl, kk (.bl (!t)) H' F' _ sd2 R3 ((S1.trans S2).trans S3) (.bl (!t)) q⟩
theorem pd_ninM {c : Str} {spec : PSpec} {ma mb : ME} {a b : Expr} {pos : Pos} {j : Nat} (cl : CalM X.prog X.w X.K X.mg X.base CN k c "__contains__" spec) (hr : RoomG j X.A) (hk : k ≤ j) (ha : PE X a (tD X.K C ma)) (hb : PE X b (tD X.K C mb)) (hm : behindInMarks .NotIn b = false) :
    PE X (.Compare a [.NotIn] [b] pos) (tD X.K C (mNinM c spec ma mb)) := by
  obtain ⟨f, fd, ps, Cc, F, oc, hf, hfn, hbi⟩ := cl.ex
  exact pe_imp (pe_cmpR (op_ninO hf hfn F hbi (hr.mono hk)) ha hb hm) (td_ninM oc)
theorem pdt_ninM {c : Str} {spec : PSpec} {ma mb : ME} {a b : Expr} {pos : Pos} {j : Nat} (cl : CalM X.prog X.w X.K X.mg X.base CN k c "__contains__" spec) (hr : RoomG j X.A) (hk : k ≤ j) (ha : PE X a (tD X.K C ma)) (hb : PE X b (tD X.K C mb)) (hm : behindInMarks .NotIn b = false) :
    PT X (.Compare a [.NotIn] [b] pos) (tDT X.K C (mT (mNinM c spec ma mb))) := by
  obtain ⟨f, fd, ps, Cc, F, oc, hf, hfn, hbi⟩ := cl.ex
  exact pt_imp (pt_cmpR (op_ninO hf hfn F hbi (hr.mono hk)) ha hb hm) (td_test (td_ninM oc))
end
theorem pick_paired {α β : Type} (R : α → β → Prop) {as : List α} {bs : List β} {ss : List Sel} (h : Paired R as bs) : Paired R (pick [] as ss) (pick [] bs ss) := by
  induction ss with
  | nil => exact .nil
  | cons s ss ih =>
    cases s with
    | p i => exact paired_app (paired_at i .nil) ih
    | k i => exact paired_app (paired_at i h) ih
end DL
namespace DL
open PySem PySem.Spec PyProof.Rows L2
/-- a two-place operation that may raise -/
def tOpE (r : V → V → Hp → VK → XK → Prop) (E : L2.St → XK) (ta tb : TE) : TE := fun σ H Q => ta σ H fun x H1 => tb σ H1 fun y H2 => r x y H2 Q (E σ)
/-- f(e, ..), f an expression that gives an instance of C -/
def tCallIE (C : Addr) (sp : Sp) (E : L2.St → XK) (tf : TE) (t : TA) : TE := fun σ H Q => tf σ H fun y H1 => ∃ a, y = V.ref a ∧ t σ H1 fun vs H2 => (∃ dx fs, H2 a = some (.ins C dx fs)) ∧ sp (V.ref a :: vs) H2 Q (E σ)
def tCallIKE (C : Addr) (sp : Sp) (E : L2.St → XK) (gV : List V → List V → List V) (tf : TE) (tk : TA) : TE := fun σ H Q => tf σ H fun y H1 => ∃ a, y = V.ref a ∧ tk σ H1 fun zs H2 => (∃ dx fs, H2 a = some (.ins C dx fs)) ∧ sp (gV [V.ref a] zs) H2 Q (E σ)
section
variable {X : Cx} {k : Nat} {g f Cc : Addr} {fd : FuncData} {ps : List Str} {sp : Sp} {E : L2.St → XK}
theorem run_callIE {pins : List (Addr × Obj)} {σ : L2.St} {H : Hp} {s : Shared} {Q : VK} {a dx : Addr} {fs : List (Str × V)} {us : List Value} {vs : List V} (c : StX.CallO X.K Cc g) (F : FnG X.prog X.w X.K X.mg X.base k g fd ps sp) (hr : RoomG k X.A) (hb : Binds X.K fd ps []) (hx : PassesAt (L2.CX X.prog X.w) X σ (E σ)) (I : L2.Inv X pins σ H s) (e : H a = some (.ins Cc dx fs)) (r : Vals vs us)
    (h : sp (V.ref a :: vs) H Q (E σ)) : wpAny (model X.prog X.w) X.A (call (.ref a) us) (EP X pins σ Q) X.xe s := by
  obtain ⟨ox, od, J, hd⟩ := StX.insC_at I (.inr ⟨dx, fs, e⟩)
  have rr : Vals (V.ref a :: vs) (Value.ref a :: us) := .cons rfl r
  have hl : ((Value.ref a :: us) ++ []).length = ps.length := by rw [List.append_nil, ← rr.length]; exact F.len _ _ _ _ h
  have b := hb s (Value.ref a :: us) I.kIn hl
  rw [List.append_nil] at b
  refine wpAny_call (PySem.W.kco_code I.kIn J hd c.at_ c.fn c.fi (codeAny_mono (run_fnG (args := ⟨Value.ref a :: us, []⟩) (n := 0) F hr b hx I rr h) fun r s' hq => ?_))
  rcases r with _ | (_ | _ | _ | _) <;> exact hq
theorem run_callIKE {ks : List Str} {gg : List Value → List Value → List Value} {gV : List V → List V → List V} {pins : List (Addr × Obj)} {σ : L2.St} {H : Hp} {s : Shared} {Q : VK} {a dx : Addr} {fs : List (Str × V)} {ws : List Value} {zs : List V} (c : StX.CallO X.K Cc g) (F : FnG X.prog X.w X.K X.mg X.base k g fd ps sp) (hr : RoomG k X.A) (hb : KBinds X.K fd ps ks gg gV) (hx : PassesAt (L2.CX X.prog X.w) X σ (E σ)) (I : L2.Inv X pins σ H s) (e : H a = some (.ins Cc dx fs)) (rz : Vals zs ws)
    (h : sp (gV [V.ref a] zs) H Q (E σ)) : wpAny (model X.prog X.w) X.A (call (.ref a) [] (ks.zip ws)) (EP X pins σ Q) X.xe s := by
  obtain ⟨ox, od, J, hd⟩ := StX.insC_at I (.inr ⟨dx, fs, e⟩)
  have rg := hb.rel (vs := [V.ref a]) (us := [Value.ref a]) (.cons (show L2.RelV (V.ref a) (.ref a) from rfl) .nil) rz
  have hl : (gg [Value.ref a] ws).length = ps.length := rg.length ▸ F.len _ _ _ _ h
  refine wpAny_call (PySem.W.kco_code I.kIn J hd c.at_ c.fn c.fi (codeAny_mono (run_fnG (args := ⟨[Value.ref a], ks.zip ws⟩) (n := 0) F hr (hb.to s [Value.ref a] ws I.kIn hl) hx I rg h) fun r s' hq => ?_))
  rcases r with _ | (_ | _ | _ | _) <;> exact hq
theorem pe_callIE {fe e : Expr} {es : List Expr} {pos : Pos} {tf : TE} {t : TA} (hf : PE X fe tf) (c : StX.CallO X.K Cc g) (F : FnG X.prog X.w X.K X.mg X.base k g fd ps sp) (hr : RoomG k X.A) (hb : Binds X.K fd ps []) (hx : ∀ σ, PassesAt (L2.CX X.prog X.w) X σ (E σ)) (ha : PA X (e :: es) t)
    (ht : eval (.Call fe (e :: es) [] pos) X.env = (do callWith pos (← eval fe X.env) [] (backTo pos (starEach (e :: es) X.env)) (backToKw pos (keywordEach [] X.env))))
    (he : starEach (e :: es) X.env = (false, eval e X.env) :: starEach es X.env) (hpl : (backTo pos (starEach es X.env)).any (·.1) = false) : PE X (.Call fe (e :: es) [] pos) (tCallIE Cc sp E tf t) := by
  refine ⟨fun pins s σ H Q I h => ?_⟩
  rw [ht]
  refine wpAny_bind (thn (hf.run pins s σ H _ I h) fun u s1 ⟨y, H1, I1, ry, a, ey, q⟩ => ?_)
  subst ey
  obtain rfl : u = Value.ref a := ry
  refine StX.callO_with (thn (ha.run pos pins s1 σ H1 _ I1 q) fun us s2 ⟨vs, H2, I2, r, ⟨dx, fs, hi⟩, q2⟩ => ?_) he hpl
  obtain ⟨ox, od, J, hd⟩ := StX.insC_at I2 (.inr ⟨dx, fs, hi⟩)
  exact ⟨⟨Cc, ox, od, J, hd⟩, run_callIE c F hr hb (hx σ) I2 hi r q2⟩
theorem pe_callIKE {ks : List Str} {gg : List Value → List Value → List Value} {gV : List V → List V → List V} {fe : Expr} {kws : List Keyword} {pos : Pos} {tf : TE} {tk : TA} (hf : PE X fe tf) (c : StX.CallO X.K Cc g) (F : FnG X.prog X.w X.K X.mg X.base k g fd ps sp) (hr : RoomG k X.A) (hb : KBinds X.K fd ps ks gg gV) (hx : ∀ σ, PassesAt (L2.CX X.prog X.w) X σ (E σ)) (hkw : PK X kws tk)
    (ht : eval (.Call fe [] kws pos) X.env = (do callWith pos (← eval fe X.env) [] (backTo pos (starEach [] X.env)) (backToKw pos (keywordEach kws X.env))))
    (hall : (backToKw pos (keywordEach kws X.env)).all (·.1.isSome) = true) (hks : (backToKw pos (keywordEach kws X.env)).filterMap (·.1) = ks)
    (hpl : ((backTo pos (starEach [] X.env)).any (·.1) || (backToKw pos (keywordEach kws X.env)).any (·.1.isNone)) = false) : PE X (.Call fe [] kws pos) (tCallIKE Cc sp E gV tf tk) := by
  refine ⟨fun pins s σ H Q I h => ?_⟩
  rw [ht]
  refine wpAny_bind (thn (hf.run pins s σ H _ I h) fun u s1 ⟨y, H1, I1, ry, a, ey, q⟩ => ?_)
  subst ey
  obtain rfl : u = Value.ref a := ry
  refine callK_of hpl (evalArgs_kw2_nil hall (thn (hkw.run pos pins s1 σ H1 _ I1 q) fun ws s2 ⟨zs, H2, I2, rz, ⟨dx, fs, hi⟩, q2⟩ => ?_))
  obtain ⟨ox, od, J, hd⟩ := StX.insC_at I2 (.inr ⟨dx, fs, hi⟩)
  refine ⟨⟨Cc, ox, od, J, hd⟩, ?_⟩
  rw [hks]
  exact run_callIKE c F hr hb (hx σ) I2 hi rz q2
end
/-- a(e, ..): the class's __call__ -/
def mCallME (c : Str) (spec : PSpec) (W : WD) (mf : ME) (ma : MA) : ME := fun sd Q => mf sd fun a s1 => (∃ es, a = objD c es) ∧ ma s1 fun ds s2 => spec (a :: ds) (fun r => ∃ d, fz r = some d ∧ Q d s2) fun cn => W cn s2
/-- a(x=e, ..) -/
def mCallMKE (c : Str) (spec : PSpec) (W : WD) (gg : List PyData → List PyData → List PyData) (mf : ME) (mk : MA) : ME := fun sd Q => mf sd fun a s1 => (∃ es, a = objD c es) ∧ mk s1 fun ds s2 => spec (gg [a] ds) (fun r => ∃ d, fz r = some d ∧ Q d s2) fun cn => W cn s2
section
variable {X : Cx} {C : Ct} {CN : String → Option Addr} {k : Nat} {Cc : Addr}
theorem td_callIE {c : Str} {spec : PSpec} {W : WD} {mf : ME} {ma : MA} (oc : ObjC X.K c Cc) : ∀ σ H Q, tD X.K C (mCallME c spec W mf ma) σ H Q → tCallIE Cc (spP X.K CN spec) (WE (wD X.K C CN W)) (tD X.K C mf) (tDA X.K C ma) σ H Q := by
  rintro σ H Q ⟨F0, sd, Qd, R, h, kk⟩
  refine ⟨F0, sd, _, R, h, fun x H1 F1 d sd1 R1 S1 rx h1 => ?_⟩
  obtain ⟨⟨es1, rfl⟩, hs⟩ := h1
  obtain ⟨a1, C1, d1, f1, rfl, h1, o1, r1⟩ := rp_obj rx
  cases o1.uniq oc
  refine ⟨a1, rfl, F1, sd1, _, R1, hs, fun vs H2 F2 ds sd2 R2 S2 rs h2 => ?_⟩
  have rx := rx.mono S2.fr
  obtain ⟨a2, C2, d2, f2, e2, h3, o2, r2⟩ := rp_obj rx
  cases e2
  cases o2.uniq oc
  refine ⟨⟨d2, f2, R2.ext _ _ h3⟩, F2, _, _, _, R2.ext, .cons rx rs, h2, fun v H' F' r P ro q => ?_, fun cn a H' F' hc P q => ?_⟩
  · obtain ⟨d, hfz, q⟩ := q
    obtain ⟨R3, S3⟩ := R2.post P
    obtain ⟨F3, R4, S4, rp⟩ := R3.res ((S1.trans S2).trans S3) ro (fun p hp => ⟨S1.st p (S2.st p hp), fun z => (R2.fresh hp).1 (S3.ow p z), (R2.fresh hp).2⟩) hfz
    exact kk v H' F3 d sd2 R4 S4 rp q
  · exact ⟨cn, a, F', sd2, hc, rfl, rfl, (R2.post P).1, q⟩
theorem td_callIKE {c : Str} {spec : PSpec} {W : WD} {mf : ME} {mk : MA} {gg : {α : Type} → List α → List α → List α} (og : Ord gg) (oc : ObjC X.K c Cc) : ∀ σ H Q, tD X.K C (mCallMKE c spec W gg mf mk) σ H Q → tCallIKE Cc (spP X.K CN spec) (WE (wD X.K C CN W)) gg (tD X.K C mf) (tDA X.K C mk) σ H Q := by
  rintro σ H Q ⟨F0, sd, Qd, R, h, kk⟩
  refine ⟨F0, sd, _, R, h, fun x H1 F1 d sd1 R1 S1 rx h1 => ?_⟩
  obtain ⟨⟨es1, rfl⟩, hs⟩ := h1
  obtain ⟨a1, C1, d1, f1, rfl, h1, o1, r1⟩ := rp_obj rx
  cases o1.uniq oc
  refine ⟨a1, rfl, F1, sd1, _, R1, hs, fun vs H2 F2 ds sd2 R2 S2 rs h2 => ?_⟩
  have rx := rx.mono S2.fr
  obtain ⟨a2, C2, d2, f2, e2, h3, o2, r2⟩ := rp_obj rx
  cases e2
  cases o2.uniq oc
  refine ⟨⟨d2, f2, R2.ext _ _ h3⟩, F2, _, _, _, R2.ext, paired_rpA (og.rel _ (rpA_paired (.cons rx .nil)) (rpA_paired rs)), h2, fun v H' F' r P ro q => ?_, fun cn a H' F' hc P q => ?_⟩
  · obtain ⟨d, hfz, q⟩ := q
    obtain ⟨R3, S3⟩ := R2.post P
    obtain ⟨F3, R4, S4, rp⟩ := R3.res ((S1.trans S2).trans S3) ro (fun p hp => ⟨S1.st p (S2.st p hp), fun z => (R2.fresh hp).1 (S3.ow p z), (R2.fresh hp).2⟩) hfz
    exact kk v H' F3 d sd2 R4 S4 rp q
  · exact ⟨cn, a, F', sd2, hc, rfl, rfl, (R2.post P).1, q⟩
theorem pd_callIE {c : Str} {spec : PSpec} {W : WD} {mf : ME} {ma : MA} {fe e : Expr} {es : List Expr} {pos : Pos} {j : Nat} (cl : CalC X.prog X.w X.K X.mg X.base CN k c spec) (hr : RoomG j X.A) (hk : k ≤ j) (tk : Takes X (wD X.K C CN W)) (hf : PE X fe (tD X.K C mf)) (ha : PA X (e :: es) (tDA X.K C ma))
    (ht : eval (.Call fe (e :: es) [] pos) X.env = (do callWith pos (← eval fe X.env) [] (backTo pos (starEach (e :: es) X.env)) (backToKw pos (keywordEach [] X.env))) := by rfl)
    (he : starEach (e :: es) X.env = (false, eval e X.env) :: starEach es X.env := by rfl) (hpl : (backTo pos (starEach es X.env)).any (·.1) = false := by rfl) :
    PE X (.Call fe (e :: es) [] pos) (tD X.K C (mCallME c spec W mf ma)) := by
  obtain ⟨g, fd, ps, Cc, F, oc, co, hb⟩ := cl.ex
  exact pe_imp (pe_callIE hf co F (hr.mono hk) hb (passAt tk) ha ht he hpl) (td_callIE oc)
theorem pd_callIKE {c : Str} {spec : PSpec} {W : WD} {mf : ME} {mk : MA} {fe : Expr} {kws : List Keyword} {ks : List Str} {pos : Pos} {j : Nat} {gg : {α : Type} → List α → List α → List α} (cl : CalCK X.prog X.w X.K X.mg X.base CN k c spec ks gg) (hr : RoomG j X.A) (hk : k ≤ j) (tk : Takes X (wD X.K C CN W)) (hf : PE X fe (tD X.K C mf)) (hkw : PK X kws (tDA X.K C mk))
    (ht : eval (.Call fe [] kws pos) X.env = (do callWith pos (← eval fe X.env) [] (backTo pos (starEach [] X.env)) (backToKw pos (keywordEach kws X.env))) := by rfl)
    (hall : (backToKw pos (keywordEach kws X.env)).all (·.1.isSome) = true := by rfl) (hks : (backToKw pos (keywordEach kws X.env)).filterMap (·.1) = ks := by rfl)
    (hpl : ((backTo pos (starEach [] X.env)).any (·.1) || (backToKw pos (keywordEach kws X.env)).any (·.1.isNone)) = false := by rfl) :
    PE X (.Call fe [] kws pos) (tD X.K C (mCallMKE c spec W gg mf mk)) := by
  obtain ⟨g, fd, ps, Cc, F, oc, co, hb⟩ := cl.ex
  exact pe_imp (pe_callIKE hf co F (hr.mono hk) hb (passAt tk) hkw ht hall hks hpl) (td_callIKE cl.ord oc)
end
/-- what the built-in type T says of an operator: it may know it, but the own class stands first -/
structure BinT (K : PySem.W.Frag) (Cc : Addr) (nm T : String) : Prop where
  sub : PySem.W.subIn K (.type T) (.ref Cc) = some false
  fo : ∃ r, PySem.W.findIn K (.type T) (PySem.dunder nm) = some r
  ro : ∃ r, PySem.W.findIn K (.type T) (dunderR nm) = some r
/-- the kinds that stand at the right of & -/
theorem and_kinds {K : PySem.W.Frag} {Cc : Addr} : ∀ T ∈ ["NoneType", "bool", "int", "str", "list", "tuple", "dict"], BinT K Cc "and" T := by
  intro T hT
  simp only [List.mem_cons, List.not_mem_nil, or_false] at hT
  rcases hT with rfl | rfl | rfl | rfl | rfl | rfl | rfl <;> exact ⟨rfl, ⟨_, rfl⟩, ⟨_, rfl⟩⟩
section
open PySem.W
variable {prog : Program} {w : World} {K : PySem.W.Frag} {Cc f : Addr}
/-- the def of the left one's class, where the right one's kind is built in -/
theorem bin_kind {A : Around} {E : Value → Shared → Prop} {st : Shared} {p L : Addr} {base : Heap} {mo : Str → Option Value} {po : Obj} {pd : Option Obj} {T : String} {o : Operator} {y : Value} {back : Option Value} {Q : Value → Shared → Prop}
    (FR : Fr base L st.heap mo) (kin : K.In base) (J : InstAt st.heap p po Cc pd) (ty : Looks (model prog w) st.heap (typeOf y) (.type T)) (sf : selfFirst K Cc = true)
    (left : findIn K (.ref Cc) (PySem.dunder o.info.2) = some (some (.ref f))) (fn : isFn K (.ref f) = true) (refl : findIn K (.ref Cc) (dunderR o.info.2) = some back) (own : back = none ∨ ∃ q : Addr, back = some (.ref q)) (bt : BinT K Cc o.info.2 T)
    (go : wpAny (model prog w) A (call (.ref f) [.ref p, y]) (PySem.W.CmpBack Q) E st) : wpAny (model prog w) A (binaryOp o (.ref p) y) Q E st := by
  have here := kin.keeps FR.keep
  obtain ⟨dat, others, known, first⟩ := ksp_first sf
  obtain ⟨sub, ⟨lo, klo⟩, ⟨ro, kro⟩⟩ := bt
  rcases hop : o.info with ⟨sign, name⟩
  rw [hop] at left refl klo kro
  dsimp only at left refl klo kro
  have done1 := ksp_try here J left fn go
  obtain ⟨hp, gl, di, tk, os⟩ := st
  have a1 : Looks (model prog w) hp (typeOf (.ref p)) (.ref Cc) := J.type
  have a2 : Looks (model prog w) hp (typeOf y) (.type T) := ty
  have a3 : Looks (model prog w) hp (fillsNumberSlot (.ref Cc) name) true := fills_K here known first left
  have a4 := ksp_fillsT (M := model prog w) here klo kro
  have a5 : Looks (model prog w) hp (isSubtype (.type T) (.ref Cc)) false := looks_subIn here sub
  have a6 : Looks (model prog w) hp (numberSlotInPython (.ref Cc) name) true := ksp_inPy here left refl own
  have a7 : Looks (model prog w) hp (numberSlotInPython (.type T) name) false := Looks.of_pure rfl
  have a8 : Looks (model prog w) hp (typeLookup (.type T) (dunderR name)) ro := looks_findIn here kro
  generalize ((lo.isSome && !isSeqSlot lo) || (ro.isSome && !isSeqSlot ro)) = fills at a4
  have other : (Value.ref Cc == Value.type T) = false := Bool.eq_false_iff.mpr fun q => by cases beq_iff_eq.mp q
  simp only [binaryOp, hop]
  refine wpAny_holding (wpAny_bind ?_)
  unfold binaryOp1
  refine wpAny_bind (a1.at (wpAny_bind (a2.at (wpAny_bind (a3.at ?_)))))
  simp only [other, Bool.false_eq_true, if_false]
  cases fills with
  | false =>
    ksp_lk
    refine wpAny_mono done1 (fun r st' hr' => ?_) fun _ _ e => e
    obtain ⟨v, rfl, hq⟩ := hr'
    ksp_lk
    exact hq
  | true =>
    ksp_lk
    refine wpAny_mono done1 (fun r st' hr' => ?_) fun _ _ e => e
    obtain ⟨v, rfl, hq⟩ := hr'
    ksp_lk
    exact hq
end
/-- what stands at the right: an instance of the class itself, or a built-in kind -/
def Right (K : PySem.W.Frag) (Cc : Addr) (nm : String) (t : Value) : Prop := t = .ref Cc ∨ ∃ T, t = .type T ∧ BinT K Cc nm T
def rBinE (K : PySem.W.Frag) (Cc : Addr) (nm : String) (sp : Sp) : V → V → Hp → VK → XK → Prop := fun x y H Q E => ∃ a dx fs t, x = .ref a ∧ H a = some (.ins Cc dx fs) ∧ TyX K H y t ∧ Right K Cc nm t ∧ sp [x, y] H Q E
section
variable {X : Cx} {k : Nat} {f Cc : Addr} {fd : FuncData} {ps : List Str} {sp : Sp} {E : L2.St → XK}
theorem pe_binE {op : Operator} {a b : Expr} {ta tb : TE} {pos : Pos} (hf : PySem.W.findIn X.K (.ref Cc) (dunder op.info.snd) = some (some (.ref f))) (hfn : PySem.W.isFn X.K (.ref f) = true) (sf : PySem.W.selfFirst X.K Cc = true) (nr : PySem.W.findIn X.K (.ref Cc) (dunderR op.info.snd) = some none) (F : FnG X.prog X.w X.K X.mg X.base k f fd ps sp) (hb : Binds X.K fd ps []) (hr : RoomG k X.A) (hx : ∀ σ, PassesAt (L2.CX X.prog X.w) X σ (E σ)) (ha : PE X a ta) (hbb : PE X b tb) :
    PE X (.BinOp a op b pos) (tOpE (rBinE X.K Cc op.info.snd sp) E ta tb) := by
  refine ⟨fun pins s σ H Q I h => ?_⟩
  refine wpAny_BinOp (binT ha hbb I h fun v u s2 x y H2 I2 rx ry q => ?_)
  obtain ⟨p, dx, fs, t, rfl, h1, ty, rt, q⟩ := q
  cases (show v = Value.ref p from rx)
  obtain ⟨m, fr⟩ := I2.fr
  obtain ⟨ox, od, J⟩ := ins_inst I2.hok h1
  obtain ⟨P, kx, hp, _⟩ := kit_of I2 ry ty
  have fin := wpAny_mono (wp_callG (E := E) F hr hb (hx σ) I2 (vs := [V.ref p, y]) (.cons (show L2.RelV (V.ref p) (.ref p) from rfl) (.cons ry .nil)) q) (fun v s' hq => (show PySem.W.CmpBack (EP X pins σ Q) v s' from by
    obtain ⟨z, H2, I2, rz, hq⟩ := hq
    exact SlX.cmpback rz ⟨z, H2, I2, rz, hq⟩)) fun _ _ z => z
  have lk := kx.ty (model X.prog X.w) _ I2.kIn hp
  rcases rt with rfl | ⟨T, rfl, bt⟩
  · exact PySem.W.binop_K fr I2.ok.mod.kin J lk sf hf hfn fin
  · exact bin_kind fr I2.ok.mod.kin J lk sf hf hfn nr (.inl rfl) bt fin
end
/-- a op b by the def of the left one's class, b of any kind that isinstance tells -/
def mBinE (c : Str) (spec : PSpec) (W : WD) (ma mb : ME) : ME := fun sd Q => ma sd fun a s1 => mb s1 fun b s2 => (∃ es, a = objD c es) ∧ (∃ z, bIsC c b = some z) ∧ spec [a, b] (fun r => ∃ d, fz r = some d ∧ Q d s2) fun cn => W cn s2
section
variable {X : Cx} {C : Ct} {CN : String → Option Addr} {k : Nat} {Cc : Addr}
theorem right_c {K : PySem.W.Frag} {c : Str} {nm : String} {F H : Hp} {x : V} {d : PyData} (kinds : ∀ T ∈ ["NoneType", "bool", "int", "str", "list", "tuple", "dict"], BinT K Cc nm T) (oc : ObjC K c Cc) (e : Same F H) (r : Rp K F x d) (h : ∃ z, bIsC c d = some z) : ∃ t, TyX K H x t ∧ Right K Cc nm t := by
  have kd : ∀ T ∈ ["NoneType", "bool", "int", "str", "list", "tuple", "dict"], Right K Cc nm (.type T) := fun T hT => .inr ⟨T, rfl, kinds T hT⟩
  obtain ⟨z, h⟩ := h
  cases r with
  | non => exact ⟨_, .base .non, kd _ (by simp)⟩
  | bl b => exact ⟨_, .base (.bl b), kd _ (by simp)⟩
  | int i => exact ⟨_, .base (.int i), kd _ (by simp)⟩
  | str s => exact ⟨_, .base (.str s), kd _ (by simp)⟩
  | lst hh _ => exact ⟨_, .base (.lst (e _ _ hh)), kd _ (by simp)⟩
  | tup hh _ =>
    rcases hh with (hh | ⟨o, hh⟩) | ⟨o, its, n, hh, c, _⟩
    · exact ⟨_, .base (.tup (e _ _ hh)), kd _ (by simp)⟩
    · exact ⟨_, .fTuple (e _ _ hh), kd _ (by simp)⟩
    · exact ⟨_, .kTuple hh c, kd _ (by simp)⟩
  | dct hh rd => exact ⟨_, .base (.dK (e _ _ hh)), kd _ (by simp)⟩
  | ins hh o _ =>
    rename_i c' _ _ _
    have h : (if c' = c then some (PyData.bool true) else none) = some z := h
    by_cases q : c' = c
    · have o2 : ObjC K c _ := q ▸ o
      cases o2.uniq oc
      exact ⟨_, .base (.ins (e _ _ hh) o.cl o.ha o.hn o.htk o.hm), .inl rfl⟩
    · rw [if_neg q] at h
      cases h
theorem td_binE {c : Str} {nm : String} {spec : PSpec} {W : WD} {ma mb : ME} (kinds : ∀ T ∈ ["NoneType", "bool", "int", "str", "list", "tuple", "dict"], BinT X.K Cc nm T) (oc : ObjC X.K c Cc) : ∀ σ H Q, tD X.K C (mBinE c spec W ma mb) σ H Q → tOpE (rBinE X.K Cc nm (spP X.K CN spec)) (WE (wD X.K C CN W)) (tD X.K C ma) (tD X.K C mb) σ H Q := by
  rintro σ H Q ⟨F0, sd, Qd, R, h, kk⟩
  refine ⟨F0, sd, _, R, h, fun x H1 F1 d sd1 R1 S1 rx h1 => ⟨F1, sd1, _, R1, h1, fun y H2 F2 e sd2 R2 S2 ry h2 => ?_⟩⟩
  obtain ⟨⟨es2, rfl⟩, hz, hs⟩ := h2
  have rx := rx.mono S2.fr
  obtain ⟨a2, C2, d2, f2, rfl, h2, o2, r2⟩ := rp_obj rx
  cases o2.uniq oc
  obtain ⟨t, ty, hn⟩ := right_c kinds oc R2.ext ry hz
  refine ⟨a2, d2, f2, t, rfl, R2.ext _ _ h2, ty, hn, F2, _, _, _, R2.ext, .cons rx (.cons ry .nil), hs, fun v H' F' r P ro q => ?_, fun cn a H' F' hc P q => ?_⟩
  · obtain ⟨d, hfz, q⟩ := q
    obtain ⟨R3, S3⟩ := R2.post P
    obtain ⟨F3, R4, S4, rp⟩ := R3.res ((S1.trans S2).trans S3) ro (fun p hp => ⟨S1.st p (S2.st p hp), fun z => (R2.fresh hp).1 (S3.ow p z), (R2.fresh hp).2⟩) hfz
    exact kk v H' F3 d sd2 R4 S4 rp q
  · exact ⟨cn, a, F', sd2, hc, rfl, rfl, (R2.post P).1, q⟩
theorem pd_binE {op : Operator} {c dn : Str} {spec : PSpec} {W : WD} {ma mb : ME} {a b : Expr} {pos : Pos} {j : Nat} (cl : CalM X.prog X.w X.K X.mg X.base CN k c dn spec) (hd : dunder op.info.snd = dn) (sf : ∀ Cc, ObjC X.K c Cc → PySem.W.selfFirst X.K Cc = true ∧ PySem.W.findIn X.K (.ref Cc) (dunderR op.info.snd) = some none) (kinds : ∀ Cc, ∀ T ∈ ["NoneType", "bool", "int", "str", "list", "tuple", "dict"], BinT X.K Cc op.info.snd T) (hr : RoomG j X.A) (hk : k ≤ j) (tk : Takes X (wD X.K C CN W)) (ha : PE X a (tD X.K C ma)) (hb : PE X b (tD X.K C mb)) :
    PE X (.BinOp a op b pos) (tD X.K C (mBinE c spec W ma mb)) := by
  obtain ⟨f, fd, ps, Cc, F, oc, hf, hfn, hbi⟩ := cl.ex
  subst hd
  exact pe_imp (pe_binE hf hfn (sf Cc oc).1 (sf Cc oc).2 F hbi (hr.mono hk) (passAt tk) ha hb) (td_binE (kinds Cc) oc)
end
end DL
namespace DL
open PySem
/-- E: what the body may raise, and in which state -/
theorem try_run {body : WD → MS} {i : Nat} {cat : String → Bool} {suite : String → Addr → MS} {Wout : WD} {D : DE} {sd : DSt} (E : String → DSt → Prop)
    (hs : ∀ c s, E c s → cat c = true ∧ ∀ a, suite c a { nx := fun s => D.nx (sset s i .no), rt := D.rt, bk := fun s => D.bk (sset s i .no), ct := fun s => D.ct (sset s i .no) } (sset s i (.exc a)))
    (hb : ∀ Wd : WD, (∀ c s, E c s → Wd c s) → body Wd D sd) : mTry body i cat suite Wout D sd :=
  hb _ fun c s h => ⟨fun _ => (hs c s h).2, fun z => by rw [(hs c s h).1] at z; cases z⟩
end DL
namespace LW
open PySem PySem.Spec PyProof.Rows L2 DL
def topS (i : Nat) : Stmt := PySem.Challenge.pw_cushionshots_k35_errors_of_balls.main.body.getD i (.Pass ⟨0, 0, 0, 0⟩)
def inS : Stmt → Nat → Stmt
  | .ClassDef _ _ _ b _ _ _ _ _ _ _, j => b.getD j (.Pass ⟨0, 0, 0, 0⟩)
  | s, _ => s
abbrev s_is_whole : Stmt := topS 10
theorem sc_is_whole : FnScope ["value"] ["value"] (defScope s_is_whole) := ⟨rfl, rfl, rfl, by decide +kernel, rfl, by decide +kernel, by decide +kernel⟩
abbrev s_are_whole : Stmt := topS 11
theorem sc_are_whole : FnScope ["value", "many", "item"] ["value", "many"] (defScope s_are_whole) := ⟨rfl, rfl, rfl, by decide +kernel, rfl, by decide +kernel, by decide +kernel⟩
abbrev s_fraction_of : Stmt := topS 12
theorem sc_fraction_of : FnScope ["top", "bottom", "common"] ["top", "bottom"] (defScope s_fraction_of) := ⟨rfl, rfl, rfl, by decide +kernel, rfl, by decide +kernel, by decide +kernel⟩
abbrev s__line_of : Stmt := topS 15
theorem sc__line_of : FnScope ["side", "start", "speed"] ["side", "start", "speed"] (defScope s__line_of) := ⟨rfl, rfl, rfl, by decide +kernel, rfl, by decide +kernel, by decide +kernel⟩
abbrev s_lines_of : Stmt := topS 14
theorem sc_lines_of : FnScope ["table", "shot", "width", "height", "x", "y", "p", "q"] ["table", "shot"] (defScope s_lines_of) := ⟨rfl, rfl, rfl, by decide +kernel, rfl, by decide +kernel, by decide +kernel⟩
abbrev s__first_out : Stmt := topS 22
theorem sc__first_out : FnScope ["lower", "upper", "grow", "begin", "bottom", "top_grow", "top_begin", "found"] ["lower", "upper"] (defScope s__first_out) := ⟨rfl, rfl, rfl, by decide +kernel, rfl, by decide +kernel, by decide +kernel⟩
abbrev s_first_between : Stmt := topS 21
theorem sc_first_between : FnScope ["lower", "upper", "exchanged", "grow", "begin", "bottom", "top_grow", "top_begin", "top_bottom", "least", "many", "rise"] ["lower", "upper"] (defScope s_first_between) := ⟨rfl, rfl, rfl, by decide +kernel, rfl, by decide +kernel, by decide +kernel⟩
abbrev s_first_within : Stmt := topS 20
theorem sc_first_within : FnScope ["grow", "begin", "circle", "low", "high"] ["grow", "begin", "circle", "low", "high"] (defScope s_first_within) := ⟨rfl, rfl, rfl, by decide +kernel, rfl, by decide +kernel, by decide +kernel⟩
abbrev s_is_table : Stmt := topS 24
theorem sc_is_table : FnScope ["value"] ["value"] (defScope s_is_table) := ⟨rfl, rfl, rfl, by decide +kernel, rfl, by decide +kernel, by decide +kernel⟩
abbrev s_check_table : Stmt := topS 30
theorem sc_check_table : FnScope ["table"] ["table"] (defScope s_check_table) := ⟨rfl, rfl, rfl, by decide +kernel, rfl, by decide +kernel, by decide +kernel⟩
abbrev s_is_any_shot : Stmt := topS 29
theorem sc_is_any_shot : FnScope ["value"] ["value"] (defScope s_is_any_shot) := ⟨rfl, rfl, rfl, by decide +kernel, rfl, by decide +kernel, by decide +kernel⟩
abbrev s_is_shot : Stmt := topS 25
theorem sc_is_shot : FnScope ["table", "value"] ["table", "value"] (defScope s_is_shot) := ⟨rfl, rfl, rfl, by decide +kernel, rfl, by decide +kernel, by decide +kernel⟩
abbrev s_is_fraction : Stmt := topS 26
theorem sc_is_fraction : FnScope ["value"] ["value"] (defScope s_is_fraction) := ⟨rfl, rfl, rfl, by decide +kernel, rfl, by decide +kernel, by decide +kernel⟩
abbrev s_check_shot : Stmt := topS 31
theorem sc_check_shot : FnScope ["table", "shot"] ["table", "shot"] (defScope s_check_shot) := ⟨rfl, rfl, rfl, by decide +kernel, rfl, by decide +kernel, by decide +kernel⟩
abbrev s_check_time : Stmt := topS 32
theorem sc_check_time : FnScope ["time"] ["time"] (defScope s_check_time) := ⟨rfl, rfl, rfl, by decide +kernel, rfl, by decide +kernel, by decide +kernel⟩
abbrev s__check_all : Stmt := topS 33
theorem sc__check_all : FnScope ["table", "shot", "time"] ["table", "shot", "time"] (defScope s__check_all) := ⟨rfl, rfl, rfl, by decide +kernel, rfl, by decide +kernel, by decide +kernel⟩
abbrev s__fold : Stmt := topS 34
theorem sc__fold : FnScope ["side", "number", "top", "bottom", "rest"] ["side", "number"] (defScope s__fold) := ⟨rfl, rfl, rfl, by decide +kernel, rfl, by decide +kernel, by decide +kernel⟩
abbrev s__place : Stmt := topS 35
theorem sc__place : FnScope ["table", "shot", "time", "top", "bottom", "side", "start", "speed"] ["table", "shot", "time"] (defScope s__place) := ⟨rfl, rfl, rfl, by decide +kernel, rfl, by decide +kernel, by decide +kernel⟩
abbrev s_place_at : Stmt := topS 27
theorem sc_place_at : FnScope ["table", "shot", "time"] ["table", "shot", "time"] (defScope s_place_at) := ⟨rfl, rfl, rfl, by decide +kernel, rfl, by decide +kernel, by decide +kernel⟩
abbrev s__check_shots : Stmt := topS 38
theorem sc__check_shots : FnScope ["table", "shot", "other"] ["table", "shot", "other"] (defScope s__check_shots) := ⟨rfl, rfl, rfl, by decide +kernel, rfl, by decide +kernel, by decide +kernel⟩
abbrev s__both : Stmt := topS 42
theorem sc__both : FnScope ["one", "other", "rest", "step", "other_rest", "other_step", "index"] ["one", "other"] (defScope s__both) := ⟨rfl, rfl, rfl, by decide +kernel, rfl, by decide +kernel, by decide +kernel⟩
abbrev s__gaps : Stmt := topS 39
theorem sc__gaps : FnScope ["table", "shot", "other", "gaps", "at", "start", "speed", "other_start", "other_speed", "difference"] ["table", "shot", "other"] (defScope s__gaps) := ⟨rfl, rfl, rfl, by decide +kernel, rfl, by decide +kernel, by decide +kernel⟩
abbrev s__same_numbers : Stmt := topS 41
theorem sc__same_numbers : FnScope ["circle", "pairs", "parts", "told", "start", "speed", "step"] ["circle", "pairs", "parts"] (defScope s__same_numbers) := ⟨rfl, rfl, rfl, by decide +kernel, rfl, by decide +kernel, by decide +kernel⟩
abbrev s__meetings : Stmt := topS 40
theorem sc__meetings : FnScope ["table", "shot", "other", "gaps", "parts", "_", "pairs", "speed", "across", "along", "meetings", "circle", "one", "other_one", "meeting"] ["table", "shot", "other"] (defScope s__meetings) := ⟨rfl, rfl, rfl, by decide +kernel, rfl, by decide +kernel, by decide +kernel⟩
abbrev s_first_meeting : Stmt := topS 37
theorem sc_first_meeting : FnScope ["table", "shot", "other", "parts", "meetings", "rest", "_"] ["table", "shot", "other"] (defScope s_first_meeting) := ⟨rfl, rfl, rfl, by decide +kernel, rfl, by decide +kernel, by decide +kernel⟩
abbrev s__law_well : Stmt := topS 53
theorem sc__law_well : FnScope ["script", "at", "cell"] ["script", "at"] (defScope s__law_well) := ⟨rfl, rfl, rfl, by decide +kernel, rfl, by decide +kernel, by decide +kernel⟩
abbrev s__law_draw : Stmt := topS 54
theorem sc__law_draw : FnScope ["well", "most", "digit", "blend"] ["well", "most"] (defScope s__law_draw) := ⟨rfl, rfl, rfl, by decide +kernel, rfl, by decide +kernel, by decide +kernel⟩
abbrev s__law_desk : Stmt := topS 55
theorem sc__law_desk : FnScope ["well", "most", "wide", "tall"] ["well", "most"] (defScope s__law_desk) := ⟨rfl, rfl, rfl, by decide +kernel, rfl, by decide +kernel, by decide +kernel⟩
abbrev s__law_roll : Stmt := topS 56
theorem sc__law_roll : FnScope ["well", "desk", "most", "x", "y", "p", "q"] ["well", "desk", "most"] (defScope s__law_roll) := ⟨rfl, rfl, rfl, by decide +kernel, rfl, by decide +kernel, by decide +kernel⟩
abbrev s_Ball_and : Stmt := inS (topS 51) 5
theorem sc_Ball_and : FnScope ["self", "other"] ["self", "other"] (defScope s_Ball_and) := ⟨rfl, rfl, rfl, by decide +kernel, rfl, by decide +kernel, by decide +kernel⟩
abbrev s_Ball_call : Stmt := inS (topS 51) 3
theorem sc_Ball_call : FnScope ["self", "time"] ["self", "time"] (defScope s_Ball_call) := ⟨rfl, rfl, rfl, by decide +kernel, rfl, by decide +kernel, by decide +kernel⟩
abbrev s_Ball_init : Stmt := inS (topS 51) 0
theorem sc_Ball_init : FnScope ["self", "table", "shot"] ["self", "table", "shot"] (defScope s_Ball_init) := ⟨rfl, rfl, rfl, by decide +kernel, rfl, by decide +kernel, by decide +kernel⟩
abbrev s__law_told : Stmt := topS 57
theorem sc__law_told : FnScope ["way", "a", "x", "y", "marks", "caught"] ["way", "a", "x", "y"] (defScope s__law_told) := ⟨rfl, rfl, rfl, by decide +kernel, rfl, by decide +kernel, by decide +kernel⟩
abbrev s__law_case : Stmt := topS 58
theorem sc__law_case : FnScope ["well", "way", "a", "desk", "shot_here", "x", "y", "due", "some", "mate"] ["well", "way", "a", "desk", "shot_here"] (defScope s__law_case) := ⟨rfl, rfl, rfl, by decide +kernel, rfl, by decide +kernel, by decide +kernel⟩
abbrev s_Ball_shot : Stmt := inS (topS 51) 2
theorem sc_Ball_shot : FnScope ["self"] ["self"] (defScope s_Ball_shot) := ⟨rfl, rfl, rfl, by decide +kernel, rfl, by decide +kernel, by decide +kernel⟩
abbrev s_Ball_table : Stmt := inS (topS 51) 1
theorem sc_Ball_table : FnScope ["self"] ["self"] (defScope s_Ball_table) := ⟨rfl, rfl, rfl, by decide +kernel, rfl, by decide +kernel, by decide +kernel⟩
abbrev s_law : Stmt := topS 59
theorem sc_law : FnScope ["script", "at", "well", "desk", "shot_here", "a", "way", "x", "y", "due"] ["script"] (defScope s_law) := ⟨rfl, rfl, rfl, by decide +kernel, rfl, by decide +kernel, by decide +kernel⟩
def anc : String → List String
  | "InvalidShot" => ["InvalidShot", "ShotError", "ValueError"]
  | "InvalidTable" => ["InvalidTable", "ShotError", "ValueError"]
  | "InvalidTime" => ["InvalidTime", "ShotError", "ValueError"]
  | "NotABall" => ["NotABall", "ShotError", "ValueError"]
  | "OtherTable" => ["OtherTable", "ShotError", "ValueError"]
  | _ => []
def isSub (c T : String) : Bool := (anc c).contains T
structure G (K : PySem.W.Frag) (mg : Str → Option Value) (CN : String → Option Addr) : Prop where
  b_ValueError : mg "ValueError" = none
  b_abs : mg "abs" = none
  b_all : mg "all" = none
  b_bool : mg "bool" = none
  b_gcd : mg "gcd" = some (.builtin "math.gcd")
  b_int : mg "int" = none
  b_isinstance : mg "isinstance" = none
  b_lcm : mg "lcm" = some (.builtin "math.lcm")
  b_len : mg "len" = none
  b_list : mg "list" = none
  b_max : mg "max" = none
  b_min : mg "min" = none
  b_range : mg "range" = none
  b_reversed : mg "reversed" = none
  b_tuple : mg "tuple" = none
  x_InvalidShot : ∃ c, CN "InvalidShot" = some c ∧ ExcCls K mg "InvalidShot" c
  x_InvalidTable : ∃ c, CN "InvalidTable" = some c ∧ ExcCls K mg "InvalidTable" c
  x_InvalidTime : ∃ c, CN "InvalidTime" = some c ∧ ExcCls K mg "InvalidTime" c
  x_NotABall : ∃ c, CN "NotABall" = some c ∧ ExcCls K mg "NotABall" c
  x_OtherTable : ∃ c, CN "OtherTable" = some c ∧ ExcCls K mg "OtherTable" c
  sf_Ball : ∀ Cc, ObjC K "Ball" Cc → PySem.W.selfFirst K Cc = true
  nr_Ball_and : ∀ Cc, ObjC K "Ball" Cc → PySem.W.findIn K (.ref Cc) (dunderR "and") = some none
  na_Ball__shot : ∀ Cc, ObjC K "Ball" Cc → NoAttr K Cc "_shot"
  na_Ball__table : ∀ Cc, ObjC K "Ball" Cc → NoAttr K Cc "_table"
  kc_Ball : ∃ Cc, mg "Ball" = some (.ref Cc) ∧ ObjC K "Ball" Cc ∧ KitC K Cc
  ec : ∀ c A, CN c = some A → ExcC K A
  kt_InvalidShot : ∃ C, mg "InvalidShot" = some (.ref C) ∧ ∀ c A, CN c = some A → PySem.W.kitOne K (.ref A) (.ref C) = some (isSub c "InvalidShot")
  kt_InvalidTable : ∃ C, mg "InvalidTable" = some (.ref C) ∧ ∀ c A, CN c = some A → PySem.W.kitOne K (.ref A) (.ref C) = some (isSub c "InvalidTable")
  kt_InvalidTime : ∃ C, mg "InvalidTime" = some (.ref C) ∧ ∀ c A, CN c = some A → PySem.W.kitOne K (.ref A) (.ref C) = some (isSub c "InvalidTime")
  kt_NotABall : ∃ C, mg "NotABall" = some (.ref C) ∧ ∀ c A, CN c = some A → PySem.W.kitOne K (.ref A) (.ref C) = some (isSub c "NotABall")
  kt_OtherTable : ∃ C, mg "OtherTable" = some (.ref C) ∧ ∀ c A, CN c = some A → PySem.W.kitOne K (.ref A) (.ref C) = some (isSub c "OtherTable")
  kb_ValueError : ∀ c A, CN c = some A → PySem.W.kitOne K (.ref A) (.type "ValueError") = some (isSub c "ValueError")
  h_ShotError : ∃ hc, mg "ShotError" = some hc ∧ ∀ c A, CN c = some A → PySem.W.exmOne K (.ref A) hc = some (isSub c "ShotError")
section
variable {P : Program} {w : World} {K : PySem.W.Frag} {mg : Str → Option Value} {base : Heap} {CN : String → Option Addr}
theorem ok_draw {f : Addr} {fd : FuncData} (F : Fun K "_law_draw" "_law_draw" s__law_draw f fd) (mi : mg "int" = none) : FnG P w K mg base 1 f fd ["well", "most"] (spW K dDraw) := by
  refine fun_okG F sc__law_draw (fun vs H Q E h => ?_) (fun cdv A outer s H vs Q E hr h => ⟨_, pss_cons (ps_if (pt_cmpR op_gt (pe_ix ix_list (pv 0) pe_int (fun _ _ => rfl)) pe_int (nomark _))
        (pss_cons (ps_set (i := 2) sc__law_draw.nd rfl (.inl rfl) (pe_op op_mod (pe_callTy cr_int (by rfl) mi (by decide +kernel) (pa_cons (pe_ix ix_list (pv 0) pe_int (fun _ _ => rfl)) pa_nil)) (pv 1)))
        (pss_cons (ps_asg (pe_op op_fdivW (pe_ix ix_list (pv 0) pe_int (fun _ _ => rfl)) (pv 1)) (pg_sub (pv 0) pe_int set_list))
        (pss_one (ps_ret (pv 2))))) pss_nil)
      (pss_cons (ps_asg (pe_op op_add (pe_ix ix_list (pv 0) pe_int (fun _ _ => rfl)) pe_int) (pg_sub (pv 0) pe_int set_list))
      (pss_cons (ps_set (i := 3) sc__law_draw.nd rfl (.inl rfl) (pe_op op_mod (pe_op op_powW (pe_callTy cr_int (by rfl) mi (by decide +kernel) (pa_cons (pe_op op_add (pe_ix ix_list (pv 0) pe_int (fun _ _ => rfl)) (pe_op op_mulW pe_int (pe_ix ix_list (pv 0) pe_int (fun _ _ => rfl)))) pa_nil)) pe_int) (pe_op op_add (pe_op op_powW pe_int pe_int) pe_int)))
      (pss_cons (ps_set (i := 3) sc__law_draw.nd rfl (.inl rfl) (pe_op op_mod (pe_op op_powW (pe_callTy cr_int (by rfl) mi (by decide +kernel) (pa_cons (pe_op op_add (pv 3) (pe_op op_mulW pe_int (pe_ix ix_list (pv 0) pe_int (fun _ _ => rfl)))) pa_nil)) pe_int) (pe_op op_add (pe_op op_powW pe_int pe_int) pe_int)))
      (pss_one (ps_ret (pe_op op_mod (pe_callTy cr_int (by rfl) mi (by decide +kernel) (pa_cons (pe_op op_fdivW (pv 3) pe_int) pa_nil)) (pv 1))))))), ?_⟩)
  · obtain ⟨F0, p, ws, n, a, b, c, ds, Qd, rfl, _, _, _, _, r, ⟨m, rfl, _⟩, _⟩ := h
    obtain ⟨x, rfl, _⟩ := rpA1 r
    rfl
  · obtain ⟨F0, p, ws, n, a, b, c, ds, Qd, rfl, e, hF, hp, hw, r, ⟨m, rfl, h1, h2, h3, h4⟩, hq⟩ := h
    obtain ⟨x, rfl, rx⟩ := rpA1 r
    cases rx
    have ne : ∀ q o, F0 q = some o → q ≠ p := fun q o z y => by subst y; rw [hF] at z; cases z
    have fin : ∀ (a' b' c' r : Int), WellOk (n - 1) a' b' c' → 0 ≤ r → r < m → ∀ H', (∀ q, q ≠ p → H' q = H q) → H' p = some (.lst [.int a', .int b', .int c']) → Q (.int r) H' := fun a' b' c' r ok r0 r1 H' hn hs =>
      hq (.int r) H' F0 (.va (.int r)) (n - 1) ⟨Same.refl _, fun q o z => (hn q (ne q o z)).trans (e q o z), fun q o z y => (hn q z).trans y, fun q o z => .inl z, a', b', c', hs, ok⟩ (.int r) (h4 r r0 r1)
    have hL : SqL K H p [.int a, .int b, .int c] := .inl (.inl hp)
    refine ⟨.ref p, rfl, p, _, 0, .int a, rfl, rfl, hL, rfl, a, 0, rfl, rfl, decide (0 < a), rfl, ?_⟩
    refine ite2 (fun ha => ?_) (fun ha => ?_)
    · have ha : 0 < a := of_decide_eq_true ha
      refine ⟨.ref p, rfl, p, _, 0, .int a, rfl, rfl, hL, rfl, a, rfl, .int m, rfl, a, m, rfl, rfl, by show (0 : Int) < m; omega, ?_⟩
      refine ⟨.ref p, rfl, p, _, 0, .int a, rfl, rfl, hL, rfl, .int m, rfl, a, m, rfl, rfl, ⟨by show (0 : Int) < m; omega, h3⟩, ?_⟩
      refine ⟨.ref p, rfl, p, _, 0, 0, rfl, rfl, hp, rfl, ?_⟩
      refine ⟨.int (a % m), rfl, ?_⟩
      refine fin (a / m) b c (a % m) ?_ (Int.emod_nonneg _ (by omega)) (Int.emod_lt_of_pos _ (by omega)) _ (fun q hq => upd_ne hq) upd_same
      refine ⟨Int.ediv_nonneg hw.a0 (by omega), ?_, hw.b0, hw.b1, hw.c0, by have := hw.c1; omega⟩
      refine Nat.lt_of_le_of_lt ?_ hw.a1
      have h5 : a / m ≤ a := Int.ediv_le_self m hw.a0
      have h6 : 0 ≤ a / m := Int.ediv_nonneg hw.a0 (by omega)
      omega
    · refine ⟨.ref p, rfl, p, _, 2, .int c, rfl, rfl, hL, rfl, c, 1, rfl, rfl, ?_⟩
      refine ⟨.ref p, rfl, p, _, 2, 2, rfl, rfl, hp, rfl, ?_⟩
      have hL2 : SqL K (upd H p (.lst [.int a, .int b, .int (c + 1)])) p [.int a, .int b, .int (c + 1)] := .inl (.inl upd_same)
      have c0 := hw.c0
      have c1 := hw.c1
      have b0 := hw.b0
      have b1 := hw.b1
      have big : ∀ z : Int, 0 ≤ z → z < 2 ^ 200 → z.natAbs < 2 ^ 10000 := fun z z0 z1 => by
        have : z.natAbs < 2 ^ 200 := by omega
        exact Nat.lt_of_lt_of_le this (Nat.pow_le_pow_right (by decide) (by decide))
      have lg : ∀ z : Int, 0 ≤ z → z < 2 ^ 200 → z.natAbs.log2 < 400 := fun z z0 z1 => by
        by_cases hz : z.natAbs = 0
        · rw [hz]; decide
        · refine (Nat.log2_lt hz).mpr ?_
          have : z.natAbs < 2 ^ 200 := by omega
          exact Nat.lt_of_lt_of_le this (Nat.pow_le_pow_right (by decide) (by decide))
      refine ⟨.ref p, rfl, p, _, 1, .int b, rfl, rfl, hL2, rfl, .ref p, rfl, p, _, 2, .int (c + 1), rfl, rfl, hL2, rfl, _, _, rfl, rfl, ?_, _, _, rfl, rfl, _, rfl, _, _, rfl, rfl, ⟨by decide, by decide, ?_⟩, _, _, rfl, rfl, ⟨by decide, by decide, big 10 (by decide) (by decide)⟩, _, _, rfl, rfl, _, _, rfl, rfl, ?_, ?_⟩
      · show (961748941 : Int).natAbs.log2 + (c + 1).natAbs.log2 < 1000000
        have q1 : (961748941 : Int).natAbs.log2 = 29 := by decide +kernel
        have q2 := lg (c + 1) (by omega) (by omega)
        rw [q1]; omega
      · exact big _ (by omega) (by omega)
      · show (0 : Int) < 10 ^ Int.toNat 41 + 109
        decide +kernel
      · have y0 : 0 ≤ (b + 961748941 * (c + 1)) ^ Int.toNat 3 % (10 ^ Int.toNat 41 + 109) := Int.emod_nonneg _ (by decide +kernel)
        have y1 : (b + 961748941 * (c + 1)) ^ Int.toNat 3 % (10 ^ Int.toNat 41 + 109) < 2 ^ 150 := Int.lt_trans (Int.emod_lt_of_pos _ (by decide +kernel)) (by decide +kernel)
        show gName 3 (.int ((b + 961748941 * (c + 1)) ^ Int.toNat 3 % (10 ^ Int.toNat 41 + 109))) _ _ _
        generalize (b + 961748941 * (c + 1)) ^ Int.toNat 3 % (10 ^ Int.toNat 41 + 109) = y at y0 y1 ⊢
        refine ⟨.int y, rfl, .ref p, rfl, p, _, 2, .int (c + 1), rfl, rfl, hL2, rfl, _, _, rfl, rfl, ?_, _, _, rfl, rfl, _, rfl, _, _, rfl, rfl, ⟨by decide, by decide, ?_⟩, _, _, rfl, rfl, ⟨by decide, by decide, ?_⟩, _, _, rfl, rfl, _, _, rfl, rfl, ?_, ?_⟩
        · show (217645199 : Int).natAbs.log2 + (c + 1).natAbs.log2 < 1000000
          have q1 : (217645199 : Int).natAbs.log2 = 27 := by decide +kernel
          have q2 := lg (c + 1) (by omega) (by omega)
          rw [q1]; omega
        · exact big _ (by omega) (by omega)
        · show (10 : Int).natAbs < 2 ^ 10000
          exact big 10 (by decide) (by decide)
        · show (0 : Int) < 10 ^ Int.toNat 39 + 3
          decide +kernel
        · show gName 3 (.int ((y + 217645199 * (c + 1)) ^ Int.toNat 3 % (10 ^ Int.toNat 39 + 3))) _ _ _
          generalize (y + 217645199 * (c + 1)) ^ Int.toNat 3 % (10 ^ Int.toNat 39 + 3) = z
          refine ⟨.int z, rfl, _, _, rfl, rfl, ⟨by decide, by decide +kernel⟩, _, rfl, .int m, rfl, _, _, rfl, rfl, by show (0 : Int) < m; omega, ?_⟩
          exact fin a b (c + 1) _ ⟨hw.a0, hw.a1, b0, b1, by omega, by omega⟩ (Int.emod_nonneg _ (by omega)) (Int.emod_lt_of_pos _ (by omega)) _ (fun q hq => upd_ne hq) upd_same
theorem ok_well {f : Addr} {fd : FuncData} (F : Fun K "_law_well" "_law_well" s__law_well f fd) (mi : mg "int" = none) (ml : mg "len" = none) (mm : mg "max" = none) (ma : mg "abs" = none) : FnG P w K mg base 1 f fd ["script", "at"] (spWell K) := by
  refine fun_okG F sc__law_well (fun vs H Q E h => ?_) (fun cdv A outer s H vs Q E hr h => ⟨_, pss_cons (ps_set (i := 2) sc__law_well.nd rfl (.inl rfl) (pe_ifExp (pt_cmpR op_lt (pv 1) (pe_callB call_len_seq (by rfl) ml (by decide +kernel) (pa_cons (pv 0) pa_nil)) (nomark _)) (pe_ix ix_list (pv 0) (pv 1) (fun _ _ => rfl)) pe_int))
      (pss_one (ps_ret (pe_lst (pa_cons (pe_callB (call_max2 rfl) (by rfl) mm (by decide +kernel) (pa_cons pe_int (pa_cons (pe_op op_sub (pe_callB call_abs (by rfl) ma (by decide +kernel) (pa_cons (pv 2) pa_nil)) (pe_op op_powW pe_int pe_int)) pa_nil)))
        (pa_cons (pe_op op_add (pe_op op_add (pe_op op_mulW (pe_op op_mod (pe_callTy cr_int (by rfl) mi (by decide +kernel) (pa_cons (pv 2) pa_nil)) (pe_op op_add (pe_op op_powW pe_int pe_int) pe_int)) pe_int) (pe_op op_mulW pe_int (pv 1))) pe_int) (pa_cons pe_int pa_nil)))))), ?_⟩)
  · obtain ⟨a, ns, k, rfl, _⟩ := h
    rfl
  · obtain ⟨a, ns, k, rfl, hS, hl, hb, k0, k1, q⟩ := h
    have lg : ∀ z : Int, 0 ≤ z → z < 2 ^ 200 → z.natAbs.log2 < 400 := fun z z0 z1 => by
      by_cases hz : z.natAbs = 0
      · rw [hz]; decide
      · refine (Nat.log2_lt hz).mpr ?_
        have : z.natAbs < 2 ^ 200 := by omega
        exact Nat.lt_of_lt_of_le this (Nat.pow_le_pow_right (by decide) (by decide))
    have wide : ∀ {z : Int}, Builtin.Int.intBits z ≤ 1048576 → z.natAbs < 2 ^ 1100000 := fun {z} hz => by
      unfold Builtin.Int.intBits at hz
      by_cases h0 : z.natAbs = 0
      · rw [h0]; exact Nat.pow_pos (by decide)
      · have h00 : (z == 0) = false := by
          have : z ≠ 0 := by omega
          simpa using this
        rw [h00] at hz
        have h1 : z.natAbs.log2 + 1 ≤ 1048576 := hz
        have := (Nat.log2_lt h0 (k := 1048576)).mp (by omega)
        exact Nat.lt_of_lt_of_le this (Nat.pow_le_pow_right (by decide) (by decide))
    have big10 : (10 : Int).natAbs < 2 ^ 10000 := Nat.lt_of_lt_of_le (show (10 : Int).natAbs < 2 ^ 200 by decide +kernel) (Nat.pow_le_pow_right (by decide) (by decide))
    refine ⟨.int k, rfl, .ref a, rfl, a, _, rfl, .inl hS, k, (ns.length : Int), rfl, by simp, decide (k < ns.length), rfl, ?_⟩
    refine ite2 (fun hk => ?_) (fun hk => ?_)
    · have hk : k < ns.length := of_decide_eq_true hk
      have hb2 := hb (ns[k.toNat]'(by omega)) (List.getElem_mem _)
      have hg : (ns.map V.int)[k.toNat]? = some (.int (ns[k.toNat]'(by omega))) := by
        rw [List.getElem?_map, List.getElem?_eq_getElem (by omega)]
        rfl
      generalize ns[k.toNat]'(by omega) = z at hb2 hg
      have hz := hb2
      refine ⟨.ref a, rfl, .int k, rfl, a, _, k, .int z, rfl, rfl, hS, ?_, ?_⟩
      · have e := atI_nat hg
        rwa [Int.toNat_of_nonneg k0] at e
      refine ⟨.int z, rfl, z, rfl, _, _, rfl, rfl, ⟨by decide, by decide, big10⟩, _, _, rfl, rfl, _, _, rfl, ?_⟩
      refine ⟨.int z, rfl, z, rfl, _, _, rfl, rfl, ⟨by decide, by decide, big10⟩, _, _, rfl, rfl, _, _, rfl, rfl, by show (0 : Int) < 10 ^ Int.toNat 37 + 151; decide +kernel, _, _, rfl, rfl, ?_, .int k, rfl, _, _, rfl, rfl, ?_, _, _, rfl, rfl, _, _, rfl, rfl, by show 3 ≤ sizeLine; decide, fun p hp => ?_⟩
      · show (z % (10 ^ Int.toNat 37 + 151)).natAbs.log2 + (103 : Int).natAbs.log2 < 1000000
        have q1 : (103 : Int).natAbs.log2 = 6 := by decide +kernel
        have q2 := lg (z % (10 ^ Int.toNat 37 + 151)) (Int.emod_nonneg _ (by decide +kernel)) (Int.lt_trans (Int.emod_lt_of_pos _ (by decide +kernel)) (by decide +kernel))
        rw [q1]; omega
      · show (71 : Int).natAbs.log2 + k.natAbs.log2 < 1000000
        have q1 : (71 : Int).natAbs.log2 = 6 := by decide +kernel
        have q2 := lg k k0 (by omega)
        rw [q1]; omega
      · refine q _ p _ _ _ (fun b o e => (upd_ne (ne_of_none e hp)).trans e) hp upd_same ?_
        have m0 : 0 ≤ z % (10 ^ Int.toNat 37 + 151) := Int.emod_nonneg _ (by decide +kernel)
        have m1 : z % (10 ^ Int.toNat 37 + 151) < 2 ^ 130 := Int.lt_trans (Int.emod_lt_of_pos _ (by decide +kernel)) (by decide +kernel)
        have e18 : (10 : Int) ^ Int.toNat 18 = 1000000000000000000 := by decide +kernel
        refine ⟨?_, ?_, ?_, ?_, by decide, by decide⟩
        · split <;> omega
        · refine Nat.lt_of_le_of_lt ?_ (wide hz)
          rw [e18]
          split <;> split at * <;> omega
        · omega
        · omega
    · have hz : Builtin.Int.intBits 0 ≤ 1048576 := by decide
      show gName 2 (.int 0) _ _ _
      refine ⟨.int 0, rfl, (0 : Int), rfl, _, _, rfl, rfl, ⟨by decide, by decide, big10⟩, _, _, rfl, rfl, _, _, rfl, ?_⟩
      refine ⟨.int 0, rfl, (0 : Int), rfl, _, _, rfl, rfl, ⟨by decide, by decide, big10⟩, _, _, rfl, rfl, _, _, rfl, rfl, by show (0 : Int) < 10 ^ Int.toNat 37 + 151; decide +kernel, _, _, rfl, rfl, ?_, .int k, rfl, _, _, rfl, rfl, ?_, _, _, rfl, rfl, _, _, rfl, rfl, by show 3 ≤ sizeLine; decide, fun p hp => ?_⟩
      · show ((0 : Int) % (10 ^ Int.toNat 37 + 151)).natAbs.log2 + (103 : Int).natAbs.log2 < 1000000
        have q1 : (103 : Int).natAbs.log2 = 6 := by decide +kernel
        have q2 := lg ((0 : Int) % (10 ^ Int.toNat 37 + 151)) (Int.emod_nonneg _ (by decide +kernel)) (Int.lt_trans (Int.emod_lt_of_pos _ (by decide +kernel)) (by decide +kernel))
        rw [q1]; omega
      · show (71 : Int).natAbs.log2 + k.natAbs.log2 < 1000000
        have q1 : (71 : Int).natAbs.log2 = 6 := by decide +kernel
        have q2 := lg k k0 (by omega)
        rw [q1]; omega
      · refine q _ p _ _ _ (fun b o e => (upd_ne (ne_of_none e hp)).trans e) hp upd_same ?_
        have m0 : 0 ≤ (0 : Int) % (10 ^ Int.toNat 37 + 151) := Int.emod_nonneg _ (by decide +kernel)
        have m1 : (0 : Int) % (10 ^ Int.toNat 37 + 151) < 2 ^ 130 := Int.lt_trans (Int.emod_lt_of_pos _ (by decide +kernel)) (by decide +kernel)
        have e18 : (10 : Int) ^ Int.toNat 18 = 1000000000000000000 := by decide +kernel
        refine ⟨?_, ?_, ?_, ?_, by decide, by decide⟩
        · split <;> omega
        · refine Nat.lt_of_le_of_lt ?_ (wide hz)
          rw [e18]
          split <;> split at * <;> omega
        · omega
        · omega
end
def fracD (t b : Int) : PyData := .tuple [.int (t / (Nat.gcd t.natAbs b.natAbs : Nat)), .int (b / (Nat.gcd t.natAbs b.natAbs : Nat))]
theorem gcd_pos {t b : Int} (h : 1 ≤ b) : (0 : Int) < (Nat.gcd t.natAbs b.natAbs : Nat) := by
  have := Nat.gcd_pos_of_pos_right t.natAbs (show 0 < b.natAbs by omega)
  omega
theorem sz_gcd {t b : Int} {k : Nat} (h : 1 ≤ b) (hb : sz k b) : sz k (Nat.gcd t.natAbs b.natAbs : Nat) := by
  refine sz_le hb ?_
  rw [Int.natAbs_natCast]
  exact Nat.gcd_le_right _ (by omega)
theorem div_gcd_pos {t b : Int} (h : 1 ≤ b) : 1 ≤ b / (Nat.gcd t.natAbs b.natAbs : Nat) := by
  have g0 := gcd_pos (t := t) h
  have hd : ((Nat.gcd t.natAbs b.natAbs : Nat) : Int) ∣ b := by
    have := Nat.gcd_dvd_right t.natAbs b.natAbs
    exact Int.ofNat_dvd_left.mpr this
  have := Int.ediv_pos_of_pos_of_dvd (show 0 < b by omega) (by omega) hd
  omega
def lineA (v a : Int) : Int := if v < 0 then -a else a
def lineV (v : Int) : Int := if v < 0 then -v else v
theorem int_repr {i : Int} (h : sz 200 i) : i.natAbs.log2 < 1920 ∧ (PyData.shown (.int i)).length ≤ 70 ∧ PyData.weight (.int i) ≤ 210 := by
  have lg := sz_log h
  refine ⟨by omega, ?_, ?_⟩
  · have e := int_text_length_le10 (a := i) (k := 69) (by decide) (Nat.lt_trans h (by decide))
    show (Str.ofString (toString i)).length ≤ 70
    rw [PySem.ofString_length]
    exact e
  · simp only [PyData.weight]
    split <;> omega
theorem repr_two {a b x y p q : Int} (za : sz 200 a) (zb : sz 200 b) (zx : sz 200 x) (zy : sz 200 y) (zp : sz 200 p) (zq : sz 200 q) : reprOk (.list [.tuple [.int a, .int b], .tuple [.int x, .int y, .int p, .int q]]) = true := by
  obtain ⟨a1, a2, a3⟩ := int_repr za
  obtain ⟨b1, b2, b3⟩ := int_repr zb
  obtain ⟨x1, x2, x3⟩ := int_repr zx
  obtain ⟨y1, y2, y3⟩ := int_repr zy
  obtain ⟨p1, p2, p3⟩ := int_repr zp
  obtain ⟨q1, q2, q3⟩ := int_repr zq
  have hl : (PyData.list [.tuple [.int a, .int b], .tuple [.int x, .int y, .int p, .int q]]).leavesShort 70 = true := by
    simp only [PyData.leavesShort, PyData.leavesShortAll, decide_eq_true a2, decide_eq_true b2, decide_eq_true x2, decide_eq_true y2, decide_eq_true p2, decide_eq_true q2, Bool.and_true]
  have hw : (PyData.list [.tuple [.int a, .int b], .tuple [.int x, .int y, .int p, .int q]]).weight ≤ 2000 := by
    have e : ∀ z : Int, PyData.weight (.int z) = PyData.weight (.int z) := fun _ => rfl
    generalize ha : PyData.weight (.int a) = wa at *
    generalize hb : PyData.weight (.int b) = wb at *
    generalize hx : PyData.weight (.int x) = wx at *
    generalize hy : PyData.weight (.int y) = wy at *
    generalize hp : PyData.weight (.int p) = wp at *
    generalize hq : PyData.weight (.int q) = wq at *
    have w : (PyData.list [.tuple [.int a, .int b], .tuple [.int x, .int y, .int p, .int q]]).weight = PyData.weightAll [.int a, .int b] + 1 + (PyData.weightAll [.int x, .int y, .int p, .int q] + 1 + 0) := by rw [PyData.weight, PyData.weightAll, PyData.weightAll, PyData.weightAll, PyData.weight, PyData.weight]
    rw [w]
    simp only [PyData.weightAll, ha, hb, hx, hy, hp, hq]
    omega
  have h := PyData.shown_le 70 (by decide) _ hl
  have hs : (PyData.list [.tuple [.int a, .int b], .tuple [.int x, .int y, .int p, .int q]]).shown.length ≤ 1000000 := by omega
  have hd : (PyData.list [.tuple [.int a, .int b], .tuple [.int x, .int y, .int p, .int q]]).depth ≤ 64 := by simp [PyData.depth, PyData.depthAll]
  have hsh : (PyData.list [.tuple [.int a, .int b], .tuple [.int x, .int y, .int p, .int q]]).showable = true := by
    simp only [PyData.showable, PyData.showableAll, decide_eq_true a1, decide_eq_true b1, decide_eq_true x1, decide_eq_true y1, decide_eq_true p1, decide_eq_true q1, Bool.and_true]
  unfold reprOk
  rw [decide_eq_true hs, decide_eq_true hd, hsh]
  rfl
theorem repr_three {a b x y p q u v r s : Int} (za : sz 200 a) (zb : sz 200 b) (zx : sz 200 x) (zy : sz 200 y) (zp : sz 200 p) (zq : sz 200 q) (zu : sz 200 u) (zv : sz 200 v) (zr : sz 200 r) (zs : sz 200 s) : reprOk (.list [.tuple [.int a, .int b], .tuple [.int x, .int y, .int p, .int q], .tuple [.int u, .int v, .int r, .int s]]) = true := by
  obtain ⟨a1, a2, a3⟩ := int_repr za
  obtain ⟨b1, b2, b3⟩ := int_repr zb
  obtain ⟨x1, x2, x3⟩ := int_repr zx
  obtain ⟨y1, y2, y3⟩ := int_repr zy
  obtain ⟨p1, p2, p3⟩ := int_repr zp
  obtain ⟨q1, q2, q3⟩ := int_repr zq
  obtain ⟨u1, u2, u3⟩ := int_repr zu
  obtain ⟨v1, v2, v3⟩ := int_repr zv
  obtain ⟨r1, r2, r3⟩ := int_repr zr
  obtain ⟨s1, s2, s3⟩ := int_repr zs
  have hl : (PyData.list [.tuple [.int a, .int b], .tuple [.int x, .int y, .int p, .int q], .tuple [.int u, .int v, .int r, .int s]]).leavesShort 70 = true := by
    simp only [PyData.leavesShort, PyData.leavesShortAll, decide_eq_true a2, decide_eq_true b2, decide_eq_true x2, decide_eq_true y2, decide_eq_true p2, decide_eq_true q2, decide_eq_true u2, decide_eq_true v2, decide_eq_true r2, decide_eq_true s2, Bool.and_true]
  have hw : (PyData.list [.tuple [.int a, .int b], .tuple [.int x, .int y, .int p, .int q], .tuple [.int u, .int v, .int r, .int s]]).weight ≤ 3000 := by
    have e : ∀ z : Int, PyData.weight (.int z) = PyData.weight (.int z) := fun _ => rfl
    generalize ha : PyData.weight (.int a) = wa at *
    generalize hb : PyData.weight (.int b) = wb at *
    generalize hx : PyData.weight (.int x) = wx at *
    generalize hy : PyData.weight (.int y) = wy at *
    generalize hp : PyData.weight (.int p) = wp at *
    generalize hq : PyData.weight (.int q) = wq at *
    generalize hu : PyData.weight (.int u) = wu at *
    generalize hv : PyData.weight (.int v) = wv at *
    generalize hr : PyData.weight (.int r) = wr at *
    generalize hs : PyData.weight (.int s) = ws at *
    have w : (PyData.list [.tuple [.int a, .int b], .tuple [.int x, .int y, .int p, .int q], .tuple [.int u, .int v, .int r, .int s]]).weight = PyData.weightAll [.int a, .int b] + 1 + (PyData.weightAll [.int x, .int y, .int p, .int q] + 1 + (PyData.weightAll [.int u, .int v, .int r, .int s] + 1 + 0)) := by rw [PyData.weight, PyData.weightAll, PyData.weightAll, PyData.weightAll, PyData.weightAll, PyData.weight, PyData.weight, PyData.weight]
    rw [w]
    simp only [PyData.weightAll, ha, hb, hx, hy, hp, hq, hu, hv, hr, hs]
    omega
  have h := PyData.shown_le 70 (by decide) _ hl
  have hs' : (PyData.list [.tuple [.int a, .int b], .tuple [.int x, .int y, .int p, .int q], .tuple [.int u, .int v, .int r, .int s]]).shown.length ≤ 1000000 := by omega
  have hd : (PyData.list [.tuple [.int a, .int b], .tuple [.int x, .int y, .int p, .int q], .tuple [.int u, .int v, .int r, .int s]]).depth ≤ 64 := by simp [PyData.depth, PyData.depthAll]
  have hsh : (PyData.list [.tuple [.int a, .int b], .tuple [.int x, .int y, .int p, .int q], .tuple [.int u, .int v, .int r, .int s]]).showable = true := by
    simp only [PyData.showable, PyData.showableAll, decide_eq_true a1, decide_eq_true b1, decide_eq_true x1, decide_eq_true y1, decide_eq_true p1, decide_eq_true q1, decide_eq_true u1, decide_eq_true v1, decide_eq_true r1, decide_eq_true s1, Bool.and_true]
  unfold reprOk
  rw [decide_eq_true hs', decide_eq_true hd, hsh]
  rfl
theorem gcd_dvd_l (t m : Int) : ((Nat.gcd t.natAbs m.natAbs : Nat) : Int) ∣ t := Int.ofNat_dvd_left.mpr (Nat.gcd_dvd_left _ _)
theorem gcd_dvd_r (t m : Int) : ((Nat.gcd t.natAbs m.natAbs : Nat) : Int) ∣ m := Int.ofNat_dvd_left.mpr (Nat.gcd_dvd_right _ _)
theorem fracD_inj {t1 t2 b : Int} (hb : 1 ≤ b) (h : fracD t1 b = fracD t2 b) : t1 = t2 := by
  unfold fracD at h
  simp only [PyData.tuple.injEq, List.cons.injEq, PyData.int.injEq, and_true] at h
  obtain ⟨h1, h2⟩ := h
  have g1 := gcd_pos (t := t1) hb
  have g2 := gcd_pos (t := t2) hb
  have a1 := Int.ediv_mul_cancel (gcd_dvd_l t1 b)
  have a2 := Int.ediv_mul_cancel (gcd_dvd_r t1 b)
  have b1 := Int.ediv_mul_cancel (gcd_dvd_l t2 b)
  have b2 := Int.ediv_mul_cancel (gcd_dvd_r t2 b)
  generalize ((Nat.gcd t1.natAbs b.natAbs : Nat) : Int) = u at *
  generalize ((Nat.gcd t2.natAbs b.natAbs : Nat) : Int) = v at *
  have hd : 0 < b / u := by
    by_cases c : 0 < b / u
    · exact c
    · have : b / u * u ≤ 0 * u := Int.mul_le_mul_of_nonneg_right (by omega) (by omega)
      omega
  have e : u = v := by
    rw [← h2] at b2
    have : b / u * u = b / u * v := by omega
    exact Int.eq_of_mul_eq_mul_left (by omega) this
  rw [← a1, ← b1, h1, e]
theorem low_facts {t m : Int} (hm : 1 ≤ m) : (t / (Nat.gcd t.natAbs m.natAbs : Nat)) * m = t * (m / (Nat.gcd t.natAbs m.natAbs : Nat)) ∧ 1 ≤ m / (Nat.gcd t.natAbs m.natAbs : Nat) ∧ Nat.gcd (t / (Nat.gcd t.natAbs m.natAbs : Nat)).natAbs (m / (Nat.gcd t.natAbs m.natAbs : Nat)).natAbs = 1 := by
  have g0 := gcd_pos (t := t) hm
  have e1 := Int.ediv_mul_cancel (gcd_dvd_l t m)
  have e2 := Int.ediv_mul_cancel (gcd_dvd_r t m)
  refine ⟨?_, div_gcd_pos hm, ?_⟩
  · generalize t / (Nat.gcd t.natAbs m.natAbs : Nat) = T at *
    generalize m / (Nat.gcd t.natAbs m.natAbs : Nat) = B at *
    generalize ((Nat.gcd t.natAbs m.natAbs : Nat) : Int) = g at *
    rw [← e1, ← e2]
    simp only [Int.mul_assoc, Int.mul_comm, Int.mul_left_comm]
  · have n1 : (t / (Nat.gcd t.natAbs m.natAbs : Nat)).natAbs = t.natAbs / Nat.gcd t.natAbs m.natAbs := by
      rw [Int.natAbs_ediv_of_dvd (gcd_dvd_l t m), Int.natAbs_natCast]
    have n2 : (m / (Nat.gcd t.natAbs m.natAbs : Nat)).natAbs = m.natAbs / Nat.gcd t.natAbs m.natAbs := by
      rw [Int.natAbs_ediv_of_dvd (gcd_dvd_r t m), Int.natAbs_natCast]
    rw [n1, n2]
    exact Nat.gcd_div_gcd_div_gcd_of_pos_right (show 0 < m.natAbs by omega)
theorem low_unique {X B r b : Int} (hB : 1 ≤ B) (hb : 1 ≤ b) (hc : Nat.gcd r.natAbs b.natAbs = 1) (e : r * B = X * b) : fracD X B = .tuple [.int r, .int b] := by
  have hd : b.natAbs ∣ B.natAbs := by
    have h1 : b.natAbs ∣ r.natAbs * B.natAbs := by
      rw [← Int.natAbs_mul, e, Int.natAbs_mul]
      exact Nat.dvd_mul_left _ _
    refine Nat.Coprime.dvd_of_dvd_mul_left (k := b.natAbs) (m := r.natAbs) (n := B.natAbs) ?_ h1
    rw [Nat.Coprime, Nat.gcd_comm]
    exact hc
  obtain ⟨c, hcB⟩ := Int.natAbs_dvd_natAbs.mp hd
  have hc0 : 0 < c := by
    by_cases h : 0 < c
    · exact h
    · have : b * c ≤ b * 0 := Int.mul_le_mul_of_nonneg_left (by omega) (by omega)
      omega
  have eX : X = r * c := by
    rw [hcB] at e
    have e2 : (r * c) * b = X * b := by rw [← e]; simp only [Int.mul_assoc, Int.mul_comm, Int.mul_left_comm]
    exact (Int.eq_of_mul_eq_mul_right (by omega) e2).symm
  have hg : Nat.gcd X.natAbs B.natAbs = c.natAbs := by
    rw [eX, hcB, Int.natAbs_mul, Int.natAbs_mul, Nat.gcd_mul_right, hc, Nat.one_mul]
  have ec : ((c.natAbs : Nat) : Int) = c := by omega
  unfold fracD
  rw [hg, ec, eX, hcB, Int.mul_ediv_cancel _ (by omega), Int.mul_ediv_cancel _ (by omega)]
def foldI (s t b : Int) : Int := if t % (2 * s * b) ≤ s * b then t % (2 * s * b) else 2 * s * b - t % (2 * s * b)
theorem pos_of_mul {c x : Int} (hc : 0 < c) (h : 0 < c * x) : 0 < x := by
  by_cases k : 0 < x
  · exact k
  · have : c * x ≤ c * 0 := Int.mul_le_mul_of_nonneg_left (by omega) (by omega)
    omega
theorem nonneg_of_mul {c x : Int} (hc : 0 < c) (h : 0 ≤ c * x) : 0 ≤ x := by
  by_cases k : 0 ≤ x
  · exact k
  · have : c * x ≤ c * (-1) := Int.mul_le_mul_of_nonneg_left (by omega) (by omega)
    omega
theorem fracD_ratio {t1 b1 t2 b2 : Int} (h1 : 1 ≤ b1) (h2 : 1 ≤ b2) (e : t1 * b2 = t2 * b1) : fracD t1 b1 = fracD t2 b2 := by
  obtain ⟨e2, p2, c2⟩ := low_facts (t := t2) h2
  have q : fracD t2 b2 = .tuple [.int (t2 / (Nat.gcd t2.natAbs b2.natAbs : Nat)), .int (b2 / (Nat.gcd t2.natAbs b2.natAbs : Nat))] := rfl
  rw [q]
  refine low_unique h1 p2 c2 ?_
  refine Int.eq_of_mul_eq_mul_right (show b2 ≠ 0 by omega) ?_
  generalize t2 / (Nat.gcd t2.natAbs b2.natAbs : Nat) = r at *
  generalize b2 / (Nat.gcd t2.natAbs b2.natAbs : Nat) = d at *
  grind
def lowP (t b : Int) : Int × Int := (t / (Nat.gcd t.natAbs b.natAbs : Nat), b / (Nat.gcd t.natAbs b.natAbs : Nat))
theorem lowP_of {t b n m : Int} (h : fracD t b = .tuple [.int n, .int m]) : lowP t b = (n, m) := by
  unfold fracD at h
  simp only [PyData.tuple.injEq, List.cons.injEq, PyData.int.injEq, and_true] at h
  unfold lowP
  rw [h.1, h.2]
theorem opEq_tt {a b c e : Int} : opEq (.tuple [.int a, .int b]) (.tuple [.int c, .int e]) = some (.bool (decide (a = c) && decide (b = e))) := by
  unfold opEq SeqAt.shaped
  simp [PyData.canLay0, PyData.canLayAll0, PyData.depth, PyData.depthAll, PyData.eqv, PyData.eqvAll]
  by_cases h : a = c <;> by_cases h2 : b = e <;> simp [h, h2]
theorem opEq_nt {c e : Int} : opEq .none (.tuple [.int c, .int e]) = some (.bool false) := by
  unfold opEq SeqAt.shaped
  simp [PyData.canLay0, PyData.canLayAll0, PyData.depth, PyData.depthAll, PyData.eqv, PyData.eqvAll]
theorem fracD_one (x : Int) : fracD x 1 = .tuple [.int x, .int 1] := by
  unfold fracD
  have : Nat.gcd x.natAbs (1 : Int).natAbs = 1 := Nat.gcd_one_right _
  rw [this]
  simp
theorem opAdd_s {x y : Str} (h : x.length + y.length ≤ 100000) : opAdd (.str x) (.str y) = some (.str (x ++ y)) := if_pos h
theorem lowP_D (t b : Int) : fracD t b = .tuple [.int (lowP t b).1, .int (lowP t b).2] := rfl
theorem sz_lowP {t b : Int} {k l : Nat} (hb : 1 ≤ b) (zt : sz k t) (zb : sz l b) : sz k (lowP t b).1 ∧ sz l (lowP t b).2 := ⟨sz_div zt (gcd_pos hb), sz_div zb (gcd_pos hb)⟩
def absI (i : Int) : Int := if i < 0 then -i else i
theorem absI_pos {p : Int} (h : p ≠ 0) : 1 ≤ absI p := by unfold absI; split <;> omega
theorem sz_absI {k : Nat} {p : Int} (h : sz k p) : sz k (absI p) := by
  unfold absI
  split
  · exact sz_neg h
  · exact h
def passed (a v f st t u : Int) : Int := if a + v * t / u < f then 0 else (a + v * t / u - f) / st + 1
structure Mk where
  s : Int
  a : Int
  v : Int
  f : Int
  st : Int
def Mk.d (m : Mk) : PyData := .tuple [.tuple [.int m.s, .int m.a, .int m.v], .int m.f, .int m.st]
def Mk.pa (m : Mk) (t u : Int) : Int := passed m.a m.v m.f m.st t u
def Mk.ok (m : Mk) : Prop := 1 ≤ m.st ∧ sz 8000 m.v ∧ sz 8000 m.st
theorem lowP_ratio {t1 b1 t2 b2 : Int} (h1 : 1 ≤ b1) (h2 : 1 ≤ b2) (e : t1 * b2 = t2 * b1) : lowP t1 b1 = lowP t2 b2 := by
  have h := fracD_ratio h1 h2 e
  have h' : fracD t1 b1 = .tuple [.int (lowP t2 b2).1, .int (lowP t2 b2).2] := h
  exact (lowP_of h').trans rfl
theorem lowP_facts {t b : Int} (h : 1 ≤ b) : (lowP t b).1 * b = t * (lowP t b).2 ∧ 1 ≤ (lowP t b).2 ∧ Nat.gcd (lowP t b).1.natAbs (lowP t b).2.natAbs = 1 := low_facts h
theorem str_nil (x : Str) : x ++ ("" : Str) = x := by
  obtain ⟨⟨l⟩⟩ := x
  have e : (Str.ofString "").cps = #[] := by decide +kernel
  show Str.mk _ = _
  rw [e]
  simp
/-- sizes of a table or a fraction, of a shot -/
def szH (k : Nat) : PyData → Prop
  | .tuple [.int a, .int b] => sz k a ∧ sz k b
  | .tuple [.int a, .int b, .int c, .int d] => sz k a ∧ sz k b ∧ sz k c ∧ sz k d
  | _ => True
theorem lineV_nonneg (v : Int) : 0 ≤ lineV v := by unfold lineV; split <;> omega
def minI : List Int → Option Int
  | [] => none
  | n :: ns => some (ns.foldl min n)
def kSome : PyData → Option PyData
  | .none => none
  | d => some d
theorem gcd_mod2 (m a : Int) : Nat.gcd m.natAbs (a % m).natAbs = Nat.gcd m.natAbs a.natAbs := by
  have e := Int.emod_add_mul_ediv a m
  refine Nat.dvd_antisymm (Nat.dvd_gcd (Nat.gcd_dvd_left _ _) ?_) (Nat.dvd_gcd (Nat.gcd_dvd_left _ _) ?_)
  · refine Int.ofNat_dvd_left.mp ?_
    have d := Int.dvd_add (gcd_dvd_r m (a % m)) (Int.dvd_trans (gcd_dvd_l m (a % m)) (Int.dvd_mul_right m (a / m)))
    rw [e] at d
    exact d
  · refine Int.ofNat_dvd_left.mp ?_
    rw [show a % m = a - m * (a / m) by omega]
    exact Int.dvd_sub (gcd_dvd_r m a) (Int.dvd_trans (gcd_dvd_l m a) (Int.dvd_mul_right _ _))
def agreeR (e g w : Int) : Int := (if 0 < w then g else -g) % (2 * e)
def oT : Option (Int × Int) → PyData
  | none => .none
  | some t => .tuple [.int t.1, .int t.2]
def szO (k : Nat) (o : Option (Int × Int)) : Prop := ∀ t, o = some t → sz k t.1 ∧ sz k t.2
theorem fold_eq {s T1 T2 m : Int} (hs : 1 ≤ s) (hm : 1 ≤ m) (h : T2 % (2 * s * m) = T1 % (2 * s * m) ∨ T2 % (2 * s * m) = (-T1) % (2 * s * m)) : foldI s T2 m = foldI s T1 m := by
  have M0 : 0 < 2 * s * m := Int.mul_pos (by omega) (by omega)
  have e : 2 * s * m = 2 * (s * m) := Int.mul_assoc _ _ _
  unfold foldI
  rw [e] at M0 h ⊢
  have a0 := Int.emod_nonneg T1 (show 2 * (s * m) ≠ 0 by omega)
  have a1 := Int.emod_lt_of_pos T1 M0
  rcases h with h | h
  · rw [h]
  · by_cases hz : T1 % (2 * (s * m)) = 0
    · have : (-T1) % (2 * (s * m)) = 0 := Int.emod_eq_zero_of_dvd (Int.dvd_neg.mpr (Int.dvd_of_emod_eq_zero hz))
      rw [h, this, hz]
    · have h2 : (-T1) % (2 * (s * m)) = 2 * (s * m) - T1 % (2 * (s * m)) := by
        have e1 := Int.emod_add_mul_ediv T1 (2 * (s * m))
        rw [show -T1 = (2 * (s * m) - T1 % (2 * (s * m))) + (2 * (s * m)) * (-(T1 / (2 * (s * m))) - 1) by
          rw [Int.mul_sub, Int.mul_neg]; omega]
        rw [Int.add_mul_emod_self_left]
        exact Int.emod_eq_of_lt (by omega) (by omega)
      rw [h, h2]
      generalize T1 % (2 * (s * m)) = r at *
      generalize s * m = u at *
      by_cases c : r ≤ u
      · rw [if_pos c]
        by_cases c2 : 2 * u - r ≤ u
        · rw [if_pos c2]; omega
        · rw [if_neg c2]; omega
      · rw [if_neg c, if_pos (by omega)]
/-- what folds alike is alike or against one another -/
theorem fold_inj {s T1 T2 m : Int} (hs : 1 ≤ s) (hm : 1 ≤ m) (h : foldI s T1 m = foldI s T2 m) : (2 * s * m) ∣ (T1 - T2) ∨ (2 * s * m) ∣ (T1 + T2) := by
  have M0 : 0 < 2 * s * m := Int.mul_pos (by omega) (by omega)
  have e : 2 * s * m = 2 * (s * m) := Int.mul_assoc _ _ _
  unfold foldI at h
  rw [e] at M0 h ⊢
  have a1 := Int.emod_lt_of_pos T1 M0
  have b1 := Int.emod_lt_of_pos T2 M0
  have e1 := Int.emod_add_mul_ediv T1 (2 * (s * m))
  have e2 := Int.emod_add_mul_ediv T2 (2 * (s * m))
  have c : T1 % (2 * (s * m)) = T2 % (2 * (s * m)) ∨ T1 % (2 * (s * m)) + T2 % (2 * (s * m)) = 2 * (s * m) := by
    split at h <;> split at h <;> omega
  rcases c with c | c
  · left
    refine ⟨T1 / (2 * (s * m)) - T2 / (2 * (s * m)), ?_⟩
    rw [Int.mul_sub]; omega
  · right
    refine ⟨T1 / (2 * (s * m)) + T2 / (2 * (s * m)) + 1, ?_⟩
    rw [Int.mul_add, Int.mul_add]; omega
end LW
namespace LW
open PySem PySem.Spec PyProof.Rows L2 DL
def m_is_whole (W : WD) : MS :=
  mRet (mrOf (mAnd (mOp1 (bIsi [.kInt]) (mVar 0)) (mNot (mOp1 (bIsi [.kBool]) (mVar 0)))))
def isInt : PyData → Bool
  | .int _ => true
  | _ => false
def D_is_whole : PSpec := fun ds Q _ => ∃ d, ds = [d] ∧ Q (.va (.bool (isInt d)))
theorem len_is_whole : ∀ ds Q E, D_is_whole ds Q E → ds.length = 1 := by
  rintro _ Q E ⟨d, rfl, _⟩
  rfl
theorem rd_is_whole : ∀ ds Q E, D_is_whole ds Q E → m_is_whole (fun c _ => E c) (endP Q) (slots0 1 ds) := by
  rintro _ Q E ⟨d, rfl, q⟩
  unfold m_is_whole
  walk_at "rdm"
  cases d <;> simpa [isK, isInt] using q
section
variable {P : Program} {w : World} {K : PySem.W.Frag} {mg : Str → Option Value} {base : Heap} {CN : String → Option Addr}
theorem ok_is_whole {f : Addr} {fd : FuncData} (F : Fun K "is_whole" "is_whole" s_is_whole f fd) (g : G K mg CN)  : FnG P w K mg base 1 f fd ["value"] (spP K CN D_is_whole) := by
  have sc := sc_is_whole
  exact fun_okP (m := m_is_whole) F sc (by decide) len_is_whole (fun cdv A outer s H E C W hw hr tk =>
    (pds_one (pds_ret (pdr_of (pd_and (pd_isi1 .kInt g.b_isinstance g.b_int (dv 0)) (pd_one (pd_not (pd_isi1 .kBool g.b_isinstance g.b_bool (dv 0))))))))) rd_is_whole
end
def m_are_whole (W : WD) : MS :=
  mRet (mrOf (mAnd (mOp1 (bIsi [.kTup]) (mVar 0)) (mAnd (mOp2 opEq (mCallB bLen (mCons (mVar 0) (mNil))) (mVar 1)) (mCallB bAll (mCons (mLc (miSeq (mVar 0)) (mgName 2) (mTYes) (mCall D_is_whole wF (mCons (mVar 2) (mNil))) [2]) (mNil))))))
def areW (d : PyData) (m : Int) : Bool := match d with
  | .tuple xs => decide ((xs.length : Int) = m) && xs.all isInt
  | _ => false
def D_are_whole : PSpec := fun ds Q _ => ∃ d m, ds = [d, .int m] ∧ m ≤ 100 ∧ Q (.va (.bool (areW d m)))
theorem len_are_whole : ∀ ds Q E, D_are_whole ds Q E → ds.length = 2 := by
  rintro _ Q E ⟨d, m, rfl, _⟩
  rfl
theorem rd_are_whole : ∀ ds Q E, D_are_whole ds Q E → m_are_whole (fun c _ => E c) (endP Q) (slots0 3 ds) := by
  rintro _ Q E ⟨d, m, rfl, hm, q⟩
  unfold m_are_whole
  walk_at "rdm"
  cases d with
  | tuple xs =>
    walk_at "rdm"
    by_cases h : (xs.length : Int) = m
    · rw [if_pos (by simp [h])]
      refine ⟨_, rfl, rfl, ?_⟩
      refine lcL_run (fun s => ∃ x, s = [.va (.tuple xs), .va (.int m), x]) (fun d => some (.bool (isInt d))) xs ?_ _ [] ⟨_, rfl⟩ (by simp; omega) ?_
      · rintro d hd s ⟨x, rfl⟩ Y N hY hN
        simp only [swipe, sset, sget]
        exact ⟨d, rfl, _, rfl, hY _ _ rfl ⟨_, rfl⟩⟩
      · rintro s ⟨x, rfl⟩
        simp only [bAll, List.nil_append]
        rw [fm_some, bools_map]
        refine ⟨_, rfl, ?_⟩
        have e : (xs.map isInt).all id = xs.all isInt := by rw [List.all_map]; rfl
        show Q (S.va (.bool ((xs.map isInt).all id)))
        rw [e]
        simpa [areW, h] using q
    · rw [if_neg (by simp [h])]
      simpa [areW, h] using q
  | _ => simpa [areW, isK] using q
theorem isInt_inv {d : PyData} (h : isInt d = true) : ∃ a, d = .int a := by
  cases d <;> first | exact ⟨_, rfl⟩ | cases h
theorem areW2 {d : PyData} (h : areW d 2 = true) : ∃ a b, d = .tuple [.int a, .int b] := by
  cases d with
  | tuple xs =>
    simp only [areW, Bool.and_eq_true, decide_eq_true_eq] at h
    obtain ⟨h1, h2⟩ := h
    match xs, h1, h2 with
    | [x, y], h1, h2 =>
      simp only [List.all_cons, List.all_nil, Bool.and_true, Bool.and_eq_true] at h2
      obtain ⟨a, rfl⟩ := isInt_inv h2.1
      obtain ⟨b, rfl⟩ := isInt_inv h2.2
      exact ⟨_, _, rfl⟩
    | [], h, _ => simp at h
    | [x], h, _ => simp at h
    | x :: y :: z :: r, h, _ => simp at h; omega
  | _ => simp [areW] at h
theorem areW4 {d : PyData} (h : areW d 4 = true) : ∃ a b c e, d = .tuple [.int a, .int b, .int c, .int e] := by
  cases d with
  | tuple xs =>
    simp only [areW, Bool.and_eq_true, decide_eq_true_eq] at h
    obtain ⟨h1, h2⟩ := h
    match xs, h1, h2 with
    | [x, y, z, w], h1, h2 =>
      simp only [List.all_cons, List.all_nil, Bool.and_true, Bool.and_eq_true] at h2
      obtain ⟨a, rfl⟩ := isInt_inv h2.1
      obtain ⟨b, rfl⟩ := isInt_inv h2.2.1
      obtain ⟨c, rfl⟩ := isInt_inv h2.2.2.1
      obtain ⟨e, rfl⟩ := isInt_inv h2.2.2.2
      exact ⟨_, _, _, _, rfl⟩
    | [], h, _ => simp at h
    | [x], h, _ => simp at h
    | [x, y], h, _ => simp at h
    | [x, y, z], h, _ => simp at h
    | x :: y :: z :: u :: v :: r, h, _ => simp at h; omega
  | _ => simp [areW] at h
section
variable {P : Program} {w : World} {K : PySem.W.Frag} {mg : Str → Option Value} {base : Heap} {CN : String → Option Addr}
theorem ok_are_whole {f : Addr} {fd : FuncData} (F : Fun K "are_whole" "are_whole" s_are_whole f fd) (g : G K mg CN) (c_is_whole : CalP P w K mg base CN 1 "is_whole" D_is_whole) : FnG P w K mg base 2 f fd ["value", "many"] (spP K CN D_are_whole) := by
  have sc := sc_are_whole
  exact fun_okP (m := m_are_whole) F sc (by decide) len_are_whole (fun cdv A outer s H E C W hw hr tk =>
    (pds_one (pds_ret (pdr_of (pd_and (pd_isi1 .kTup g.b_isinstance g.b_tuple (dv 0)) (pd_and (pd_cmp (or_eqD (RoomG.u64 hr)) rl_eq (pd_callB cr_len rc_len g.b_len (by decide +kernel) (pda_cons (dv 0) pda_nil)) (dv 1) (nomark _)) (pd_one (pd_callB (cr_all rfl) rc_all g.b_all (by decide +kernel) (pda_cons (pd_lc (pe_lc (own := [("item", 2)]) rfl sc.nd (pdi_seq (dv 0)) (blkOk_by (N := ["value", "many", "item"]) (sc := (defScope s_are_whole)) (by decide +kernel)) (fun _ _ _ _ _ => (dgv 2 (vs := [2]) sc.nd)) (fun _ _ _ _ _ => pdts_nil) (fun _ _ _ _ _ => (pd_call c_is_whole hr (by decide) takesF (pda_cons (dv 2) pda_nil))))) pda_nil))))))))) rd_are_whole
end
def m_fraction_of (W : WD) : MS :=
  mSeq (mAsg (mCallB bGcd (mCons (mVar 0) (mCons (mVar 1) (mNil)))) (mgName 2))
  (mRet (mrOf (mTup (mCons (mOp2 opFdiv (mVar 0) (mVar 2)) (mCons (mOp2 opFdiv (mVar 1) (mVar 2)) (mNil))))))
def D_fraction_of : PSpec := fun ds Q _ => ∃ t b, ds = [.int t, .int b] ∧ 1 ≤ b ∧ sz 8000 b ∧ Q (.va (fracD t b))
theorem len_fraction_of : ∀ ds Q E, D_fraction_of ds Q E → ds.length = 2 := by
  rintro _ Q E ⟨t, b, rfl, _⟩
  rfl
theorem rd_fraction_of : ∀ ds Q E, D_fraction_of ds Q E → m_fraction_of (fun c _ => E c) (endP Q) (slots0 3 ds) := by
  rintro _ Q E ⟨t, b, rfl, hb, hs, q⟩
  unfold m_fraction_of
  walk_at "rdm"
  have g := sz_gcd (t := t) hb hs
  have g0 := gcd_pos (t := t) hb
  exact ⟨_, by rw [← opFdiv_i]; exact opFdiv_ok g0 g (by decide), _, by rw [← opFdiv_i]; exact opFdiv_ok g0 g (by decide), q⟩
section
variable {P : Program} {w : World} {K : PySem.W.Frag} {mg : Str → Option Value} {base : Heap} {CN : String → Option Addr}
theorem ok_fraction_of {f : Addr} {fd : FuncData} (F : Fun K "fraction_of" "fraction_of" s_fraction_of f fd) (g : G K mg CN)  : FnG P w K mg base 1 f fd ["top", "bottom"] (spP K CN D_fraction_of) := by
  have sc := sc_fraction_of
  exact fun_okP (m := m_fraction_of) F sc (by decide) len_fraction_of (fun cdv A outer s H E C W hw hr tk =>
    (pds_cons (pds_asg (ps_asg (pd_gcd g.b_gcd (pda_cons (dv 0) (pda_cons (dv 1) pda_nil))) (dg 2 sc.nd)))
    (pds_one (pds_ret (pdr_of (pd_tup (pda_cons (pd_op op_fdivW rl_fdiv (dv 0) (dv 2)) (pda_cons (pd_op op_fdivW rl_fdiv (dv 1) (dv 2)) pda_nil)))))))) rd_fraction_of
end
def m__line_of (W : WD) : MS :=
  mSeq (mIf (mT (mOp2 opLt (mVar 2) (mC (.int 0)))) (mRet (mrOf (mTup (mCons (mVar 0) (mCons (mOp1 opNeg (mVar 1)) (mCons (mOp1 opNeg (mVar 2)) (mNil))))))) (mNext))
  (mRet (mrOf (mTup (mCons (mVar 0) (mCons (mVar 1) (mCons (mVar 2) (mNil)))))))
def lineD (s a v : Int) : PyData := if v < 0 then .tuple [.int s, .int (-a), .int (-v)] else .tuple [.int s, .int a, .int v]
def D__line_of : PSpec := fun ds Q _ => ∃ s a v, ds = [.int s, .int a, .int v] ∧ Q (.va (lineD s a v))
theorem len__line_of : ∀ ds Q E, D__line_of ds Q E → ds.length = 3 := by
  rintro _ Q E ⟨s, a, v, rfl, _⟩
  rfl
theorem rd__line_of : ∀ ds Q E, D__line_of ds Q E → m__line_of (fun c _ => E c) (endP Q) (slots0 3 ds) := by
  rintro _ Q E ⟨s, a, v, rfl, q⟩
  unfold m__line_of
  walk_at "rdm"
  by_cases h : v < 0
  · rw [if_pos (decide_eq_true h)]
    rw [lineD, if_pos h] at q
    exact q
  · rw [if_neg (by simpa using h)]
    rw [lineD, if_neg h] at q
    exact q
theorem lineD_eq (s a v : Int) : lineD s a v = .tuple [.int s, .int (lineA v a), .int (lineV v)] := by
  unfold lineD lineA lineV
  by_cases h : v < 0
  · rw [if_pos h, if_pos h, if_pos h]
  · rw [if_neg h, if_neg h, if_neg h]
theorem sz_lineA {k : Nat} {v a : Int} (h : sz k a) : sz k (lineA v a) := by
  unfold lineA
  split
  · exact sz_neg h
  · exact h
theorem sz_lineV {k : Nat} {v : Int} (h : sz k v) : sz k (lineV v) := by
  unfold lineV
  split
  · exact sz_neg h
  · exact h
section
variable {P : Program} {w : World} {K : PySem.W.Frag} {mg : Str → Option Value} {base : Heap} {CN : String → Option Addr}
theorem ok__line_of {f : Addr} {fd : FuncData} (F : Fun K "_line_of" "_line_of" s__line_of f fd) (g : G K mg CN)  : FnG P w K mg base 1 f fd ["side", "start", "speed"] (spP K CN D__line_of) := by
  have sc := sc__line_of
  exact fun_okP (m := m__line_of) F sc (by decide) len__line_of (fun cdv A outer s H E C W hw hr tk =>
    (pds_cons (pds_if (pdt_cmp op_lt rl_cmpI (dv 2) pd_int (nomark _)) (pds_one (pds_ret (pdr_of (pd_tup (pda_cons (dv 0) (pda_cons (pd_un un_neg rl_neg (dv 1)) (pda_cons (pd_un un_neg rl_neg (dv 2)) pda_nil))))))) pds_nil)
    (pds_one (pds_ret (pdr_of (pd_tup (pda_cons (dv 0) (pda_cons (dv 1) (pda_cons (dv 2) pda_nil))))))))) rd__line_of
end
def m_lines_of (W : WD) : MS :=
  mSeq (mAsg (mVar 0) (mgTup 2 (mgCons (mgName 2) (mgCons (mgName 3) (mgNil)))))
  (mSeq (mAsg (mVar 1) (mgTup 4 (mgCons (mgName 4) (mgCons (mgName 5) (mgCons (mgName 6) (mgCons (mgName 7) (mgNil)))))))
  (mRet (mrOf (mTup (mCons (mCall D__line_of W (mCons (mVar 2) (mCons (mVar 4) (mCons (mVar 6) (mNil))))) (mCons (mCall D__line_of W (mCons (mVar 3) (mCons (mVar 5) (mCons (mVar 7) (mNil))))) (mNil)))))))
def D_lines_of : PSpec := fun ds Q _ => ∃ a b x y p q, ds = [.tuple [.int a, .int b], .tuple [.int x, .int y, .int p, .int q]] ∧ Q (.va (.tuple [lineD a x p, lineD b y q]))
theorem len_lines_of : ∀ ds Q E, D_lines_of ds Q E → ds.length = 2 := by
  rintro _ Q E ⟨a, b, x, y, p, q, rfl, _⟩
  rfl
theorem rd_lines_of : ∀ ds Q E, D_lines_of ds Q E → m_lines_of (fun c _ => E c) (endP Q) (slots0 8 ds) := by
  rintro _ Q E ⟨a, b, x, y, p, q, rfl, hq⟩
  unfold m_lines_of
  walk_at "rdm"
  exact ⟨_, rfl, rfl, _, _, rfl, _, _, rfl, rfl, _, rfl, rfl, _, _, rfl, _, _, rfl, _, _, rfl, _, _, rfl, rfl, _, _, _, rfl, _, rfl, _, _, _, rfl, _, rfl, hq⟩
section
variable {P : Program} {w : World} {K : PySem.W.Frag} {mg : Str → Option Value} {base : Heap} {CN : String → Option Addr}
theorem ok_lines_of {f : Addr} {fd : FuncData} (F : Fun K "lines_of" "lines_of" s_lines_of f fd) (g : G K mg CN) (c__line_of : CalP P w K mg base CN 1 "_line_of" D__line_of) : FnG P w K mg base 2 f fd ["table", "shot"] (spP K CN D_lines_of) := by
  have sc := sc_lines_of
  exact fun_okP (m := m_lines_of) F sc (by decide) len_lines_of (fun cdv A outer s H E C W hw hr tk =>
    (pds_cons (pds_asg (ps_asg (dv 0) (pdg_tup rfl (gcons (dg 2 sc.nd) (gcons (dg 3 sc.nd) pdgs_nil)))))
    (pds_cons (pds_asg (ps_asg (dv 1) (pdg_tup rfl (gcons (dg 4 sc.nd) (gcons (dg 5 sc.nd) (gcons (dg 6 sc.nd) (gcons (dg 7 sc.nd) pdgs_nil)))))))
    (pds_one (pds_ret (pdr_of (pd_tup (pda_cons (pd_call c__line_of hr (by decide) tk (pda_cons (dv 2) (pda_cons (dv 4) (pda_cons (dv 6) pda_nil)))) (pda_cons (pd_call c__line_of hr (by decide) tk (pda_cons (dv 3) (pda_cons (dv 5) (pda_cons (dv 7) pda_nil)))) pda_nil))))))))) rd_lines_of
end
def m__first_out (W : WD) : MS :=
  mSeq (mAsg (mVar 0) (mgTup 3 (mgCons (mgName 2) (mgCons (mgName 3) (mgCons (mgName 4) (mgNil))))))
  (mSeq (mAsg (mVar 1) (mgTup 2 (mgCons (mgName 5) (mgCons (mgName 6) (mgNil)))))
  (mSeq (mAsgR 7 (mrLst (mNil)))
  (mSeq (mIf (mT (mOp2 opLt (mVar 2) (mC (.int 0)))) (mApp 7 (mOp1 opNeg (mOp2 opFdiv (mOp1 opNeg (mOp2 opAdd (mVar 3) (mVar 4))) (mOp1 opNeg (mVar 2))))) (mNext))
  (mSeq (mIf (mT (mOp2 opGt (mVar 5) (mC (.int 0)))) (mApp 7 (mOp1 opNeg (mOp2 opFdiv (mVar 6) (mVar 5)))) (mNext))
  (mRet (mrOf (mCallBK bMinD (mCons (mVar 7) (mNil)) (mCons (mC .none) mNil))))))))
def optD : Option Int → PyData
  | none => .none
  | some k => .int k
theorem bMinD_2 {a m : Int} : bMinD [.list [.int a, .int m]] [.none] = some (.int (if m < a then m else a)) := by
  show some (PyData.int (min a m)) = _
  congr 2
  split <;> omega
def D__first_out : PSpec := fun ds Q _ => ∃ g b c G B, ds = [.tuple [.int g, .int b, .int c], .tuple [.int G, .int B]] ∧ sz 8500 g ∧ sz 8500 G ∧ Q (.va (optD (minO (outs g b c G B))))
theorem len__first_out : ∀ ds Q E, D__first_out ds Q E → ds.length = 2 := by
  rintro _ Q E ⟨g, b, c, G, B, rfl, _⟩
  rfl
theorem rd__first_out : ∀ ds Q E, D__first_out ds Q E → m__first_out (fun c _ => E c) (endP Q) (slots0 8 ds) := by
  rintro _ Q E ⟨g, b, c, G, B, rfl, zg, zG, q⟩
  unfold m__first_out
  unfold outs at q
  by_cases hg : g < 0
  · have f1 : opFdiv (.int (-(b + c))) (.int (-g)) = some (.int (-(b + c) / -g)) := opFdiv_ok (by omega) (sz_neg zg) (by decide)
    by_cases hG : G > 0
    · have f2 : opFdiv (.int B) (.int G) = some (.int (B / G)) := opFdiv_ok (by omega) zG (by decide)
      rw [if_pos hg, if_pos hG] at q
      try walk_at "rdn"
      rw [if_pos (decide_eq_true hg)]
      refine ⟨_, f1, _, rfl, by decide, ?_⟩
      try walk_at "rdn"
      rw [if_pos (decide_eq_true hG)]
      refine ⟨_, f2, _, rfl, by decide, ?_⟩
      simp only [mCallBK]
      exact ⟨_, bMinD_2, q⟩
    · rw [if_pos hg, if_neg hG] at q
      try walk_at "rdn"
      rw [if_pos (decide_eq_true hg)]
      refine ⟨_, f1, _, rfl, by decide, ?_⟩
      try walk_at "rdn"
      rw [if_neg (by simpa using hG)]
      simp only [mCallBK]
      try walk_at "rdn"
      exact ⟨_, rfl, q⟩
  · by_cases hG : G > 0
    · have f2 : opFdiv (.int B) (.int G) = some (.int (B / G)) := opFdiv_ok (by omega) zG (by decide)
      rw [if_neg hg, if_pos hG] at q
      try walk_at "rdn"
      rw [if_neg (by simpa using hg), if_pos (decide_eq_true hG)]
      refine ⟨_, f2, _, rfl, by decide, ?_⟩
      simp only [mCallBK]
      try walk_at "rdn"
      exact ⟨_, rfl, q⟩
    · rw [if_neg hg, if_neg hG] at q
      try walk_at "rdn"
      rw [if_neg (by simpa using hg), if_neg (by simpa using hG)]
      simp only [mCallBK]
      try walk_at "rdn"
      exact ⟨_, rfl, q⟩
section
variable {P : Program} {w : World} {K : PySem.W.Frag} {mg : Str → Option Value} {base : Heap} {CN : String → Option Addr}
theorem ok__first_out {f : Addr} {fd : FuncData} (F : Fun K "_first_out" "_first_out" s__first_out f fd) (g : G K mg CN)  : FnG P w K mg base 1 f fd ["lower", "upper"] (spP K CN D__first_out) := by
  have sc := sc__first_out
  exact fun_okP (m := m__first_out) F sc (by decide) len__first_out (fun cdv A outer s H E C W hw hr tk =>
    (pds_cons (pds_asg (ps_asg (dv 0) (pdg_tup rfl (gcons (dg 2 sc.nd) (gcons (dg 3 sc.nd) (gcons (dg 4 sc.nd) pdgs_nil))))))
    (pds_cons (pds_asg (ps_asg (dv 1) (pdg_tup rfl (gcons (dg 5 sc.nd) (gcons (dg 6 sc.nd) pdgs_nil)))))
    (pds_cons (pds_asgR (ps_set (i := 7) sc.nd rfl (.inl rfl) (pdr_lst pda_nil)))
    (pds_cons (pds_if (pdt_cmp op_lt rl_cmpI (dv 2) pd_int (nomark _)) (pds_one (pds_app (ps_expr (pe_bm PySem.F.plainAttrs_list PySem.F.slot_list_append PySem.F.type_list_append mt_append (pv 7) (pa_cons (pd_un un_neg rl_neg (pd_op op_fdivW rl_fdiv (pd_un un_neg rl_neg (pd_op or_add rl_add (dv 3) (dv 4))) (pd_un un_neg rl_neg (dv 2)))) pa_nil))))) pds_nil)
    (pds_cons (pds_if (pdt_cmp op_gt rl_cmpI (dv 5) pd_int (nomark _)) (pds_one (pds_app (ps_expr (pe_bm PySem.F.plainAttrs_list PySem.F.slot_list_append PySem.F.type_list_append mt_append (pv 7) (pa_cons (pd_un un_neg rl_neg (pd_op op_fdivW rl_fdiv (dv 6) (dv 5))) pa_nil))))) pds_nil)
    (pds_one (pds_ret (pdr_of (pd_minD rfl hr.r.units g.b_min (pda_cons (dv 7) pda_nil) (pdk_cons pd_non pdk_nil))))))))))) rd__first_out
end
def m_first_between (W : WD) : MS :=
  mSeq (mAsgR 2 (mrLst (mNil)))
  (mSeq (mWhile (mT (mC (.bool true))) (mSeq (mAsg (mVar 0) (mgTup 3 (mgCons (mgName 3) (mgCons (mgName 4) (mgCons (mgName 5) (mgNil))))))
  (mSeq (mAsg (mVar 1) (mgTup 3 (mgCons (mgName 6) (mgCons (mgName 7) (mgCons (mgName 8) (mgNil))))))
  (mSeq (mIf (mT (mOp2 opGt (mOp2 opMul (mVar 4) (mVar 8)) (mOp2 opMul (mVar 7) (mVar 5)))) (mRet (mrOf (mC .none))) (mNext))
  (mSeq (mAsg (mOp1 opNeg (mOp2 opFdiv (mOp1 opNeg (mVar 4)) (mVar 5))) (mgName 9))
  (mSeq (mIf (mT (mOp2 opLe (mOp2 opMul (mVar 9) (mVar 8)) (mVar 7))) (mSeq (mAsg (mC (.int 0)) (mgName 10))
  (mBreak)) (mNext))
  (mSeq (mAsgM [4, 7] [mrOf (mOp2 opSub (mVar 4) (mOp2 opMul (mVar 9) (mVar 5))), mrOf (mOp2 opSub (mVar 7) (mOp2 opMul (mVar 9) (mVar 8)))])
  (mSeq (mAsg (mOp1 opNeg (mOp2 opFdiv (mOp1 opNeg (mVar 3)) (mVar 5))) (mgName 11))
  (mSeq (mIf (mT (mOp2 opLe (mOp2 opMul (mVar 11) (mVar 8)) (mVar 6))) (mSeq (mAsg (mCall D__first_out W (mCons (mTup (mCons (mOp2 opSub (mVar 3) (mOp2 opMul (mVar 11) (mVar 5))) (mCons (mVar 4) (mCons (mVar 5) (mNil))))) (mCons (mTup (mCons (mOp2 opSub (mVar 6) (mOp2 opMul (mVar 11) (mVar 8))) (mCons (mVar 7) (mNil)))) (mNil)))) (mgName 10))
  (mBreak)) (mNext))
  (mSeq (mAsgM [3, 6] [mrOf (mOp2 opMod (mVar 3) (mVar 5)), mrOf (mOp2 opSub (mVar 6) (mOp2 opMul (mOp2 opFdiv (mVar 3) (mVar 5)) (mVar 8)))])
  (mSeq (mIf (mT (mOp2 opLe (mVar 6) (mC (.int 0)))) (mRet (mrOf (mC .none))) (mNext))
  (mSeq (mAsgM [0, 1] [mrOf (mTup (mCons (mVar 8) (mCons (mOp1 opNeg (mVar 7)) (mCons (mVar 6) (mNil))))), mrOf (mTup (mCons (mVar 5) (mCons (mOp1 opNeg (mVar 4)) (mCons (mVar 3) (mNil)))))])
  (mApp 2 (mVar 0))))))))))))))
  (mSeq (mIf (mT (mOp2 opIsN2 (mVar 10) (mC .none))) (mRet (mrOf (mC .none))) (mNext))
  (mSeq (mFor (miRev (mVar 2)) (mgTup 3 (mgCons (mgName 3) (mgCons (mgName 4) (mgCons (mgName 5) (mgNil))))) (mAsg (mOp1 opNeg (mOp2 opFdiv (mOp1 opNeg (mOp2 opAdd (mOp2 opMul (mVar 3) (mVar 10)) (mVar 4))) (mVar 5))) (mgName 10)))
  (mRet (mrOf (mVar 10))))))
def szT (p : Two) : Prop := sz 4000 p.g ∧ sz 4000 p.b ∧ sz 4000 p.c ∧ sz 4000 p.G ∧ sz 4000 p.B ∧ sz 4000 p.C
def lowD (p : Two) : PyData := .tuple [.int p.g, .int p.b, .int p.c]
def upD (p : Two) : PyData := .tuple [.int p.G, .int p.B, .int p.C]
inductive ChainZ (p0 : Two) : List Two → Two → Prop
  | nil : ChainZ p0 [] p0
  | cons {ps p} : ChainZ p0 ps p → (∀ o, p.turn.Ans o → p.Ans (o.map p.back)) → szT p.turn → 1 ≤ p.turn.c → p.I → szT p → ChainZ p0 (p :: ps) p.turn
structure AtB (p0 : Two) (ps : List Two) (p : Two) : Prop where
  ch : ChainZ p0 ps p
  I : p.I
  z : szT p
  len : ps = [] ∨ (0 < p.c ∧ p.c < p.g ∧ 0 < p.C ∧ 2 ^ ps.length * (p.C * p.g).natAbs ≤ 2 ^ 20000)
theorem chain_none {p0 : Two} {ps : List Two} {p : Two} (h : ChainZ p0 ps p) : p.Ans none → p0.Ans none := by
  induction h with
  | nil => exact id
  | cons _ t _ _ _ _ ih => exact fun a => ih (t none a)
theorem AtB.short {p0 p : Two} {ps : List Two} (A : AtB p0 ps p) : ps.length < 100000 := by
  rcases A.len with e | ⟨c0, cg, C0, h⟩
  · rw [e]; decide
  · have pos : 0 < p.C * p.g := Int.mul_pos C0 (by omega)
    have h1 : 2 ^ ps.length ≤ 2 ^ 20000 := Nat.le_trans (Nat.le_mul_of_pos_right _ (by omega)) h
    have := (Nat.pow_le_pow_iff_right (by decide : 1 < 2)).mp h1
    omega
theorem sz_of_le {k : Nat} {a b : Int} (h : sz k b) (h1 : a.natAbs ≤ b.natAbs) : sz k a := Nat.lt_of_le_of_lt h1 h
theorem AtB.next {p0 p : Two} {ps : List Two} (A : AtB p0 ps p) (h0 : p.b * p.C ≤ p.B * p.c) (h : ¬ p.C * p.l ≤ p.B) (hr : ¬ p.C * -(-p.g / p.c) ≤ p.G) : AtB p0 (p :: ps) p.turn ∧ p.turn.c < p.C ∧ p.turn.C < p.c := by
  obtain ⟨I', c0, cC, C0, Cc, ⟨b0, bC⟩, ⟨B0, Bc⟩, back⟩ := p.turns A.I h0 h hr
  obtain ⟨z1, z2, z3, z4, z5, z6⟩ := A.z
  have z' : szT p.turn := ⟨z6, sz_of_le z6 (by omega), sz_of_le z6 (by omega), z3, sz_of_le z3 (by omega), sz_of_le z3 (by omega)⟩
  refine ⟨⟨.cons A.ch back z' (by omega) A.I A.z, I', z', .inr ⟨c0, cC, C0, ?_⟩⟩, cC, Cc⟩
  have tg : p.turn.g = p.C := rfl
  have tC : p.turn.C = p.g % p.c := rfl
  rw [tg, List.length_cons, Nat.pow_succ]
  have C1 := A.I.C1
  rcases A.len with e | ⟨c0', cg, C0', hl⟩
  · rw [e, List.length_nil, Nat.pow_zero, Nat.one_mul, Int.natAbs_mul]
    have a1 : p.turn.C.natAbs < 2 ^ 4000 := z'.2.2.2.2.2
    have a2 : p.C.natAbs < 2 ^ 4000 := z6
    have m := Nat.mul_le_mul (Nat.le_of_lt a1) (Nat.le_of_lt a2)
    rw [← Nat.pow_add] at m
    have m2 := Nat.mul_le_mul_left 2 m
    rw [← Nat.pow_succ'] at m2
    exact Nat.le_trans m2 (Nat.pow_le_pow_right (by decide) (by decide))
  · refine Nat.le_trans ?_ hl
    rw [Nat.mul_assoc]
    refine Nat.mul_le_mul_left _ ?_
    have e := Int.emod_add_mul_ediv p.g p.c
    have e1 := Int.emod_nonneg p.g (show p.c ≠ 0 by omega)
    have e2 := Int.emod_lt_of_pos p.g c0'
    have q1 : 1 ≤ p.g / p.c := by
      refine Classical.byContradiction fun z => ?_
      have := Int.mul_le_mul_of_nonneg_left (show p.g / p.c ≤ 0 by omega) (show 0 ≤ p.c by omega)
      omega
    have q2 := Int.mul_le_mul_of_nonneg_left q1 (show 0 ≤ p.c by omega)
    have half : 2 * p.turn.C ≤ p.g := by rw [tC]; omega
    have m := Int.mul_le_mul_of_nonneg_right half (show 0 ≤ p.C by omega)
    have n1 := Int.mul_nonneg (show 0 ≤ p.turn.C by omega) (show 0 ≤ p.C by omega)
    have n2 := Int.mul_nonneg (show 0 ≤ p.C by omega) (show 0 ≤ p.g by omega)
    rw [Int.mul_assoc, Int.mul_comm p.g] at m
    omega
def ent (p : Two) : PyData := .tuple [.int p.turn.g, .int p.turn.b, .int p.turn.c]
def D_first_between : PSpec := fun ds Q _ => ∃ p : Two, ds = [lowD p, upD p] ∧ p.I ∧ szT p ∧ ∀ o, p.Ans o → Q (.va (optD o))
theorem len_first_between : ∀ ds Q E, D_first_between ds Q E → ds.length = 2 := by
  rintro _ Q E ⟨p, rfl, _⟩
  rfl
theorem rd_first_between : ∀ ds Q E, D_first_between ds Q E → m_first_between (fun c _ => E c) (endP Q) (slots0 12 ds) := by
  rintro _ Q E ⟨p0, rfl, I0, z0, q⟩
  unfold m_first_between
  refine seq_run (fun s => s = [.va (lowD p0), .va (upD p0), .own [], .no, .no, .no, .no, .no, .no, .no, .no, .no]) (fun N1 h1 => ?_) ?_
  · walk_at "rdn"
    exact h1 _ rfl
  rintro _ rfl
  refine seq_run (fun s => ∃ ps p o x0 x1 x3 x4 x5 x6 x7 x8 x9 x11, s = [x0, x1, .own (ps.reverse.map ent), x3, x4, x5, x6, x7, x8, x9, .va (optD o), x11] ∧ AtB p0 ps p ∧ p.Ans o) (fun N1 h1 => ?_) ?_
  · refine whileM (fun n s => ∃ ps p x3 x4 x5 x6 x7 x8 x9 x10 x11, s = [.va (lowD p), .va (upD p), .own (ps.reverse.map ent), x3, x4, x5, x6, x7, x8, x9, x10, x11] ∧ AtB p0 ps p ∧ n = (p.c + p.C).toNat) ⟨[], p0, _, _, _, _, _, _, _, _, _, rfl, ⟨.nil, I0, z0, .inl rfl⟩, rfl⟩ ?_
    rintro n s N ⟨ps, p, x3, x4, x5, x6, x7, x8, x9, x10, x11, rfl, A, rfl⟩ hN
    obtain ⟨zg, zb, zc, zG, zB, zC⟩ := A.z
    have c1 := A.I.c1
    have C1 := A.I.C1
    refine ⟨true, rfl, ?_⟩
    simp only [↓reduceIte]
    refine seq_run (fun s => s = [.va (lowD p), .va (upD p), .own (ps.reverse.map ent), .va (.int p.g), .va (.int p.b), .va (.int p.c), x6, x7, x8, x9, x10, x11]) (fun N2 h2 => ?_) ?_
    · unfold lowD
      walk_at "rdn"
      exact h2 _ rfl
    rintro _ rfl
    refine seq_run (fun s => s = [.va (lowD p), .va (upD p), .own (ps.reverse.map ent), .va (.int p.g), .va (.int p.b), .va (.int p.c), .va (.int p.G), .va (.int p.B), .va (.int p.C), x9, x10, x11]) (fun N2 h2 => ?_) ?_
    · unfold upD
      walk_at "rdn"
      exact h2 _ rfl
    rintro _ rfl
    refine seq_run (fun s => p.b * p.C ≤ p.B * p.c ∧ s = [.va (lowD p), .va (upD p), .own (ps.reverse.map ent), .va (.int p.g), .va (.int p.b), .va (.int p.c), .va (.int p.G), .va (.int p.B), .va (.int p.C), x9, x10, x11]) (fun N2 h2 => ?_) ?_
    · by_cases h0 : p.b * p.C ≤ p.B * p.c
      · refine if_run false (fun Q h => ?_) (fun hc => by cases hc) (fun _ => h2 _ ⟨h0, rfl⟩)
        walk_at "rdn"
        refine ⟨_, opMul_ok zb zC (by decide), _, opMul_ok zB zc (by decide), _, rfl, _, rfl, ?_⟩
        show Q (decide (p.B * p.c < p.b * p.C)) _
        rw [decide_eq_false (by omega)]
        exact h
      · refine if_run true (fun Q h => ?_) (fun _ => ?_) (fun hc => by cases hc)
        · walk_at "rdn"
          refine ⟨_, opMul_ok zb zC (by decide), _, opMul_ok zB zc (by decide), _, rfl, _, rfl, ?_⟩
          show Q (decide (p.B * p.c < p.b * p.C)) _
          rw [decide_eq_true (by omega)]
          exact h
        · walk_at "rdn"
          exact q none (chain_none A.ch (p.none A.I h0))
    rintro _ ⟨h0, rfl⟩
    refine seq_run (fun s => s = [.va (lowD p), .va (upD p), .own (ps.reverse.map ent), .va (.int p.g), .va (.int p.b), .va (.int p.c), .va (.int p.G), .va (.int p.B), .va (.int p.C), .va (.int p.l), x10, x11]) (fun N2 h2 => ?_) ?_
    · walk_at "rdn"
      exact ⟨_, opFdiv_ok (by omega) zc (by decide), _, rfl, h2 _ rfl⟩
    rintro _ rfl
    have zl : sz 4000 p.l := sz_neg (sz_div (sz_neg zb) c1)
    refine seq_run (fun s => ¬ p.C * p.l ≤ p.B ∧ s = [.va (lowD p), .va (upD p), .own (ps.reverse.map ent), .va (.int p.g), .va (.int p.b), .va (.int p.c), .va (.int p.G), .va (.int p.B), .va (.int p.C), .va (.int p.l), x10, x11]) (fun N2 h2 => ?_) ?_
    · have e : p.l * p.C = p.C * p.l := Int.mul_comm _ _
      by_cases h : p.C * p.l ≤ p.B
      · refine if_run true (fun Q h' => ?_) (fun _ => ?_) (fun hc => by cases hc)
        · walk_at "rdn"
          refine ⟨_, opMul_ok zl zC (by decide), _, rfl, _, rfl, ?_⟩
          show Q (decide (p.l * p.C ≤ p.B)) _
          rw [decide_eq_true (by omega)]
          exact h'
        · walk_at "rdn"
          exact h1 _ ⟨ps, p, some 0, _, _, _, _, _, _, _, _, _, _, rfl, A, p.zero A.I h⟩
      · refine if_run false (fun Q h' => ?_) (fun hc => by cases hc) (fun _ => h2 _ ⟨h, rfl⟩)
        walk_at "rdn"
        refine ⟨_, opMul_ok zl zC (by decide), _, rfl, _, rfl, ?_⟩
        show Q (decide (p.l * p.C ≤ p.B)) _
        rw [decide_eq_false (by omega)]
        exact h'
    rintro _ ⟨h, rfl⟩
    refine seq_run (fun s => s = [.va (lowD p), .va (upD p), .own (ps.reverse.map ent), .va (.int p.g), .va (.int (p.b - p.l * p.c)), .va (.int p.c), .va (.int p.G), .va (.int (p.B - p.l * p.C)), .va (.int p.C), .va (.int p.l), x10, x11]) (fun N2 h2 => ?_) ?_
    · walk_at "rdn"
      exact ⟨_, opMul_ok zl zc (by decide), _, rfl, _, opMul_ok zl zC (by decide), _, rfl, h2 _ rfl⟩
    rintro _ rfl
    generalize hrr : -(-p.g / p.c) = r
    have zr : sz 4000 r := by rw [← hrr]; exact sz_neg (sz_div (sz_neg zg) c1)
    refine seq_run (fun s => s = [.va (lowD p), .va (upD p), .own (ps.reverse.map ent), .va (.int p.g), .va (.int (p.b - p.l * p.c)), .va (.int p.c), .va (.int p.G), .va (.int (p.B - p.l * p.C)), .va (.int p.C), .va (.int p.l), x10, .va (.int r)]) (fun N2 h2 => ?_) ?_
    · walk_at "rdn"
      refine ⟨_, opFdiv_ok (by omega) zc (by decide), _, rfl, h2 _ ?_⟩
      rw [← hrr]
    rintro _ rfl
    obtain ⟨a1, a2, a3, a4⟩ := move_facts A.I h0 h rfl
    refine seq_run (fun s => ¬ p.C * r ≤ p.G ∧ s = [.va (lowD p), .va (upD p), .own (ps.reverse.map ent), .va (.int p.g), .va (.int (p.b - p.l * p.c)), .va (.int p.c), .va (.int p.G), .va (.int (p.B - p.l * p.C)), .va (.int p.C), .va (.int p.l), x10, .va (.int r)]) (fun N2 h2 => ?_) ?_
    · have e : r * p.C = p.C * r := Int.mul_comm _ _
      by_cases hr : p.C * r ≤ p.G
      · refine if_run true (fun Q h' => ?_) (fun _ => ?_) (fun hc => by cases hc)
        · walk_at "rdn"
          refine ⟨_, opMul_ok zr zC (by decide), _, rfl, _, rfl, ?_⟩
          show Q (decide (r * p.C ≤ p.G)) _
          rw [decide_eq_true (by omega)]
          exact h'
        · walk_at "rdn"
          refine ⟨_, opMul_ok zr zc (by decide), _, rfl, _, opMul_ok zr zC (by decide), _, rfl, ?_⟩
          have zgr : sz 8500 (p.g - r * p.c) := by
            rw [← hrr]
            have c2 := ceil_spec (b := p.g) c1
            have e2 : -(-p.g / p.c) * p.c = p.c * -(-p.g / p.c) := Int.mul_comm _ _
            exact sz_mono (sz_of_le zc (by omega)) (by decide)
          have zGr : sz 8500 (p.G - r * p.C) := sz_mono (sz_sub (sz_mono zG (l := 8000) (by decide)) (sz_mul zr zC)) (by decide)
          refine ⟨_, _, _, _, _, rfl, zgr, zGr, _, rfl, ?_⟩
          have an := p.out A.I h0 h (by rw [hrr]; exact hr)
          rw [hrr] at an
          exact h1 _ ⟨ps, p, _, _, _, _, _, _, _, _, _, _, _, rfl, A, an⟩
      · refine if_run false (fun Q h' => ?_) (fun hc => by cases hc) (fun _ => h2 _ ⟨hr, rfl⟩)
        walk_at "rdn"
        refine ⟨_, opMul_ok zr zC (by decide), _, rfl, _, rfl, ?_⟩
        show Q (decide (r * p.C ≤ p.G)) _
        rw [decide_eq_false (by omega)]
        exact h'
    rintro _ ⟨hr, rfl⟩
    rw [← hrr] at hr
    obtain ⟨An, tc, tC⟩ := A.next h0 h hr
    obtain ⟨-, t0, -, -, -, -, -, -⟩ := p.turns A.I h0 h hr
    have zq : sz 4000 (p.g / p.c) := sz_div zg (by omega)
    refine seq_run (fun s => s = [.va (lowD p), .va (upD p), .own (ps.reverse.map ent), .va (.int p.turn.C), .va (.int (p.b - p.l * p.c)), .va (.int p.c), .va (.int p.turn.c), .va (.int (p.B - p.l * p.C)), .va (.int p.C), .va (.int p.l), x10, .va (.int r)]) (fun N2 h2 => ?_) ?_
    · walk_at "rdn"
      exact ⟨_, opMod_ok (by omega), _, opFdiv_ok (by omega) zc (by decide), _, opMul_ok zq zC (by decide), _, rfl, h2 _ rfl⟩
    rintro _ rfl
    refine seq_run (fun s => s = [.va (lowD p), .va (upD p), .own (ps.reverse.map ent), .va (.int p.turn.C), .va (.int (p.b - p.l * p.c)), .va (.int p.c), .va (.int p.turn.c), .va (.int (p.B - p.l * p.C)), .va (.int p.C), .va (.int p.l), x10, .va (.int r)]) (fun N2 h2 => ?_) ?_
    · refine if_run false (fun Q h' => ?_) (fun hc => by cases hc) (fun _ => h2 _ rfl)
      walk_at "rdn"
      rw [decide_eq_false (by omega)]
      exact h'
    rintro _ rfl
    refine seq_run (fun s => s = [.va (lowD p.turn), .va (upD p.turn), .own (ps.reverse.map ent), .va (.int p.turn.C), .va (.int (p.b - p.l * p.c)), .va (.int p.c), .va (.int p.turn.c), .va (.int (p.B - p.l * p.C)), .va (.int p.C), .va (.int p.l), x10, .va (.int r)]) (fun N2 h2 => ?_) ?_
    · walk_at "rdn"
      exact h2 _ rfl
    rintro _ rfl
    walk_at "rdn"
    have sh := A.short
    refine ⟨by simp only [List.length_map, List.length_reverse]; omega, ?_⟩
    have el : List.map ent ps.reverse ++ [lowD p.turn] = List.map ent (p :: ps).reverse := by
      rw [List.reverse_cons, List.map_append]
      rfl
    rw [el]
    refine hN (p.turn.c + p.turn.C).toNat _ ?_ ⟨p :: ps, p.turn, _, _, _, _, _, _, _, _, _, rfl, An, rfl⟩
    have := An.I.c1
    have := An.I.C1
    omega
  rintro _ ⟨ps, p, o, x0, x1, x3, x4, x5, x6, x7, x8, x9, x11, rfl, A, an⟩
  cases o with
  | none =>
    refine seq_run (fun s => False) (fun N2 h2 => ?_) (fun s z => z.elim)
    refine if_run true (fun Q h' => ?_) (fun _ => ?_) (fun hc => by cases hc)
    · walk_at "rdn"
      exact h'
    · walk_at "rdn"
      exact q none (chain_none A.ch an)
  | some k =>
    refine seq_run (fun s => s = [x0, x1, .own (ps.reverse.map ent), x3, x4, x5, x6, x7, x8, x9, .va (.int k), x11]) (fun N2 h2 => ?_) ?_
    · refine if_run false (fun Q h' => ?_) (fun hc => by cases hc) (fun _ => h2 _ rfl)
      walk_at "rdn"
      exact h'
    rintro _ rfl
    have zk : ∀ {p : Two} {k : Int}, p.I → szT p → p.Ans (some k) → sz 16010 k := by
      rintro p k I ⟨-, -, zc, -, -, zC⟩ an
      have k0 := an.1.1.1
      have k1 := an.2 k rfl
      have cC := sz_mul (show sz 10 2 by unfold sz; decide) (sz_mul zc zC)
      exact sz_of_le (sz_mono cC (by decide)) (by omega)
    refine seq_run (fun s => ∃ y0 y1 y2 y3 y4 y5 y6 y7 y8 y9 y11 z, s = [y0, y1, y2, y3, y4, y5, y6, y7, y8, y9, .va (.int z), y11] ∧ p0.Ans (some z)) (fun N2 h2 => ?_) ?_
    · walk_at "rdn"
      refine ⟨_, rfl, ?_⟩
      rw [show (List.map ent ps.reverse).reverse = ps.map ent by rw [List.map_reverse, List.reverse_reverse]]
      refine forL_run (fun r s => ∃ ps p k y0 y1 y2 y3 y4 y5 y6 y7 y8 y9 y11, r = ps.map ent ∧ ChainZ p0 ps p ∧ p.I ∧ szT p ∧ p.Ans (some k) ∧ s = [y0, y1, y2, y3, y4, y5, y6, y7, y8, y9, .va (.int k), y11]) ?_ ?_ _ _ ⟨ps, p, k, _, _, _, _, _, _, _, _, _, _, _, rfl, A.ch, A.I, A.z, an, rfl⟩
      · rintro d r s N ⟨ps, p, k, y0, y1, y2, y3, y4, y5, y6, y7, y8, y9, y11, er, ch, I, z, an, rfl⟩ hN
        cases ch with
        | nil => cases er
        | @cons ps p1 ch back z' tc I1 zz1 =>
          cases er
          unfold ent
          have z2 := zk I z an
          walk_at "rdn"
          refine ⟨_, opMul_ok z'.1 z2 (by decide), _, rfl, _, rfl, _, opFdiv_ok (by omega) z'.2.2.1 (by decide), _, rfl, ?_⟩
          exact hN _ ⟨ps, p1, _, _, _, _, _, _, _, _, _, _, _, _, rfl, ch, I1, zz1, back _ an, rfl⟩
      · rintro s ⟨ps, p, k, y0, y1, y2, y3, y4, y5, y6, y7, y8, y9, y11, er, ch, I, z, an, rfl⟩
        cases ch with
        | nil => exact h2 _ ⟨_, _, _, _, _, _, _, _, _, _, _, _, rfl, an⟩
        | cons => cases er
    rintro _ ⟨y0, y1, y2, y3, y4, y5, y6, y7, y8, y9, y11, z, rfl, an⟩
    walk_at "rdn"
    exact q _ an
section
variable {P : Program} {w : World} {K : PySem.W.Frag} {mg : Str → Option Value} {base : Heap} {CN : String → Option Addr}
theorem ok_first_between {f : Addr} {fd : FuncData} (F : Fun K "first_between" "first_between" s_first_between f fd) (g : G K mg CN) (c__first_out : CalP P w K mg base CN 1 "_first_out" D__first_out) : FnG P w K mg base 2 f fd ["lower", "upper"] (spP K CN D_first_between) := by
  have sc := sc_first_between
  exact fun_okP (m := m_first_between) F sc (by decide) len_first_between (fun cdv A outer s H E C W hw hr tk =>
    (pds_cons (pds_asgR (ps_set (i := 2) sc.nd rfl (.inl rfl) (pdr_lst pda_nil)))
    (pds_cons (pds_while (ps_while psw (pdt_val pd_bl) (pds_cons (pds_asg (ps_asg (dv 0) (pdg_tup rfl (gcons (dg 3 sc.nd) (gcons (dg 4 sc.nd) (gcons (dg 5 sc.nd) pdgs_nil))))))
    (pds_cons (pds_asg (ps_asg (dv 1) (pdg_tup rfl (gcons (dg 6 sc.nd) (gcons (dg 7 sc.nd) (gcons (dg 8 sc.nd) pdgs_nil))))))
    (pds_cons (pds_if (pdt_cmp op_gt rl_cmpI (pd_op or_mul rl_mul (dv 4) (dv 8)) (pd_op or_mul rl_mul (dv 7) (dv 5)) (nomark _)) (pds_one (pds_ret (pdr_of pd_non))) pds_nil)
    (pds_cons (pds_asg (ps_asg (pd_un un_neg rl_neg (pd_op op_fdivW rl_fdiv (pd_un un_neg rl_neg (dv 4)) (dv 5))) (dg 9 sc.nd)))
    (pds_cons (pds_if (pdt_cmp op_le rl_cmpI (pd_op or_mul rl_mul (dv 9) (dv 8)) (dv 7) (nomark _)) (pds_cons (pds_asg (ps_asg pd_int (dg 10 sc.nd)))
    (pds_one pds_break)) pds_nil)
    (pds_cons (pds_par2 (ps_par2 (i := 4) (j := 7) rfl sc.nd rfl rfl (by decide) rfl rfl (pdar_cons (pdr_of (pd_op op_sub rl_sub (dv 4) (pd_op or_mul rl_mul (dv 9) (dv 5)))) (pdar_cons (pdr_of (pd_op op_sub rl_sub (dv 7) (pd_op or_mul rl_mul (dv 9) (dv 8)))) pdar_nil)) rfl))
    (pds_cons (pds_asg (ps_asg (pd_un un_neg rl_neg (pd_op op_fdivW rl_fdiv (pd_un un_neg rl_neg (dv 3)) (dv 5))) (dg 11 sc.nd)))
    (pds_cons (pds_if (pdt_cmp op_le rl_cmpI (pd_op or_mul rl_mul (dv 11) (dv 8)) (dv 6) (nomark _)) (pds_cons (pds_asg (ps_asg (pd_call c__first_out hr (by decide) tk (pda_cons (pd_tup (pda_cons (pd_op op_sub rl_sub (dv 3) (pd_op or_mul rl_mul (dv 11) (dv 5))) (pda_cons (dv 4) (pda_cons (dv 5) pda_nil)))) (pda_cons (pd_tup (pda_cons (pd_op op_sub rl_sub (dv 6) (pd_op or_mul rl_mul (dv 11) (dv 8))) (pda_cons (dv 7) pda_nil))) pda_nil))) (dg 10 sc.nd)))
    (pds_one pds_break)) pds_nil)
    (pds_cons (pds_par2 (ps_par2 (i := 3) (j := 6) rfl sc.nd rfl rfl (by decide) rfl rfl (pdar_cons (pdr_of (pd_op op_mod rl_mod (dv 3) (dv 5))) (pdar_cons (pdr_of (pd_op op_sub rl_sub (dv 6) (pd_op or_mul rl_mul (pd_op op_fdivW rl_fdiv (dv 3) (dv 5)) (dv 8)))) pdar_nil)) rfl))
    (pds_cons (pds_if (pdt_cmp op_le rl_cmpI (dv 6) pd_int (nomark _)) (pds_one (pds_ret (pdr_of pd_non))) pds_nil)
    (pds_cons (pds_par2 (ps_par2 (i := 0) (j := 1) rfl sc.nd rfl rfl (by decide) rfl rfl (pdar_cons (pdr_of (pd_tup (pda_cons (dv 8) (pda_cons (pd_un un_neg rl_neg (dv 7)) (pda_cons (dv 6) pda_nil))))) (pdar_cons (pdr_of (pd_tup (pda_cons (dv 5) (pda_cons (pd_un un_neg rl_neg (dv 4)) (pda_cons (dv 3) pda_nil))))) pdar_nil)) rfl))
    (pds_one (pds_app (ps_expr (pe_bm PySem.F.plainAttrs_list PySem.F.slot_list_append PySem.F.type_list_append mt_append (pv 2) (pa_cons (dv 0) pa_nil))))))))))))))))))
    (pds_cons (pds_if (pdt_cmp op_isN rl_isN (dv 10) pd_non (nomark _)) (pds_one (pds_ret (pdr_of pd_non))) pds_nil)
    (pds_cons (pds_for (ps_for psw rfl (pdi_rev g.b_reversed (dv 2)) (pdg_tup rfl (gcons (dg 3 sc.nd) (gcons (dg 4 sc.nd) (gcons (dg 5 sc.nd) pdgs_nil)))) (pds_one (pds_asg (ps_asg (pd_un un_neg rl_neg (pd_op op_fdivW rl_fdiv (pd_un un_neg rl_neg (pd_op or_add rl_add (pd_op or_mul rl_mul (dv 3) (dv 10)) (dv 4))) (dv 5))) (dg 10 sc.nd))))))
    (pds_one (pds_ret (pdr_of (dv 10))))))))) rd_first_between
end
def m_first_within (W : WD) : MS :=
  mRet (mrOf (mCall D_first_between W (mCons (mTup (mCons (mVar 0) (mCons (mOp2 opSub (mVar 1) (mVar 4)) (mCons (mVar 2) (mNil))))) (mCons (mTup (mCons (mVar 0) (mCons (mOp2 opSub (mVar 1) (mVar 3)) (mCons (mVar 2) (mNil))))) (mNil)))))
def wit (g b c lo hi : Int) : Two := ⟨g, b - hi, c, g, b - lo, c⟩
theorem wit_I {g b c lo hi : Int} (h : 1 ≤ c) : (wit g b c lo hi).I := ⟨h, h, Int.le_refl _, fun z => absurd z (Int.lt_irrefl _)⟩
def D_first_within : PSpec := fun ds Q _ => ∃ g b c lo hi, ds = [.int g, .int b, .int c, .int lo, .int hi] ∧ 1 ≤ c ∧ sz 3999 g ∧ sz 3999 b ∧ sz 3999 c ∧ sz 3999 lo ∧ sz 3999 hi ∧ ∀ o, (wit g b c lo hi).Ans o → Q (.va (optD o))
theorem len_first_within : ∀ ds Q E, D_first_within ds Q E → ds.length = 5 := by
  rintro _ Q E ⟨g, b, c, lo, hi, rfl, _⟩
  rfl
theorem rd_first_within : ∀ ds Q E, D_first_within ds Q E → m_first_within (fun c _ => E c) (endP Q) (slots0 5 ds) := by
  rintro _ Q E ⟨g, b, c, lo, hi, rfl, c1, zg, zb, zc, zl, zh, q⟩
  unfold m_first_within
  walk_at "rdn"
  refine ⟨wit g b c lo hi, rfl, wit_I c1, ⟨sz_mono zg (by decide), sz_sub zb zh, sz_mono zc (by decide), sz_mono zg (by decide), sz_sub zb zl, sz_mono zc (by decide)⟩, fun o an => ?_⟩
  exact ⟨_, rfl, q o an⟩
section
variable {P : Program} {w : World} {K : PySem.W.Frag} {mg : Str → Option Value} {base : Heap} {CN : String → Option Addr}
theorem ok_first_within {f : Addr} {fd : FuncData} (F : Fun K "first_within" "first_within" s_first_within f fd) (g : G K mg CN) (c_first_between : CalP P w K mg base CN 2 "first_between" D_first_between) : FnG P w K mg base 3 f fd ["grow", "begin", "circle", "low", "high"] (spP K CN D_first_within) := by
  have sc := sc_first_within
  exact fun_okP (m := m_first_within) F sc (by decide) len_first_within (fun cdv A outer s H E C W hw hr tk =>
    (pds_one (pds_ret (pdr_of (pd_call c_first_between hr (by decide) tk (pda_cons (pd_tup (pda_cons (dv 0) (pda_cons (pd_op op_sub rl_sub (dv 1) (dv 4)) (pda_cons (dv 2) pda_nil)))) (pda_cons (pd_tup (pda_cons (dv 0) (pda_cons (pd_op op_sub rl_sub (dv 1) (dv 3)) (pda_cons (dv 2) pda_nil)))) pda_nil))))))) rd_first_within
end
end LW
namespace LW
open PySem PySem.Spec PyProof.Rows L2 DL
def m_is_table (W : WD) : MS :=
  mRet (mrOf (mAnd (mCall D_are_whole W (mCons (mVar 0) (mCons (mC (.int 2)) (mNil)))) (mAnd (mOp2 opGe (mOp2 opIx (mVar 0) (mC (.int 0))) (mC (.int 1))) (mOp2 opGe (mOp2 opIx (mVar 0) (mC (.int 1))) (mC (.int 1))))))
def isTab : PyData → Bool
  | .tuple [.int a, .int b] => decide (1 ≤ a) && decide (1 ≤ b)
  | _ => false
def D_is_table : PSpec := fun ds Q _ => ∃ d, ds = [d] ∧ Q (.va (.bool (isTab d)))
theorem len_is_table : ∀ ds Q E, D_is_table ds Q E → ds.length = 1 := by
  rintro _ Q E ⟨d, rfl, _⟩
  rfl
theorem rd_is_table : ∀ ds Q E, D_is_table ds Q E → m_is_table (fun c _ => E c) (endP Q) (slots0 1 ds) := by
  rintro _ Q E ⟨d, rfl, q⟩
  unfold m_is_table
  walk_at "rdm"
  refine ⟨d, 2, rfl, by decide, _, rfl, _, rfl, ?_⟩
  cases h : areW d 2 with
  | false =>
    rw [if_neg (by decide)]
    have e : isTab d = false := by
      unfold isTab
      split
      · simp [areW, isInt] at h
      · rfl
    rwa [e] at q
  | true =>
    obtain ⟨a, b, rfl⟩ := areW2 h
    rw [if_pos rfl]
    walk_at "rdm"
    by_cases h1 : 1 ≤ a
    · rw [if_pos (by simpa using h1)]
      simpa [isTab, h1] using q
    · rw [if_neg (by simpa using h1)]
      simpa [isTab, h1] using q
theorem isTab_t {a b : Int} (h1 : 1 ≤ a) (h2 : 1 ≤ b) : isTab (.tuple [.int a, .int b]) = true := by simp [isTab, h1, h2]
section
variable {P : Program} {w : World} {K : PySem.W.Frag} {mg : Str → Option Value} {base : Heap} {CN : String → Option Addr}
theorem ok_is_table {f : Addr} {fd : FuncData} (F : Fun K "is_table" "is_table" s_is_table f fd) (g : G K mg CN) (c_are_whole : CalP P w K mg base CN 2 "are_whole" D_are_whole) : FnG P w K mg base 3 f fd ["value"] (spP K CN D_is_table) := by
  have sc := sc_is_table
  exact fun_okP (m := m_is_table) F sc (by decide) len_is_table (fun cdv A outer s H E C W hw hr tk =>
    (pds_one (pds_ret (pdr_of (pd_and (pd_call c_are_whole hr (by decide) tk (pda_cons (dv 0) (pda_cons pd_int pda_nil))) (pd_and (pd_cmp op_ge rl_cmpI (pd_ix ix_seq rl_ix (dv 0) pd_int) pd_int (nomark _)) (pd_one (pd_cmp op_ge rl_cmpI (pd_ix ix_seq rl_ix (dv 0) pd_int) pd_int (nomark _))))))))) rd_is_table
end
def m_check_table (W : WD) : MS :=
  mIf (mTNot (mT (mCall D_is_table W (mCons (mVar 0) (mNil))))) (mRaise "InvalidTable" W) (mNext)
def D_check_table : PSpec := fun ds Q E => ∃ d, ds = [d] ∧ (isTab d = true → Q (.va .none)) ∧ (isTab d = false → E "InvalidTable")
theorem len_check_table : ∀ ds Q E, D_check_table ds Q E → ds.length = 1 := by
  rintro _ Q E ⟨d, rfl, _⟩
  rfl
theorem rd_check_table : ∀ ds Q E, D_check_table ds Q E → m_check_table (fun c _ => E c) (endP Q) (slots0 1 ds) := by
  rintro _ Q E ⟨d, rfl, q1, q2⟩
  unfold m_check_table
  walk_at "rdm"
  refine ⟨d, rfl, _, rfl, _, rfl, ?_⟩
  cases h : isTab d with
  | false => exact q2 h
  | true => exact q1 h
section
variable {P : Program} {w : World} {K : PySem.W.Frag} {mg : Str → Option Value} {base : Heap} {CN : String → Option Addr}
theorem ok_check_table {f : Addr} {fd : FuncData} (F : Fun K "check_table" "check_table" s_check_table f fd) (g : G K mg CN) (c_is_table : CalP P w K mg base CN 3 "is_table" D_is_table) : FnG P w K mg base 4 f fd ["table"] (spP K CN D_check_table) := by
  obtain ⟨e_InvalidTable, n_InvalidTable, t_InvalidTable⟩ := g.x_InvalidTable
  have sc := sc_check_table
  exact fun_okP (m := m_check_table) F sc (by decide) len_check_table (fun cdv A outer s H E C W hw hr tk =>
    (pds_one (pds_if (pdt_not (pdt_val (pd_call c_is_table hr (by decide) tk (pda_cons (dv 0) pda_nil)))) (pds_one (pds_raise rfl tk t_InvalidTable n_InvalidTable)) pds_nil))) rd_check_table
end
def m_is_any_shot (W : WD) : MS :=
  mRet (mrOf (mAnd (mCall D_are_whole W (mCons (mVar 0) (mCons (mC (.int 4)) (mNil)))) (mAnd (mOp2 opGe (mOp2 opIx (mVar 0) (mC (.int 0))) (mC (.int 0))) (mAnd (mOp2 opGe (mOp2 opIx (mVar 0) (mC (.int 1))) (mC (.int 0))) (mOr (mOp2 opNe (mOp2 opIx (mVar 0) (mC (.int 2))) (mC (.int 0))) (mOp2 opNe (mOp2 opIx (mVar 0) (mC (.int 3))) (mC (.int 0))))))))
def isAny : PyData → Bool
  | .tuple [.int x, .int y, .int p, .int q] => decide (0 ≤ x) && decide (0 ≤ y) && (!decide (p = 0) || !decide (q = 0))
  | _ => false
def D_is_any_shot : PSpec := fun ds Q _ => ∃ d, ds = [d] ∧ Q (.va (.bool (isAny d)))
theorem len_is_any_shot : ∀ ds Q E, D_is_any_shot ds Q E → ds.length = 1 := by
  rintro _ Q E ⟨d, rfl, _⟩
  rfl
theorem rd_is_any_shot : ∀ ds Q E, D_is_any_shot ds Q E → m_is_any_shot (fun c _ => E c) (endP Q) (slots0 1 ds) := by
  rintro _ Q E ⟨d, rfl, q⟩
  unfold m_is_any_shot
  walk_at "rdm"
  refine ⟨d, 4, rfl, by decide, _, rfl, _, rfl, ?_⟩
  cases h : areW d 4 with
  | false =>
    rw [if_neg (by decide)]
    have e : isAny d = false := by
      unfold isAny
      split
      · simp [areW, isInt] at h
      · rfl
    rwa [e] at q
  | true =>
    obtain ⟨x, y, p, r, rfl⟩ := areW4 h
    rw [if_pos rfl]
    walk_at "rdm"
    by_cases h1 : 0 ≤ x
    · rw [if_pos (by simpa using h1)]
      by_cases h2 : 0 ≤ y
      · rw [if_pos (by simpa using h2)]
        by_cases h3 : p = 0
        · rw [if_neg (by simpa using h3)]
          simpa [isAny, h1, h2, h3] using q
        · rw [if_pos (by simpa using h3)]
          simpa [isAny, h1, h2, h3] using q
      · rw [if_neg (by simpa using h2)]
        simpa [isAny, h1, h2] using q
    · rw [if_neg (by simpa using h1)]
      simpa [isAny, h1] using q
section
variable {P : Program} {w : World} {K : PySem.W.Frag} {mg : Str → Option Value} {base : Heap} {CN : String → Option Addr}
theorem ok_is_any_shot {f : Addr} {fd : FuncData} (F : Fun K "is_any_shot" "is_any_shot" s_is_any_shot f fd) (g : G K mg CN) (c_are_whole : CalP P w K mg base CN 2 "are_whole" D_are_whole) : FnG P w K mg base 3 f fd ["value"] (spP K CN D_is_any_shot) := by
  have sc := sc_is_any_shot
  exact fun_okP (m := m_is_any_shot) F sc (by decide) len_is_any_shot (fun cdv A outer s H E C W hw hr tk =>
    (pds_one (pds_ret (pdr_of (pd_and (pd_call c_are_whole hr (by decide) tk (pda_cons (dv 0) (pda_cons pd_int pda_nil))) (pd_and (pd_cmp op_ge rl_cmpI (pd_ix ix_seq rl_ix (dv 0) pd_int) pd_int (nomark _)) (pd_and (pd_cmp op_ge rl_cmpI (pd_ix ix_seq rl_ix (dv 0) pd_int) pd_int (nomark _)) (pd_one (pd_or (pd_cmp (or_neD (RoomG.u64 hr)) rl_ne (pd_ix ix_seq rl_ix (dv 0) pd_int) pd_int (nomark _)) (pd_one (pd_cmp (or_neD (RoomG.u64 hr)) rl_ne (pd_ix ix_seq rl_ix (dv 0) pd_int) pd_int (nomark _)))))))))))) rd_is_any_shot
end
def m_is_shot (W : WD) : MS :=
  mSeq (mDrop (mCall D_check_table W (mCons (mVar 0) (mNil))))
  (mRet (mrOf (mAnd (mCall D_is_any_shot W (mCons (mVar 1) (mNil))) (mAnd (mOp2 opLe (mOp2 opIx (mVar 1) (mC (.int 0))) (mOp2 opIx (mVar 0) (mC (.int 0)))) (mOp2 opLe (mOp2 opIx (mVar 1) (mC (.int 1))) (mOp2 opIx (mVar 0) (mC (.int 1))))))))
def isShot : PyData → PyData → Bool
  | .tuple [.int a, .int b], .tuple [.int x, .int y, .int p, .int q] => decide (0 ≤ x) && decide (0 ≤ y) && (!decide (p = 0) || !decide (q = 0)) && decide (x ≤ a) && decide (y ≤ b)
  | _, _ => false
theorem tab_inv {d : PyData} (h : isTab d = true) : ∃ a b, d = .tuple [.int a, .int b] ∧ 1 ≤ a ∧ 1 ≤ b := by
  unfold isTab at h
  split at h
  · rename_i a b
    simp only [Bool.and_eq_true, decide_eq_true_eq] at h
    exact ⟨a, b, rfl, h.1, h.2⟩
  · cases h
theorem any_inv {d : PyData} (h : isAny d = true) : ∃ x y p q, d = .tuple [.int x, .int y, .int p, .int q] ∧ 0 ≤ x ∧ 0 ≤ y ∧ (p ≠ 0 ∨ q ≠ 0) := by
  unfold isAny at h
  split at h
  · rename_i x y p q
    simp only [Bool.and_eq_true, Bool.or_eq_true, decide_eq_true_eq, Bool.not_eq_true', decide_eq_false_iff_not] at h
    exact ⟨x, y, p, q, rfl, h.1.1, h.1.2, h.2⟩
  · cases h
theorem shot_any {t d : PyData} (h : isAny d = false) : isShot t d = false := by
  unfold isShot
  split
  · simp only [isAny] at h
    simp only [h, Bool.false_and]
  · rfl
def D_is_shot : PSpec := fun ds Q E => ∃ t v, ds = [t, v] ∧ (isTab t = false → E "InvalidTable") ∧ (isTab t = true → Q (.va (.bool (isShot t v))))
theorem len_is_shot : ∀ ds Q E, D_is_shot ds Q E → ds.length = 2 := by
  rintro _ Q E ⟨t, d, rfl, _⟩
  rfl
theorem rd_is_shot : ∀ ds Q E, D_is_shot ds Q E → m_is_shot (fun c _ => E c) (endP Q) (slots0 2 ds) := by
  rintro _ Q E ⟨t, d, rfl, q1, q2⟩
  unfold m_is_shot
  walk_at "rdm"
  refine ⟨t, rfl, fun ht => ⟨⟨_, rfl⟩, ?_⟩, q1⟩
  have q := q2 ht
  obtain ⟨a, b, rfl, ha, hb⟩ := tab_inv ht
  refine ⟨d, rfl, _, rfl, _, rfl, ?_⟩
  cases h : isAny d with
  | false =>
    rw [if_neg (by decide)]
    have e : isShot (.tuple [.int a, .int b]) d = false := shot_any h
    rwa [e] at q
  | true =>
    obtain ⟨x, y, p, r, rfl, _⟩ := any_inv h
    rw [if_pos rfl]
    walk_at "rdm"
    have h' := h
    simp only [isAny] at h'
    by_cases h1 : x ≤ a
    · rw [if_pos (by simpa using h1)]
      simp only [isShot] at q
      rw [h'] at q
      simpa [h1] using q
    · rw [if_neg (by simpa using h1)]
      simp only [isShot] at q
      rw [h'] at q
      simpa [h1] using q
theorem shot_inv {t v : PyData} (h : isShot t v = true) : ∃ a b x y p q, t = .tuple [.int a, .int b] ∧ v = .tuple [.int x, .int y, .int p, .int q] ∧ 0 ≤ x ∧ x ≤ a ∧ 0 ≤ y ∧ y ≤ b ∧ (p ≠ 0 ∨ q ≠ 0) := by
  unfold isShot at h
  split at h
  · rename_i a b x y p q
    simp only [Bool.and_eq_true, Bool.or_eq_true, decide_eq_true_eq, Bool.not_eq_true', decide_eq_false_iff_not] at h
    exact ⟨a, b, x, y, p, q, rfl, rfl, h.1.1.1.1, h.1.2, h.1.1.1.2, h.2, h.1.1.2⟩
  · cases h
def szD : PyData → Prop
  | .tuple [.int a, .int b] => sz 1000 a ∧ sz 1000 b
  | .tuple [.int a, .int b, .int c, .int d] => sz 1000 a ∧ sz 1000 b ∧ sz 1000 c ∧ sz 1000 d
  | _ => True
section
variable {P : Program} {w : World} {K : PySem.W.Frag} {mg : Str → Option Value} {base : Heap} {CN : String → Option Addr}
theorem ok_is_shot {f : Addr} {fd : FuncData} (F : Fun K "is_shot" "is_shot" s_is_shot f fd) (g : G K mg CN) (c_check_table : CalP P w K mg base CN 4 "check_table" D_check_table) (c_is_any_shot : CalP P w K mg base CN 3 "is_any_shot" D_is_any_shot) : FnG P w K mg base 5 f fd ["table", "value"] (spP K CN D_is_shot) := by
  have sc := sc_is_shot
  exact fun_okP (m := m_is_shot) F sc (by decide) len_is_shot (fun cdv A outer s H E C W hw hr tk =>
    (pds_cons (pds_drop (pd_call c_check_table hr (by decide) tk (pda_cons (dv 0) pda_nil)))
    (pds_one (pds_ret (pdr_of (pd_and (pd_call c_is_any_shot hr (by decide) tk (pda_cons (dv 1) pda_nil)) (pd_and (pd_cmp op_le rl_cmpI (pd_ix ix_seq rl_ix (dv 1) pd_int) (pd_ix ix_seq rl_ix (dv 0) pd_int) (nomark _)) (pd_one (pd_cmp op_le rl_cmpI (pd_ix ix_seq rl_ix (dv 1) pd_int) (pd_ix ix_seq rl_ix (dv 0) pd_int) (nomark _)))))))))) rd_is_shot
end
def m_is_fraction (W : WD) : MS :=
  mRet (mrOf (mAnd (mCall D_are_whole W (mCons (mVar 0) (mCons (mC (.int 2)) (mNil)))) (mAnd (mOp2 opGe (mOp2 opIx (mVar 0) (mC (.int 1))) (mC (.int 1))) (mOp2 opEq (mCallB bGcd (mCons (mOp2 opIx (mVar 0) (mC (.int 0))) (mCons (mOp2 opIx (mVar 0) (mC (.int 1))) (mNil)))) (mC (.int 1))))))
def isFrac : PyData → Bool
  | .tuple [.int a, .int b] => decide (1 ≤ b) && (Nat.gcd a.natAbs b.natAbs == 1)
  | _ => false
def D_is_fraction : PSpec := fun ds Q _ => ∃ d, ds = [d] ∧ Q (.va (.bool (isFrac d)))
theorem len_is_fraction : ∀ ds Q E, D_is_fraction ds Q E → ds.length = 1 := by
  rintro _ Q E ⟨d, rfl, _⟩
  rfl
theorem rd_is_fraction : ∀ ds Q E, D_is_fraction ds Q E → m_is_fraction (fun c _ => E c) (endP Q) (slots0 1 ds) := by
  rintro _ Q E ⟨d, rfl, q⟩
  unfold m_is_fraction
  walk_at "rdm"
  refine ⟨d, 2, rfl, by decide, _, rfl, _, rfl, ?_⟩
  cases h : areW d 2 with
  | false =>
    rw [if_neg (by decide)]
    have e : isFrac d = false := by
      unfold isFrac
      split
      · simp [areW, isInt] at h
      · rfl
    rwa [e] at q
  | true =>
    obtain ⟨a, b, rfl⟩ := areW2 h
    rw [if_pos rfl]
    walk_at "rdm"
    by_cases h1 : 1 ≤ b
    · rw [if_pos (by simpa using h1)]
      have e : ∀ g : Nat, decide (((g : Nat) : Int) = 1) = (g == 1) := fun g => by
        by_cases z : g = 1
        · subst z; rfl
        · rw [decide_eq_false (by omega), beq_false_of_ne z]
      rw [e]
      have q' : Q (.va (.bool (decide (1 ≤ b) && (Nat.gcd a.natAbs b.natAbs == 1)))) := q
      rw [decide_eq_true h1, Bool.true_and] at q'
      exact q'
    · rw [if_neg (by simpa using h1)]
      simpa [isFrac, h1] using q
theorem frac_inv {d : PyData} (h : isFrac d = true) : ∃ n m, d = .tuple [.int n, .int m] ∧ 1 ≤ m ∧ Nat.gcd n.natAbs m.natAbs = 1 := by
  unfold isFrac at h
  split at h
  · rename_i a b
    simp only [Bool.and_eq_true, decide_eq_true_eq, beq_iff_eq] at h
    exact ⟨a, b, rfl, h.1, h.2⟩
  · cases h
section
variable {P : Program} {w : World} {K : PySem.W.Frag} {mg : Str → Option Value} {base : Heap} {CN : String → Option Addr}
theorem ok_is_fraction {f : Addr} {fd : FuncData} (F : Fun K "is_fraction" "is_fraction" s_is_fraction f fd) (g : G K mg CN) (c_are_whole : CalP P w K mg base CN 2 "are_whole" D_are_whole) : FnG P w K mg base 3 f fd ["value"] (spP K CN D_is_fraction) := by
  have sc := sc_is_fraction
  exact fun_okP (m := m_is_fraction) F sc (by decide) len_is_fraction (fun cdv A outer s H E C W hw hr tk =>
    (pds_one (pds_ret (pdr_of (pd_and (pd_call c_are_whole hr (by decide) tk (pda_cons (dv 0) (pda_cons pd_int pda_nil))) (pd_and (pd_cmp op_ge rl_cmpI (pd_ix ix_seq rl_ix (dv 0) pd_int) pd_int (nomark _)) (pd_one (pd_cmp (or_eqD (RoomG.u64 hr)) rl_eq (pd_gcd g.b_gcd (pda_cons (pd_ix ix_seq rl_ix (dv 0) pd_int) (pda_cons (pd_ix ix_seq rl_ix (dv 0) pd_int) pda_nil))) pd_int (nomark _))))))))) rd_is_fraction
end
def m_check_shot (W : WD) : MS :=
  mIf (mTNot (mT (mCall D_is_shot W (mCons (mVar 0) (mCons (mVar 1) (mNil)))))) (mRaise "InvalidShot" W) (mNext)
def D_check_shot : PSpec := fun ds Q E => ∃ t v, ds = [t, v] ∧ (isTab t = false → E "InvalidTable") ∧ (isTab t = true → isShot t v = false → E "InvalidShot") ∧ (isTab t = true → isShot t v = true → Q (.va .none))
theorem len_check_shot : ∀ ds Q E, D_check_shot ds Q E → ds.length = 2 := by
  rintro _ Q E ⟨t, v, rfl, _⟩
  rfl
theorem rd_check_shot : ∀ ds Q E, D_check_shot ds Q E → m_check_shot (fun c _ => E c) (endP Q) (slots0 2 ds) := by
  rintro _ Q E ⟨t, v, rfl, q1, q2, q3⟩
  unfold m_check_shot
  walk_at "rdm"
  refine ⟨t, v, rfl, q1, fun ht => ⟨_, rfl, _, rfl, ?_⟩⟩
  cases h : isShot t v with
  | false => exact q2 ht h
  | true => exact q3 ht h
section
variable {P : Program} {w : World} {K : PySem.W.Frag} {mg : Str → Option Value} {base : Heap} {CN : String → Option Addr}
theorem ok_check_shot {f : Addr} {fd : FuncData} (F : Fun K "check_shot" "check_shot" s_check_shot f fd) (g : G K mg CN) (c_is_shot : CalP P w K mg base CN 5 "is_shot" D_is_shot) : FnG P w K mg base 6 f fd ["table", "shot"] (spP K CN D_check_shot) := by
  obtain ⟨e_InvalidShot, n_InvalidShot, t_InvalidShot⟩ := g.x_InvalidShot
  have sc := sc_check_shot
  exact fun_okP (m := m_check_shot) F sc (by decide) len_check_shot (fun cdv A outer s H E C W hw hr tk =>
    (pds_one (pds_if (pdt_not (pdt_val (pd_call c_is_shot hr (by decide) tk (pda_cons (dv 0) (pda_cons (dv 1) pda_nil))))) (pds_one (pds_raise rfl tk t_InvalidShot n_InvalidShot)) pds_nil))) rd_check_shot
end
def m_check_time (W : WD) : MS :=
  mIf (mTNot (mT (mCall D_is_fraction W (mCons (mVar 0) (mNil))))) (mRaise "InvalidTime" W) (mNext)
def D_check_time : PSpec := fun ds Q E => ∃ d, ds = [d] ∧ (isFrac d = true → Q (.va .none)) ∧ (isFrac d = false → E "InvalidTime")
theorem len_check_time : ∀ ds Q E, D_check_time ds Q E → ds.length = 1 := by
  rintro _ Q E ⟨d, rfl, _⟩
  rfl
theorem rd_check_time : ∀ ds Q E, D_check_time ds Q E → m_check_time (fun c _ => E c) (endP Q) (slots0 1 ds) := by
  rintro _ Q E ⟨d, rfl, q1, q2⟩
  unfold m_check_time
  walk_at "rdm"
  refine ⟨d, rfl, _, rfl, _, rfl, ?_⟩
  cases h : isFrac d with
  | false => exact q2 h
  | true => exact q1 h
section
variable {P : Program} {w : World} {K : PySem.W.Frag} {mg : Str → Option Value} {base : Heap} {CN : String → Option Addr}
theorem ok_check_time {f : Addr} {fd : FuncData} (F : Fun K "check_time" "check_time" s_check_time f fd) (g : G K mg CN) (c_is_fraction : CalP P w K mg base CN 3 "is_fraction" D_is_fraction) : FnG P w K mg base 4 f fd ["time"] (spP K CN D_check_time) := by
  obtain ⟨e_InvalidTime, n_InvalidTime, t_InvalidTime⟩ := g.x_InvalidTime
  have sc := sc_check_time
  exact fun_okP (m := m_check_time) F sc (by decide) len_check_time (fun cdv A outer s H E C W hw hr tk =>
    (pds_one (pds_if (pdt_not (pdt_val (pd_call c_is_fraction hr (by decide) tk (pda_cons (dv 0) pda_nil)))) (pds_one (pds_raise rfl tk t_InvalidTime n_InvalidTime)) pds_nil))) rd_check_time
end
def m__check_all (W : WD) : MS :=
  mSeq (mDrop (mCall D_check_shot W (mCons (mVar 0) (mCons (mVar 1) (mNil)))))
  (mDrop (mCall D_check_time W (mCons (mVar 2) (mNil))))
def D__check_all : PSpec := fun ds Q E => ∃ t v f, ds = [t, v, f] ∧ (isTab t = false → E "InvalidTable") ∧ (isTab t = true → isShot t v = false → E "InvalidShot") ∧ (isTab t = true → isShot t v = true → isFrac f = false → E "InvalidTime") ∧ (isTab t = true → isShot t v = true → isFrac f = true → Q (.va .none))
theorem len__check_all : ∀ ds Q E, D__check_all ds Q E → ds.length = 3 := by
  rintro _ Q E ⟨t, v, f, rfl, _⟩
  rfl
theorem rd__check_all : ∀ ds Q E, D__check_all ds Q E → m__check_all (fun c _ => E c) (endP Q) (slots0 3 ds) := by
  rintro _ Q E ⟨t, v, f, rfl, q1, q2, q3, q4⟩
  unfold m__check_all
  walk_at "rdm"
  exact ⟨t, v, rfl, q1, q2, fun h1 h2 => ⟨⟨_, rfl⟩, f, rfl, fun h3 => ⟨⟨_, rfl⟩, q4 h1 h2 h3⟩, fun h3 => q3 h1 h2 h3⟩⟩
section
variable {P : Program} {w : World} {K : PySem.W.Frag} {mg : Str → Option Value} {base : Heap} {CN : String → Option Addr}
theorem ok__check_all {f : Addr} {fd : FuncData} (F : Fun K "_check_all" "_check_all" s__check_all f fd) (g : G K mg CN) (c_check_shot : CalP P w K mg base CN 6 "check_shot" D_check_shot) (c_check_time : CalP P w K mg base CN 4 "check_time" D_check_time) : FnG P w K mg base 7 f fd ["table", "shot", "time"] (spP K CN D__check_all) := by
  have sc := sc__check_all
  exact fun_okP (m := m__check_all) F sc (by decide) len__check_all (fun cdv A outer s H E C W hw hr tk =>
    (pds_cons (pds_drop (pd_call c_check_shot hr (by decide) tk (pda_cons (dv 0) (pda_cons (dv 1) pda_nil))))
    (pds_one (pds_drop (pd_call c_check_time hr (by decide) tk (pda_cons (dv 2) pda_nil)))))) rd__check_all
end
end LW
namespace LW
open PySem PySem.Spec PyProof.Rows L2 DL
def m__fold (W : WD) : MS :=
  mSeq (mAsg (mVar 1) (mgTup 2 (mgCons (mgName 2) (mgCons (mgName 3) (mgNil)))))
  (mSeq (mAsg (mOp2 opMod (mVar 2) (mOp2 opMul (mOp2 opMul (mC (.int 2)) (mVar 0)) (mVar 3))) (mgName 4))
  (mSeq (mIf (mT (mOp2 opLe (mVar 4) (mOp2 opMul (mVar 0) (mVar 3)))) (mRet (mrOf (mTup (mCons (mVar 4) (mCons (mVar 3) (mNil)))))) (mNext))
  (mRet (mrOf (mTup (mCons (mOp2 opSub (mOp2 opMul (mOp2 opMul (mC (.int 2)) (mVar 0)) (mVar 3)) (mVar 4)) (mCons (mVar 3) (mNil))))))))
def foldD (s t b : Int) : PyData := if t % (2 * s * b) ≤ s * b then .tuple [.int (t % (2 * s * b)), .int b] else .tuple [.int (2 * s * b - t % (2 * s * b)), .int b]
def D__fold : PSpec := fun ds Q _ => ∃ s t b, ds = [.int s, .tuple [.int t, .int b]] ∧ 1 ≤ s ∧ 1 ≤ b ∧ sz 8000 s ∧ sz 8000 b ∧ Q (.va (foldD s t b))
theorem len__fold : ∀ ds Q E, D__fold ds Q E → ds.length = 2 := by
  rintro _ Q E ⟨s, t, b, rfl, _⟩
  rfl
theorem rd__fold : ∀ ds Q E, D__fold ds Q E → m__fold (fun c _ => E c) (endP Q) (slots0 5 ds) := by
  rintro _ Q E ⟨s, t, b, rfl, hs, hb, zs, zb, q⟩
  have z2 : sz 2 2 := by unfold sz; decide
  have m1 : opMul (.int 2) (.int s) = some (.int (2 * s)) := opMul_ok z2 zs (by decide)
  have m2 : opMul (.int (2 * s)) (.int b) = some (.int (2 * s * b)) := opMul_ok (sz_mul z2 zs) zb (by decide)
  have m3 : opMul (.int s) (.int b) = some (.int (s * b)) := opMul_ok zs zb (by decide)
  have p1 : 0 < s * b := Int.mul_pos (by omega) (by omega)
  have p2 : 0 < 2 * s * b := Int.mul_pos (by omega) (by omega)
  have m4 : opMod (.int t) (.int (2 * s * b)) = some (.int (t % (2 * s * b))) := opMod_ok p2
  unfold m__fold
  walk_at "rdn"
  refine ⟨_, m1, _, m2, _, m4, _, m3, _, rfl, _, rfl, ?_⟩
  by_cases h : t % (2 * s * b) ≤ s * b
  · rw [if_pos (decide_eq_true h)]
    rw [foldD, if_pos h] at q
    exact q
  · rw [if_neg (by simpa using h)]
    rw [foldD, if_neg h] at q
    exact ⟨_, m1, _, m2, _, rfl, q⟩
/-- what a fold is: R behind it, as many parts of B -/
theorem fold_is {s T B : Int} (hs : 1 ≤ s) (hB : 1 ≤ B) : ∃ R k, foldD s T B = .tuple [.int R, .int B] ∧ (R = T + B * k ∨ R = -T + B * k) ∧ (R = T % (2 * s * B) ∧ T % (2 * s * B) ≤ s * B ∨ R = 2 * s * B - T % (2 * s * B) ∧ s * B < T % (2 * s * B)) := by
  have e := Int.emod_add_mul_ediv T (2 * s * B)
  unfold foldD
  by_cases h : T % (2 * s * B) ≤ s * B
  · rw [if_pos h]
    refine ⟨_, -(2 * s * (T / (2 * s * B))), rfl, .inl ?_, .inl ⟨rfl, h⟩⟩
    have : 2 * s * B * (T / (2 * s * B)) = B * (2 * s * (T / (2 * s * B))) := by simp only [Int.mul_assoc, Int.mul_comm, Int.mul_left_comm]
    rw [Int.mul_neg]
    omega
  · rw [if_neg h]
    refine ⟨_, 2 * s + 2 * s * (T / (2 * s * B)), rfl, .inr ?_, .inr ⟨rfl, by omega⟩⟩
    have e2 : 2 * s * B * (T / (2 * s * B)) = B * (2 * s * (T / (2 * s * B))) := by simp only [Int.mul_assoc, Int.mul_comm, Int.mul_left_comm]
    have e3 : 2 * s * B = B * (2 * s) := by simp only [Int.mul_assoc, Int.mul_comm, Int.mul_left_comm]
    rw [Int.mul_add]
    omega
section
variable {P : Program} {w : World} {K : PySem.W.Frag} {mg : Str → Option Value} {base : Heap} {CN : String → Option Addr}
theorem ok__fold {f : Addr} {fd : FuncData} (F : Fun K "_fold" "_fold" s__fold f fd) (g : G K mg CN)  : FnG P w K mg base 1 f fd ["side", "number"] (spP K CN D__fold) := by
  have sc := sc__fold
  exact fun_okP (m := m__fold) F sc (by decide) len__fold (fun cdv A outer s H E C W hw hr tk =>
    (pds_cons (pds_asg (ps_asg (dv 1) (pdg_tup rfl (gcons (dg 2 sc.nd) (gcons (dg 3 sc.nd) pdgs_nil)))))
    (pds_cons (pds_asg (ps_asg (pd_op op_mod rl_mod (dv 2) (pd_op or_mul rl_mul (pd_op or_mul rl_mul pd_int (dv 0)) (dv 3))) (dg 4 sc.nd)))
    (pds_cons (pds_if (pdt_cmp op_le rl_cmpI (dv 4) (pd_op or_mul rl_mul (dv 0) (dv 3)) (nomark _)) (pds_one (pds_ret (pdr_of (pd_tup (pda_cons (dv 4) (pda_cons (dv 3) pda_nil)))))) pds_nil)
    (pds_one (pds_ret (pdr_of (pd_tup (pda_cons (pd_op op_sub rl_sub (pd_op or_mul rl_mul (pd_op or_mul rl_mul pd_int (dv 0)) (dv 3)) (dv 4)) (pda_cons (dv 3) pda_nil)))))))))) rd__fold
end
def m__place (W : WD) : MS :=
  mSeq (mAsg (mVar 2) (mgTup 2 (mgCons (mgName 3) (mgCons (mgName 4) (mgNil)))))
  (mRet (mrOf (mCallB bTup (mCons (mLc (miSeq (mCall D_lines_of W (mCons (mVar 0) (mCons (mVar 1) (mNil))))) (mgTup 3 (mgCons (mgName 5) (mgCons (mgName 6) (mgCons (mgName 7) (mgNil))))) (mTYes) (mCall D__fold wF (mCons (mVar 5) (mCons (mCall D_fraction_of wF (mCons (mOp2 opAdd (mOp2 opMul (mVar 6) (mVar 4)) (mOp2 opMul (mVar 7) (mVar 3))) (mCons (mVar 4) (mNil)))) (mNil)))) [5, 6, 7]) mNil))))
/-- a number behind n / m: folded, in lowest terms -/
def placeL (s a v n m : Int) : PyData := foldD s ((a * m + v * n) / (Nat.gcd (a * m + v * n).natAbs m.natAbs : Nat)) (m / (Nat.gcd (a * m + v * n).natAbs m.natAbs : Nat))
def placeN (s a v n m : Int) : PyData := placeL s (lineA v a) (lineV v) n m
def lineIn : PyData → Option PyData
  | .tuple [.int s, .int a, .int v] => some (.tuple [.int s, .int a, .int v])
  | _ => none
def placeK (n m : Int) : PyData → Option PyData
  | .tuple [.int s, .int a, .int v] => some (placeL s a v n m)
  | _ => none
def D__place : PSpec := fun ds Q _ => ∃ a b x y p q n m, ds = [.tuple [.int a, .int b], .tuple [.int x, .int y, .int p, .int q], .tuple [.int n, .int m]] ∧ 1 ≤ a ∧ 1 ≤ b ∧ 1 ≤ m ∧ sz 1000 a ∧ sz 1000 b ∧ sz 1000 x ∧ sz 1000 y ∧ sz 1000 p ∧ sz 1000 q ∧ sz 1000 n ∧ sz 1000 m ∧ Q (.va (.tuple [placeN a x p n m, placeN b y q n m]))
theorem len__place : ∀ ds Q E, D__place ds Q E → ds.length = 3 := by
  rintro _ Q E ⟨a, b, x, y, p, q, n, m, rfl, _⟩
  rfl
theorem rd__place : ∀ ds Q E, D__place ds Q E → m__place (fun c _ => E c) (endP Q) (slots0 8 ds) := by
  rintro _ Q E ⟨a, b, x, y, p, q, n, m, rfl, ha, hb, hm, za, zb, zx, zy, zp, zq, zn, zm, hQ⟩
  unfold m__place
  walk_at "rdn"
  refine ⟨a, b, x, y, p, q, rfl, _, rfl, ?_⟩
  refine ⟨_, rfl, rfl, ?_⟩
  have big : ∀ {u : Int}, sz 1000 u → sz 8000 u := fun h => sz_mono h (by decide)
  have le : ∀ {t : Int}, sz 8000 (m / (Nat.gcd t.natAbs m.natAbs : Nat)) := fun {t} => sz_div (big zm) (gcd_pos hm)
  have one : ∀ s u v : Int, 1 ≤ s → sz 1000 s → sz 1000 u → sz 1000 v → ∀ (x5 x6 x7 : S) (Y : PyData → DSt → Prop), (∀ x5 x6 x7, Y (placeL s u v n m) [.va (.tuple [.int a, .int b]), .va (.tuple [.int x, .int y, .int p, .int q]), .va (.tuple [.int n, .int m]), .va (.int n), .va (.int m), x5, x6, x7]) →
      mgTup 3 (mgCons (mgName 5) (mgCons (mgName 6) (mgCons (mgName 7) mgNil))) (.tuple [.int s, .int u, .int v]) [.va (.tuple [.int a, .int b]), .va (.tuple [.int x, .int y, .int p, .int q]), .va (.tuple [.int n, .int m]), .va (.int n), .va (.int m), x5, x6, x7] fun s1 =>
        mTYes s1 fun b s2 => if b = true then mCall D__fold wF (mCons (mVar 5) (mCons (mCall D_fraction_of wF (mCons (mOp2 opAdd (mOp2 opMul (mVar 6) (mVar 4)) (mOp2 opMul (mVar 7) (mVar 3))) (mCons (mVar 4) mNil))) mNil)) s2 Y else False := by
    intro s u v hs zs zu zv x5 x6 x7 Y hY
    walk_at "rdn"
    exact ⟨_, opMul_ok zu zm (by decide), _, opMul_ok zv zn (by decide), _, rfl, _, _, rfl, hm, big zm, _, rfl, s, _, _, rfl, hs, div_gcd_pos hm, big zs, le, _, rfl, hY _ _ _⟩
  refine lcL_run (fun s => ∃ x5 x6 x7, s = [.va (.tuple [.int a, .int b]), .va (.tuple [.int x, .int y, .int p, .int q]), .va (.tuple [.int n, .int m]), .va (.int n), .va (.int m), x5, x6, x7]) (placeK n m) _ ?_ _ [] ⟨_, _, _, rfl⟩ (by simp) ?_
  · rintro d hd s ⟨x5, x6, x7, rfl⟩ Y N hY hN
    simp only [List.mem_cons, List.not_mem_nil, or_false] at hd
    simp only [swipe, sset]
    rcases hd with rfl | rfl
    · rw [lineD_eq] at hY ⊢
      exact one _ _ _ ha za (sz_lineA zx) (sz_lineV zp) _ _ _ Y fun _ _ _ => hY _ _ rfl ⟨_, _, _, rfl⟩
    · rw [lineD_eq] at hY ⊢
      exact one _ _ _ hb zb (sz_lineA zy) (sz_lineV zq) _ _ _ Y fun _ _ _ => hY _ _ rfl ⟨_, _, _, rfl⟩
  · rintro s ⟨x5, x6, x7, rfl⟩
    rw [lineD_eq, lineD_eq]
    exact hQ
section
variable {P : Program} {w : World} {K : PySem.W.Frag} {mg : Str → Option Value} {base : Heap} {CN : String → Option Addr}
theorem ok__place {f : Addr} {fd : FuncData} (F : Fun K "_place" "_place" s__place f fd) (g : G K mg CN) (c__fold : CalP P w K mg base CN 1 "_fold" D__fold) (c_fraction_of : CalP P w K mg base CN 1 "fraction_of" D_fraction_of) (c_lines_of : CalP P w K mg base CN 2 "lines_of" D_lines_of) : FnG P w K mg base 3 f fd ["table", "shot", "time"] (spP K CN D__place) := by
  have sc := sc__place
  exact fun_okP (m := m__place) F sc (by decide) len__place (fun cdv A outer s H E C W hw hr tk =>
    (pds_cons (pds_asg (ps_asg (dv 2) (pdg_tup rfl (gcons (dg 3 sc.nd) (gcons (dg 4 sc.nd) pdgs_nil)))))
    (pds_one (pds_ret (pdr_of (pd_tupOf g.b_tuple (pd_lc (pe_lc (own := [("side", 5), ("start", 6), ("speed", 7)]) rfl sc.nd (pdi_seq (pd_call c_lines_of hr (by decide) tk (pda_cons (dv 0) (pda_cons (dv 1) pda_nil)))) (blkOk_by (N := ["table", "shot", "time", "top", "bottom", "side", "start", "speed"]) (sc := (defScope s__place)) (by decide +kernel)) (fun _ _ _ _ _ => (pdgv_tup rfl (gvcons (dgv 5 (vs := [5, 6, 7]) sc.nd) (gvcons (dgv 6 (vs := [5, 6, 7]) sc.nd) (gvcons (dgv 7 (vs := [5, 6, 7]) sc.nd) pdgsv_nil))))) (fun _ _ _ _ _ => pdts_nil) (fun _ _ _ _ _ => (pd_call c__fold hr (by decide) takesF (pda_cons (dv 5) (pda_cons (pd_call c_fraction_of hr (by decide) takesF (pda_cons (pd_op or_add rl_add (pd_op or_mul rl_mul (dv 6) (dv 4)) (pd_op or_mul rl_mul (dv 7) (dv 3))) (pda_cons (dv 4) pda_nil))) pda_nil)))))))))))) rd__place
end
def m_place_at (W : WD) : MS :=
  mSeq (mDrop (mCall D__check_all W (mCons (mVar 0) (mCons (mVar 1) (mCons (mVar 2) (mNil))))))
  (mRet (mrOf (mCall D__place W (mCons (mVar 0) (mCons (mVar 1) (mCons (mVar 2) (mNil)))))))
def placeD : PyData → PyData → PyData → PyData
  | .tuple [.int a, .int b], .tuple [.int x, .int y, .int p, .int q], .tuple [.int n, .int m] => .tuple [placeN a x p n m, placeN b y q n m]
  | _, _, _ => .none
def D_place_at : PSpec := fun ds Q E => ∃ t v f, ds = [t, v, f] ∧ (isTab t = false → E "InvalidTable") ∧ (isTab t = true → isShot t v = false → E "InvalidShot") ∧ (isTab t = true → isShot t v = true → isFrac f = false → E "InvalidTime") ∧ (isTab t = true → isShot t v = true → isFrac f = true → szD t ∧ szD v ∧ szD f ∧ Q (.va (placeD t v f)))
theorem len_place_at : ∀ ds Q E, D_place_at ds Q E → ds.length = 3 := by
  rintro _ Q E ⟨t, v, f, rfl, _⟩
  rfl
theorem rd_place_at : ∀ ds Q E, D_place_at ds Q E → m_place_at (fun c _ => E c) (endP Q) (slots0 3 ds) := by
  rintro _ Q E ⟨t, v, f, rfl, q1, q2, q3, q4⟩
  unfold m_place_at
  walk_at "rdn"
  refine ⟨t, v, f, rfl, q1, q2, q3, fun h1 h2 h3 => ⟨⟨_, rfl⟩, ?_⟩⟩
  obtain ⟨z1, z2, z3, q⟩ := q4 h1 h2 h3
  obtain ⟨a, b, x, y, p, r, rfl, rfl, -⟩ := shot_inv h2
  obtain ⟨n, m, rfl, hm, -⟩ := frac_inv h3
  simp only [isTab, Bool.and_eq_true, decide_eq_true_eq] at h1
  exact ⟨a, b, x, y, p, r, n, m, rfl, h1.1, h1.2, hm, z1.1, z1.2, z2.1, z2.2.1, z2.2.2.1, z2.2.2.2, z3.1, z3.2, _, rfl, q⟩
section
variable {P : Program} {w : World} {K : PySem.W.Frag} {mg : Str → Option Value} {base : Heap} {CN : String → Option Addr}
theorem ok_place_at {f : Addr} {fd : FuncData} (F : Fun K "place_at" "place_at" s_place_at f fd) (g : G K mg CN) (c__check_all : CalP P w K mg base CN 7 "_check_all" D__check_all) (c__place : CalP P w K mg base CN 3 "_place" D__place) : FnG P w K mg base 8 f fd ["table", "shot", "time"] (spP K CN D_place_at) := by
  have sc := sc_place_at
  exact fun_okP (m := m_place_at) F sc (by decide) len_place_at (fun cdv A outer s H E C W hw hr tk =>
    (pds_cons (pds_drop (pd_call c__check_all hr (by decide) tk (pda_cons (dv 0) (pda_cons (dv 1) (pda_cons (dv 2) pda_nil)))))
    (pds_one (pds_ret (pdr_of (pd_call c__place hr (by decide) tk (pda_cons (dv 0) (pda_cons (dv 1) (pda_cons (dv 2) pda_nil))))))))) rd_place_at
end
def m__check_shots (W : WD) : MS :=
  mSeq (mDrop (mCall D_check_shot W (mCons (mVar 0) (mCons (mVar 1) (mNil)))))
  (mDrop (mCall D_check_shot W (mCons (mVar 0) (mCons (mVar 2) (mNil)))))
def D__check_shots : PSpec := fun ds Q E => ∃ t v o, ds = [t, v, o] ∧ (isTab t = false → E "InvalidTable") ∧ (isTab t = true → isShot t v = false → E "InvalidShot") ∧ (isTab t = true → isShot t v = true → isShot t o = false → E "InvalidShot") ∧ (isTab t = true → isShot t v = true → isShot t o = true → Q (.va .none))
theorem len__check_shots : ∀ ds Q E, D__check_shots ds Q E → ds.length = 3 := by
  rintro _ Q E ⟨t, v, f, rfl, _⟩
  rfl
theorem rd__check_shots : ∀ ds Q E, D__check_shots ds Q E → m__check_shots (fun c _ => E c) (endP Q) (slots0 3 ds) := by
  rintro _ Q E ⟨t, v, f, rfl, q1, q2, q3, q4⟩
  unfold m__check_shots
  walk_at "rdm"
  exact ⟨t, v, rfl, q1, q2, fun h1 h2 => ⟨⟨_, rfl⟩, t, f, rfl, q1, fun _ h3 => q3 h1 h2 h3, fun _ h3 => ⟨⟨_, rfl⟩, q4 h1 h2 h3⟩⟩⟩
section
variable {P : Program} {w : World} {K : PySem.W.Frag} {mg : Str → Option Value} {base : Heap} {CN : String → Option Addr}
theorem ok__check_shots {f : Addr} {fd : FuncData} (F : Fun K "_check_shots" "_check_shots" s__check_shots f fd) (g : G K mg CN) (c_check_shot : CalP P w K mg base CN 6 "check_shot" D_check_shot) : FnG P w K mg base 7 f fd ["table", "shot", "other"] (spP K CN D__check_shots) := by
  have sc := sc__check_shots
  exact fun_okP (m := m__check_shots) F sc (by decide) len__check_shots (fun cdv A outer s H E C W hw hr tk =>
    (pds_cons (pds_drop (pd_call c_check_shot hr (by decide) tk (pda_cons (dv 0) (pda_cons (dv 1) pda_nil))))
    (pds_one (pds_drop (pd_call c_check_shot hr (by decide) tk (pda_cons (dv 0) (pda_cons (dv 2) pda_nil))))))) rd__check_shots
end
def m__both (W : WD) : MS :=
  mSeq (mAsg (mVar 0) (mgTup 2 (mgCons (mgName 2) (mgCons (mgName 3) (mgNil)))))
  (mSeq (mAsg (mVar 1) (mgTup 2 (mgCons (mgName 4) (mgCons (mgName 5) (mgNil)))))
  (mSeq (mAsg (mCall D_first_within W (mCons (mVar 3) (mCons (mOp2 opSub (mVar 2) (mVar 4)) (mCons (mVar 5) (mCons (mC (.int 0)) (mCons (mC (.int 0)) (mNil))))))) (mgName 6))
  (mSeq (mIf (mT (mOp2 opIsN2 (mVar 6) (mC .none))) (mRet (mrOf (mC .none))) (mNext))
  (mRet (mrOf (mTup (mCons (mOp2 opAdd (mVar 2) (mOp2 opMul (mVar 3) (mVar 6))) (mCons (mCallB bLcm (mCons (mVar 3) (mCons (mVar 5) (mNil)))) (mNil)))))))))
theorem log13 {k : Nat} {z : Int} (h : sz k z) (hk : k ≤ 12999) : z.natAbs.log2 < 13000 := by
  by_cases c : z.natAbs = 0
  · rw [c]; decide
  · have := (Nat.log2_lt c).mpr (show z.natAbs < 2 ^ k from h)
    omega
/-- where both rows come to one number first, and how often again -/
def bothD (r s s' : Int) : Option Int → PyData
  | none => .none
  | some i => .tuple [.int (r + s * i), .int (Nat.lcm s.natAbs s'.natAbs : Nat)]
def D__both : PSpec := fun ds Q _ => ∃ r s r' s', ds = [.tuple [.int r, .int s], .tuple [.int r', .int s']] ∧ 1 ≤ s ∧ 1 ≤ s' ∧ sz 2000 r ∧ sz 2000 s ∧ sz 2000 r' ∧ sz 2000 s' ∧ ∀ o, (wit s (r - r') s' 0 0).Ans o → Q (.va (bothD r s s' o))
theorem len__both : ∀ ds Q E, D__both ds Q E → ds.length = 2 := by
  rintro _ Q E ⟨r, s, r', s', rfl, _⟩
  rfl
theorem rd__both : ∀ ds Q E, D__both ds Q E → m__both (fun c _ => E c) (endP Q) (slots0 7 ds) := by
  rintro _ Q E ⟨r, s, r', s', rfl, s1, s1', zr, zs, zr', zs', q⟩
  unfold m__both
  refine seq_step fun N hN => ?_
  walk_at "rdn"
  subst hN
  refine seq_step fun N hN => ?_
  walk_at "rdn"
  subst hN
  refine seq_step fun N hN => ?_
  walk_at "rdn"
  have z0 : sz 3999 0 := by
    have : sz 1 0 := by unfold sz; decide
    exact sz_mono this (by decide)
  refine ⟨_, _, _, _, _, rfl, s1', sz_mono zs (by decide), sz_mono (sz_sub zr zr') (by decide), sz_mono zs' (by decide), z0, z0, fun o an => ⟨_, rfl, ?_⟩⟩
  have q := q o an
  subst hN
  cases o with
  | none =>
    walk_at "rdn"
    exact q
  | some i =>
    have hi := an.2 i rfl
    have i0 : 0 ≤ i := an.1.1.1
    have zi : sz 4003 i := by
      have z1 : sz 4002 (2 * (s' * s')) := sz_mono (sz_mul (k := 2) (by unfold sz; decide) (sz_mul zs' zs')) (by decide)
      exact sz_mono (sz_le z1 (by have : i ≤ 2 * (s' * s') := hi; omega)) (by decide)
    have e : optD (some i) = .int i := rfl
    rw [e]
    walk_at "rdn"
    exact ⟨_, opMul_ok (sz_mono zs (l := 3000) (by decide)) zi (by decide), _, rfl, _, if_pos ⟨log13 zs (by decide), log13 zs' (by decide)⟩, q⟩
section
variable {P : Program} {w : World} {K : PySem.W.Frag} {mg : Str → Option Value} {base : Heap} {CN : String → Option Addr}
theorem ok__both {f : Addr} {fd : FuncData} (F : Fun K "_both" "_both" s__both f fd) (g : G K mg CN) (c_first_within : CalP P w K mg base CN 3 "first_within" D_first_within) : FnG P w K mg base 4 f fd ["one", "other"] (spP K CN D__both) := by
  have sc := sc__both
  exact fun_okP (m := m__both) F sc (by decide) len__both (fun cdv A outer s H E C W hw hr tk =>
    (pds_cons (pds_asg (ps_asg (dv 0) (pdg_tup rfl (gcons (dg 2 sc.nd) (gcons (dg 3 sc.nd) pdgs_nil)))))
    (pds_cons (pds_asg (ps_asg (dv 1) (pdg_tup rfl (gcons (dg 4 sc.nd) (gcons (dg 5 sc.nd) pdgs_nil)))))
    (pds_cons (pds_asg (ps_asg (pd_call c_first_within hr (by decide) tk (pda_cons (dv 3) (pda_cons (pd_op op_sub rl_sub (dv 2) (dv 4)) (pda_cons (dv 5) (pda_cons pd_int (pda_cons pd_int pda_nil)))))) (dg 6 sc.nd)))
    (pds_cons (pds_if (pdt_cmp op_isN rl_isN (dv 6) pd_non (nomark _)) (pds_one (pds_ret (pdr_of pd_non))) pds_nil)
    (pds_one (pds_ret (pdr_of (pd_tup (pda_cons (pd_op or_add rl_add (dv 2) (pd_op or_mul rl_mul (dv 3) (dv 6))) (pda_cons (pd_lcm g.b_lcm (pda_cons (dv 3) (pda_cons (dv 5) pda_nil))) pda_nil))))))))))) rd__both
end
def m__gaps (W : WD) : MS :=
  mSeq (mAsgR 3 (mrLst (mNil)))
  (mSeq (mFor (miRng1 (mCons (mC (.int 2)) (mNil))) (mgName 4) (mSeq (mAsg (mTup (mCons (mOp2 opIx (mVar 1) (mVar 4)) (mCons (mOp2 opIx (mVar 1) (mOp2 opAdd (mVar 4) (mC (.int 2)))) (mCons (mOp2 opIx (mVar 2) (mVar 4)) (mCons (mOp2 opIx (mVar 2) (mOp2 opAdd (mVar 4) (mC (.int 2)))) (mNil)))))) (mgTup 4 (mgCons (mgName 5) (mgCons (mgName 6) (mgCons (mgName 7) (mgCons (mgName 8) (mgNil)))))))
  (mSeq (mAsg (mTup (mCons (mOp2 opSub (mVar 5) (mVar 7)) (mCons (mOp2 opSub (mVar 6) (mVar 8)) (mNil)))) (mgName 9))
  (mApp 3 (mTup (mCons (mOp2 opMul (mC (.int 2)) (mOp2 opIx (mVar 0) (mVar 4))) (mCons (mLst (mCons (mVar 9) (mCons (mTup (mCons (mOp2 opAdd (mVar 5) (mVar 7)) (mCons (mOp2 opAdd (mVar 6) (mVar 8)) (mNil)))) (mNil)))) (mNil))))))))
  (mRet (mrOf (mVar 3))))
def gapD (s x p x2 p2 : Int) : PyData := .tuple [.int (2 * s), .list [.tuple [.int (x - x2), .int (p - p2)], .tuple [.int (x + x2), .int (p + p2)]]]
def D__gaps : PSpec := fun ds Q _ => ∃ a b x y p q x2 y2 p2 q2, ds = [.tuple [.int a, .int b], .tuple [.int x, .int y, .int p, .int q], .tuple [.int x2, .int y2, .int p2, .int q2]] ∧ sz 8000 a ∧ sz 8000 b ∧ Q (.va (.list [gapD a x p x2 p2, gapD b y q y2 q2]))
theorem len__gaps : ∀ ds Q E, D__gaps ds Q E → ds.length = 3 := by
  rintro _ Q E ⟨a, b, x, y, p, q, x2, y2, p2, q2, rfl, _⟩
  rfl
theorem rd__gaps : ∀ ds Q E, D__gaps ds Q E → m__gaps (fun c _ => E c) (endP Q) (slots0 10 ds) := by
  rintro _ Q E ⟨a, b, x, y, p, q', x2, y2, p2, q2, rfl, za, zb, q⟩
  unfold m__gaps
  walk_at "rdn"
  rw [show rangeL 0 (Int.toNat 2) = [.int 0, .int 1] from rfl]
  have s2 : sz 2 2 := by unfold sz; decide
  rw [forL]
  walk_at "rdn"
  refine ⟨by decide, by decide, _, rfl, _, rfl, _, rfl, _, opMul_ok s2 za (by decide), _, rfl, by decide, ?_⟩
  rw [forL]
  walk_at "rdn"
  refine ⟨_, rfl, _, rfl, _, rfl, _, opMul_ok s2 zb (by decide), _, rfl, by decide, ?_⟩
  rw [forL]
  walk_at "rdn"
  exact q
section
variable {P : Program} {w : World} {K : PySem.W.Frag} {mg : Str → Option Value} {base : Heap} {CN : String → Option Addr}
theorem ok__gaps {f : Addr} {fd : FuncData} (F : Fun K "_gaps" "_gaps" s__gaps f fd) (g : G K mg CN)  : FnG P w K mg base 1 f fd ["table", "shot", "other"] (spP K CN D__gaps) := by
  have sc := sc__gaps
  exact fun_okP (m := m__gaps) F sc (by decide) len__gaps (fun cdv A outer s H E C W hw hr tk =>
    (pds_cons (pds_asgR (ps_set (i := 3) sc.nd rfl (.inl rfl) (pdr_lst pda_nil)))
    (pds_cons (pds_for (ps_for psw rfl (d_range1 g.b_range (pda_cons pd_int pda_nil)) (dg 4 sc.nd) (pds_cons (pds_asg (ps_asg (pd_tup (pda_cons (pd_ix ix_seq rl_ix (dv 1) (dv 4)) (pda_cons (pd_ix ix_seq rl_ix (dv 1) (pd_op or_add rl_add (dv 4) pd_int)) (pda_cons (pd_ix ix_seq rl_ix (dv 2) (dv 4)) (pda_cons (pd_ix ix_seq rl_ix (dv 2) (pd_op or_add rl_add (dv 4) pd_int)) pda_nil))))) (pdg_tup rfl (gcons (dg 5 sc.nd) (gcons (dg 6 sc.nd) (gcons (dg 7 sc.nd) (gcons (dg 8 sc.nd) pdgs_nil)))))))
    (pds_cons (pds_asg (ps_asg (pd_tup (pda_cons (pd_op op_sub rl_sub (dv 5) (dv 7)) (pda_cons (pd_op op_sub rl_sub (dv 6) (dv 8)) pda_nil))) (dg 9 sc.nd)))
    (pds_one (pds_app (ps_expr (pe_bm PySem.F.plainAttrs_list PySem.F.slot_list_append PySem.F.type_list_append mt_append (pv 3) (pa_cons (pd_tup (pda_cons (pd_op or_mul rl_mul pd_int (pd_ix ix_seq rl_ix (dv 0) (dv 4))) (pda_cons (pd_lst (pda_cons (dv 9) (pda_cons (pd_tup (pda_cons (pd_op or_add rl_add (dv 5) (dv 7)) (pda_cons (pd_op or_add rl_add (dv 6) (dv 8)) pda_nil))) pda_nil))) pda_nil))) pa_nil)))))))))
    (pds_one (pds_ret (pdr_of (dv 3))))))) rd__gaps
end
def m__same_numbers (W : WD) : MS :=
  mSeq (mAsgR 3 (mrLst (mNil)))
  (mSeq (mFor (miSeq (mVar 1)) (mgTup 2 (mgCons (mgName 4) (mgCons (mgName 5) (mgNil)))) (mIf (mT (mOp2 opNe (mVar 5) (mC (.int 0)))) (mSeq (mAsg (mOp2 opFdivZ (mOp2 opMul (mVar 0) (mVar 2)) (mCallB bAbs (mCons (mVar 5) (mNil)))) (mgName 6))
  (mApp 3 (mTup (mCons (mOp2 opMod (mOp2 opFdivZ (mOp2 opMul (mOp1 opNeg (mVar 4)) (mVar 2)) (mVar 5)) (mVar 6)) (mCons (mVar 6) (mNil)))))) (mIf (mT (mOp2 opEq (mOp2 opMod (mVar 4) (mVar 0)) (mC (.int 0)))) (mApp 3 (mTup (mCons (mC (.int 0)) (mCons (mC (.int 1)) (mNil))))) (mNext))))
  (mRet (mrOf (mVar 3))))
/-- in parts of the time: where start + speed * t is a multiple of the circle, as rest and step -/
def sameOne (c P d v : Int) : List (Int × Int) := if v ≠ 0 then [(((-d) * P).fdiv v % ((c * P).fdiv (absI v)), (c * P).fdiv (absI v))] else if d % c = 0 then [(0, 1)] else []
def rowD (r : Int × Int) : PyData := .tuple [.int r.1, .int r.2]
theorem exact_div {c P v : Int} (c1 : 1 ≤ c) (P1 : 1 ≤ P) (hv : v ≠ 0) (h : v ∣ P) : ∃ m : Int, P = v * m ∧ m ≠ 0 ∧ (c * P).fdiv (absI v) = c * absI m ∧ 1 ≤ c * absI m ∧ ∀ d : Int, ((-d) * P).fdiv v = -(d * m) := by
  obtain ⟨m, rfl⟩ := h
  have m0 : m ≠ 0 := fun z => by rw [z, Int.mul_zero] at P1; omega
  refine ⟨m, rfl, m0, ?_, ?_, fun d => ?_⟩
  · have e : c * (v * m) = absI v * (c * absI m) := by
      have pos : 0 < v * m := by omega
      have : v * m = absI v * absI m := by
        unfold absI
        by_cases c1 : v < 0
        · have : m < 0 := by
            rcases Int.lt_or_le m 0 with z | z
            · exact z
            · have := Int.mul_nonpos_of_nonpos_of_nonneg (show v ≤ 0 by omega) z
              omega
          rw [if_pos c1, if_pos this, Int.neg_mul_neg]
        · have : ¬ m < 0 := fun z => by
            have := Int.mul_nonpos_of_nonneg_of_nonpos (show 0 ≤ v by omega) (show m ≤ 0 by omega)
            omega
          rw [if_neg c1, if_neg this]
      rw [this]
      simp only [Int.mul_assoc, Int.mul_comm, Int.mul_left_comm]
    rw [e]
    have := absI_pos hv
    exact Int.mul_fdiv_cancel_left _ (by omega)
  · exact Int.mul_pos (by omega) (by have := absI_pos m0; omega)
  · rw [show -d * (v * m) = v * (-(d * m)) by simp only [Int.neg_mul, Int.mul_neg, Int.mul_assoc, Int.mul_comm, Int.mul_left_comm]]
    exact Int.mul_fdiv_cancel_left _ hv
def D__same_numbers : PSpec := fun ds Q _ => ∃ c P d v d' v', ds = [.int c, .list [.tuple [.int d, .int v], .tuple [.int d', .int v']], .int P] ∧ 1 ≤ c ∧ 1 ≤ P ∧ (v ≠ 0 → v ∣ P) ∧ (v' ≠ 0 → v' ∣ P) ∧ sz 1000 c ∧ sz 1000 P ∧ sz 1000 d ∧ sz 1000 v ∧ sz 1000 d' ∧ sz 1000 v' ∧ Q (.va (.list ((sameOne c P d v ++ sameOne c P d' v').map rowD)))
theorem len__same_numbers : ∀ ds Q E, D__same_numbers ds Q E → ds.length = 3 := by
  rintro _ Q E ⟨c, P, d, v, d', v', rfl, _⟩
  rfl
theorem rd__same_numbers : ∀ ds Q E, D__same_numbers ds Q E → m__same_numbers (fun c _ => E c) (endP Q) (slots0 7 ds) := by
  rintro _ Q E ⟨c, P, d, v, d', v', rfl, c1, P1, hv, hv', zc, zP, zd, zv, zd', zv', q⟩
  unfold m__same_numbers
  generalize hL0 : PyData.list [.tuple [.int d, .int v], .tuple [.int d', .int v']] = L0
  refine seq_step fun N hN => ?_
  walk_at "rdn"
  subst hN
  refine seq_step fun N hN => ?_
  simp only [mFor, miSeq]
  rw [← hL0]
  walk_at "rdn"
  rw [hL0]
  have one : ∀ (d v : Int) (ts : List (Int × Int)) (x6 : S) (D : DE), (v ≠ 0 → v ∣ P) → sz 1000 d → sz 1000 v → ts.length ≤ 5 →
      (∀ x6, D.nx [.va (.int c), .va L0, .va (.int P), .own ((ts ++ sameOne c P d v).map rowD), .va (.int d), .va (.int v), x6]) →
      mIf (mT (mOp2 opNe (mVar 5) (mC (.int 0)))) (mSeq (mAsg (mOp2 opFdivZ (mOp2 opMul (mVar 0) (mVar 2)) (mCallB bAbs (mCons (mVar 5) (mNil)))) (mgName 6))
        (mApp 3 (mTup (mCons (mOp2 opMod (mOp2 opFdivZ (mOp2 opMul (mOp1 opNeg (mVar 4)) (mVar 2)) (mVar 5)) (mVar 6)) (mCons (mVar 6) (mNil)))))) (mIf (mT (mOp2 opEq (mOp2 opMod (mVar 4) (mVar 0)) (mC (.int 0)))) (mApp 3 (mTup (mCons (mC (.int 0)) (mCons (mC (.int 1)) (mNil))))) (mNext))
        D [.va (.int c), .va L0, .va (.int P), .own (ts.map rowD), .va (.int d), .va (.int v), x6] := by
    intro d v ts x6 D hv zd zv hl hD
    by_cases h : v ≠ 0
    · obtain ⟨m, hP, m0, e1, s1, e2⟩ := exact_div c1 P1 h (hv h)
      refine if_run true (fun Q h' => ?_) (fun _ => ?_) (fun hc => by cases hc)
      · walk_at "rdn"
        rw [decide_eq_false h]
        exact h'
      · have hD := hD (.va (.int ((c * P).fdiv (absI v))))
        unfold sameOne at hD
        rw [if_pos h, List.map_append] at hD
        have a1 := absI_pos h
        refine seq_step fun N2 hN2 => ?_
        walk_at "rdn"
        refine ⟨_, opMul_ok zc zP (by decide), ?_⟩
        refine ⟨_, opFdivZ_ok (b := absI v) (by omega) (sz_absI zv) (by decide), ?_⟩
        subst hN2
        walk_at "rdn"
        refine ⟨_, opMul_ok (sz_neg zd) zP (by decide), _, opFdivZ_ok h zv (by decide), _, opMod_ok (by rw [e1]; omega), ?_⟩
        exact ⟨by simp; omega, hD⟩
    · refine if_run false (fun Q h' => ?_) (fun hc => by cases hc) (fun _ => ?_)
      · walk_at "rdn"
        rw [decide_eq_true (by omega)]
        exact h'
      have hD := hD x6
      unfold sameOne at hD
      rw [if_neg h] at hD
      by_cases h2 : d % c = 0
      · rw [if_pos h2, List.map_append] at hD
        refine if_run true (fun Q h' => ?_) (fun _ => ?_) (fun hc => by cases hc)
        · walk_at "rdn"
          refine ⟨_, opMod_ok (by omega), _, opEq_int, _, rfl, ?_⟩
          rw [decide_eq_true h2]
          exact h'
        · walk_at "rdn"
          exact ⟨by simp; omega, hD⟩
      · rw [if_neg h2, List.append_nil] at hD
        refine if_run false (fun Q h' => ?_) (fun hc => by cases hc) (fun _ => ?_)
        · walk_at "rdn"
          refine ⟨_, opMod_ok (by omega), _, opEq_int, _, rfl, ?_⟩
          rw [decide_eq_false h2]
          exact h'
        · walk_at "rdn"
          exact hD
  simp only [forL, mgTup_t, mgCons_c, mgName, mgNil_n, sset]
  refine ⟨rfl, ?_⟩
  refine one d v [] _ _ hv zd zv (by decide) fun x6 => ?_
  simp only [sset]
  refine ⟨rfl, ?_⟩
  refine one d' v' _ _ _ hv' zd' zv' (by unfold sameOne; split; simp; split <;> simp) fun x6 => ?_
  subst hN
  walk_at "rdn"
  exact q
section
variable {P : Program} {w : World} {K : PySem.W.Frag} {mg : Str → Option Value} {base : Heap} {CN : String → Option Addr}
theorem ok__same_numbers {f : Addr} {fd : FuncData} (F : Fun K "_same_numbers" "_same_numbers" s__same_numbers f fd) (g : G K mg CN)  : FnG P w K mg base 1 f fd ["circle", "pairs", "parts"] (spP K CN D__same_numbers) := by
  have sc := sc__same_numbers
  exact fun_okP (m := m__same_numbers) F sc (by decide) len__same_numbers (fun cdv A outer s H E C W hw hr tk =>
    (pds_cons (pds_asgR (ps_set (i := 3) sc.nd rfl (.inl rfl) (pdr_lst pda_nil)))
    (pds_cons (pds_for (ps_for psw rfl (pdi_seq (dv 1)) (pdg_tup rfl (gcons (dg 4 sc.nd) (gcons (dg 5 sc.nd) pdgs_nil))) (pds_one (pds_if (pdt_cmp (or_neD (RoomG.u64 hr)) rl_ne (dv 5) pd_int (nomark _)) (pds_cons (pds_asg (ps_asg (pd_op op_fdivZ rl_fdivZ (pd_op or_mul rl_mul (dv 0) (dv 2)) (pd_callB call_abs rc_abs g.b_abs (by decide +kernel) (pda_cons (dv 5) pda_nil))) (dg 6 sc.nd)))
    (pds_one (pds_app (ps_expr (pe_bm PySem.F.plainAttrs_list PySem.F.slot_list_append PySem.F.type_list_append mt_append (pv 3) (pa_cons (pd_tup (pda_cons (pd_op op_mod rl_mod (pd_op op_fdivZ rl_fdivZ (pd_op or_mul rl_mul (pd_un un_neg rl_neg (dv 4)) (dv 2)) (dv 5)) (dv 6)) (pda_cons (dv 6) pda_nil))) pa_nil)))))) (pds_one (pds_if (pdt_cmp (or_eqD (RoomG.u64 hr)) rl_eq (pd_op op_mod rl_mod (dv 4) (dv 0)) pd_int (nomark _)) (pds_one (pds_app (ps_expr (pe_bm PySem.F.plainAttrs_list PySem.F.slot_list_append PySem.F.type_list_append mt_append (pv 3) (pa_cons (pd_tup (pda_cons pd_int (pda_cons pd_int pda_nil))) pa_nil))))) pds_nil))))))
    (pds_one (pds_ret (pdr_of (dv 3))))))) rd__same_numbers
end
def m__meetings (W : WD) : MS :=
  mSeq (mAsg (mCall D__gaps W (mCons (mVar 0) (mCons (mVar 1) (mCons (mVar 2) (mNil))))) (mgName 3))
  (mSeq (mAsg (mC (.int 1)) (mgName 4))
  (mSeq (mFor (miSeq (mVar 3)) (mgTup 2 (mgCons (mgName 5) (mgCons (mgName 6) (mgNil)))) (mFor (miSeq (mVar 6)) (mgTup 2 (mgCons (mgName 5) (mgCons (mgName 7) (mgNil)))) (mIf (mT (mOp2 opNe (mVar 7) (mC (.int 0)))) (mAsg (mCallB bLcm (mCons (mVar 4) (mCons (mVar 7) (mNil)))) (mgName 4)) (mNext))))
  (mSeq (mAsg (mLc (miSeq (mVar 3)) (mgTup 2 (mgCons (mgName 11) (mgCons (mgName 6) (mgNil)))) (mTYes) (mCall D__same_numbers wF (mCons (mVar 11) (mCons (mVar 6) (mCons (mVar 4) (mNil))))) [11, 6]) (mgTup 2 (mgCons (mgName 8) (mgCons (mgName 9) (mgNil)))))
  (mSeq (mAsg (mLc2 (miSeq (mVar 8)) (mgName 12) (mTYes) (miSeq (mVar 9)) (mgName 13) (mTYes) (mCall D__both wF (mCons (mVar 12) (mCons (mVar 13) (mNil)))) [12, 13] [13]) (mgName 10))
  (mRet (mrOf (mTup (mCons (mVar 4) (mCons (mLc (miSeq (mVar 10)) (mgName 14) (mT (mOp2 opNotN2 (mVar 14) (mC .none))) (mVar 14) [14]) (mNil))))))))))
def lcmP (P v : Int) : Int := if v ≠ 0 then (Nat.lcm P.natAbs v.natAbs : Nat) else P
theorem lcmP_facts {P v : Int} {k l : Nat} (P1 : 1 ≤ P) (zP : sz k P) (zv : sz l v) : 1 ≤ lcmP P v ∧ P ∣ lcmP P v ∧ (v ≠ 0 → v ∣ lcmP P v) ∧ sz (k + l) (lcmP P v) := by
  unfold lcmP
  by_cases h : v ≠ 0
  · rw [if_pos h]
    have e : ((P.natAbs : Nat) : Int) = P := by omega
    have pos : 0 < Nat.lcm P.natAbs v.natAbs := Nat.lcm_pos (by omega) (by omega)
    have le : Nat.lcm P.natAbs v.natAbs ≤ P.natAbs * v.natAbs := Nat.div_le_self _ _
    refine ⟨by omega, Int.natAbs_dvd_natAbs.mp (by rw [Int.natAbs_natCast]; exact Nat.dvd_lcm_left _ _), fun _ => Int.natAbs_dvd_natAbs.mp (by rw [Int.natAbs_natCast]; exact Nat.dvd_lcm_right _ _), ?_⟩
    refine sz_le (sz_mul zP zv) ?_
    rw [Int.natAbs_mul, Int.natAbs_natCast]
    exact le
  · rw [if_neg h]
    exact ⟨P1, Int.dvd_refl _, fun z => absurd z h, sz_mono zP (by omega)⟩
def partsN (p p2 q q2 : Int) : Int := lcmP (lcmP (lcmP (lcmP 1 (p - p2)) (p + p2)) (q - q2)) (q + q2)
/-- where both balls have one number, on one axis -/
def axisL (s P x p x2 p2 : Int) : List (Int × Int) := sameOne (2 * s) P (x - x2) (p - p2) ++ sameOne (2 * s) P (x + x2) (p + p2)
theorem sameOne_len (c P d v : Int) : (sameOne c P d v).length ≤ 1 := by
  unfold sameOne
  split
  · exact Nat.le_refl _
  · split
    · exact Nat.le_refl _
    · exact Nat.zero_le _
theorem Ans_unique {p : Two} {o o' : Option Int} (h : p.Ans o) (h' : p.Ans o') : o = o' := least_unique h.1 h'.1
noncomputable def meetO (r s r' s' : Int) : Option Int := open Classical in if h : ∃ o, (wit s (r - r') s' 0 0).Ans o then Classical.choose h else none
theorem meetO_is {r s r' s' : Int} {o : Option Int} (h : (wit s (r - r') s' 0 0).Ans o) : meetO r s r' s' = o := by
  unfold meetO
  have e : ∃ o, (wit s (r - r') s' 0 0).Ans o := ⟨o, h⟩
  rw [dif_pos e]
  exact Ans_unique (Classical.choose_spec e) h
noncomputable def meetK : PyData → PyData → Option PyData
  | .tuple [.int r, .int s], .tuple [.int r', .int s'] => some (bothD r s s' (meetO r s r' s'))
  | _, _ => none
/-- the first common numbers of all pairs of rows, with how often again -/
noncomputable def meetL (L M : List (Int × Int)) : List (Int × Int) := L.flatMap fun u => M.filterMap fun w => (meetO u.1 u.2 w.1 w.2).map fun i => (u.1 + u.2 * i, ((Nat.lcm u.2.natAbs w.2.natAbs : Nat) : Int))
theorem meetL_raw (L M : List (Int × Int)) : ((L.map rowD).flatMap fun d => (M.map rowD).filterMap (meetK d)).filterMap kSome = (meetL L M).map rowD := by
  unfold meetL
  induction L with
  | nil => rfl
  | cons u L ih =>
    rw [List.map_cons, List.flatMap_cons, List.filterMap_append, ih, List.flatMap_cons, List.map_append]
    congr 1
    clear ih
    induction M with
    | nil => rfl
    | cons w M ih =>
      rw [List.map_cons]
      have e : meetK (rowD u) (rowD w) = some (bothD u.1 u.2 w.2 (meetO u.1 u.2 w.1 w.2)) := rfl
      rw [List.filterMap_cons_some e]
      cases h : meetO u.1 u.2 w.1 w.2 with
      | none =>
        rw [List.filterMap_cons_none (by rfl), ih, List.filterMap_cons_none (by rw [h]; rfl)]
      | some i =>
        rw [List.filterMap_cons_some (b := bothD u.1 u.2 w.2 (some i)) (by rfl), ih, List.filterMap_cons_some (b := (u.1 + u.2 * i, ((Nat.lcm u.2.natAbs w.2.natAbs : Nat) : Int))) (by rw [h]; rfl)]
        rfl
theorem sameOne_facts {c P d v : Int} {k l : Nat} (c1 : 1 ≤ c) (P1 : 1 ≤ P) (hv : v ≠ 0 → v ∣ P) (zc : sz k c) (zP : sz l P) : ∀ u ∈ sameOne c P d v, 0 ≤ u.1 ∧ u.1 < u.2 ∧ 1 ≤ u.2 ∧ sz (k + l) u.1 ∧ sz (k + l) u.2 := by
  intro u hu
  unfold sameOne at hu
  have h1 : 1 ≤ c * P := Int.mul_pos (by omega) (by omega)
  have zcP := sz_mul zc zP
  split at hu
  · rename_i h
    simp only [List.mem_singleton] at hu
    subst hu
    obtain ⟨m, hP, m0, e1, s1, e2⟩ := exact_div c1 P1 h (hv h)
    have zs : sz (k + l) ((c * P).fdiv (absI v)) := by
      rw [e1]
      have a1 := absI_pos m0
      have b1 := absI_pos h
      have le : c * absI m ≤ c * P := by
        refine Int.mul_le_mul_of_nonneg_left ?_ (by omega)
        have : P = absI v * absI m := by
          rw [hP]
          unfold absI
          by_cases c1 : v < 0
          · have : m < 0 := by
              rcases Int.lt_or_le m 0 with z | z
              · exact z
              · have := Int.mul_nonpos_of_nonpos_of_nonneg (show v ≤ 0 by omega) z
                omega
            rw [if_pos c1, if_pos this, Int.neg_mul_neg]
          · have : ¬ m < 0 := fun z => by
              have := Int.mul_nonpos_of_nonneg_of_nonpos (show 0 ≤ v by omega) (show m ≤ 0 by omega)
              omega
            rw [if_neg c1, if_neg this]
        have := Int.mul_le_mul_of_nonneg_right (show 1 ≤ absI v by omega) (show 0 ≤ absI m by omega)
        omega
      exact sz_le zcP (by omega)
    refine ⟨Int.emod_nonneg _ (by rw [e1]; omega), Int.emod_lt_of_pos _ (by rw [e1]; omega), by show 1 ≤ (c * P).fdiv (absI v); rw [e1]; omega, sz_mod zs (by rw [e1]; omega), zs⟩
  · split at hu
    · simp only [List.mem_singleton] at hu
      subst hu
      have z1 : sz (k + l) (c * P) := zcP
      refine ⟨by decide, by decide, by decide, sz_le z1 (by show (0 : Int).natAbs ≤ _; simp), sz_le z1 (by show (1 : Int).natAbs ≤ _; omega)⟩
    · cases hu
def D__meetings : PSpec := fun ds Q _ => ∃ a b x y p q x2 y2 p2 q2, ds = [.tuple [.int a, .int b], .tuple [.int x, .int y, .int p, .int q], .tuple [.int x2, .int y2, .int p2, .int q2]] ∧ 1 ≤ a ∧ 1 ≤ b ∧ (sz 150 a ∧ sz 150 b ∧ sz 150 x ∧ sz 150 y ∧ sz 150 p ∧ sz 150 q ∧ sz 150 x2 ∧ sz 150 y2 ∧ sz 150 p2 ∧ sz 150 q2) ∧ Q (.va (.tuple [.int (partsN p p2 q q2), .list ((meetL (axisL a (partsN p p2 q q2) x p x2 p2) (axisL b (partsN p p2 q q2) y q y2 q2)).map rowD)]))
theorem len__meetings : ∀ ds Q E, D__meetings ds Q E → ds.length = 3 := by
  rintro _ Q E ⟨a, b, x, y, p, q, x2, y2, p2, q2, rfl, _⟩
  rfl
theorem rd__meetings : ∀ ds Q E, D__meetings ds Q E → m__meetings (fun c _ => E c) (endP Q) (slots0 15 ds) := by
  rintro _ Q E ⟨a, b, x, y, p, r, x2, y2, p2, r2, rfl, a1, b1, ⟨za, zb, zx, zy, zp, zq, zx2, zy2, zp2, zq2⟩, q⟩
  unfold m__meetings
  have s1 : sz 1 1 := by unfold sz; decide
  have s2 : sz 2 2 := by unfold sz; decide
  obtain ⟨A1, -, A3, A4⟩ := lcmP_facts (P := 1) (by decide) s1 (sz_sub zp zp2)
  obtain ⟨B1, B2, B3, B4⟩ := lcmP_facts A1 A4 (sz_add zp zp2)
  obtain ⟨C1, C2, C3, C4⟩ := lcmP_facts B1 B4 (sz_sub zq zq2)
  obtain ⟨D1, D2, D3, D4⟩ := lcmP_facts C1 C4 (sz_add zq zq2)
  have hP : lcmP (lcmP (lcmP (lcmP 1 (p - p2)) (p + p2)) (r - r2)) (r + r2) = partsN p p2 r r2 := rfl
  have e1 : p - p2 ≠ 0 → p - p2 ∣ partsN p p2 r r2 := fun h => Int.dvd_trans (Int.dvd_trans (Int.dvd_trans (A3 h) B2) C2) D2
  have e2 : p + p2 ≠ 0 → p + p2 ∣ partsN p p2 r r2 := fun h => Int.dvd_trans (Int.dvd_trans (B3 h) C2) D2
  have e3 : r - r2 ≠ 0 → r - r2 ∣ partsN p p2 r r2 := fun h => Int.dvd_trans (C3 h) D2
  have e4 : r + r2 ≠ 0 → r + r2 ∣ partsN p p2 r r2 := D3
  rw [hP] at D1 D4
  refine seq_step fun N hN => ?_
  walk_at "rdn"
  refine ⟨a, b, x, y, p, r, x2, y2, p2, r2, rfl, sz_mono za (by decide), sz_mono zb (by decide), _, rfl, ?_⟩
  subst hN
  generalize hG : PyData.list [gapD a x p x2 p2, gapD b y r y2 r2] = G
  refine seq_step fun N hN => ?_
  walk_at "rdn"
  subst hN
  refine seq_step fun N hN => ?_
  simp only [mFor, miSeq]
  rw [← hG]
  walk_at "rdn"
  rw [hG]
  have stp : ∀ (P v : Int) (k l : Nat) (t0 t1 t2 g x5 x6 : S) (D : DE), 1 ≤ P → sz k P → sz l v → k ≤ 10000 → l ≤ 10000 →
      D.nx [t0, t1, t2, g, .va (.int (lcmP P v)), x5, x6, .va (.int v), .no, .no, .no, .no, .no, .no, .no] →
      mIf (mT (mOp2 opNe (mVar 7) (mC (.int 0)))) (mAsg (mCallB bLcm (mCons (mVar 4) (mCons (mVar 7) (mNil)))) (mgName 4)) (mNext)
        D [t0, t1, t2, g, .va (.int P), x5, x6, .va (.int v), .no, .no, .no, .no, .no, .no, .no] := by
    intro P v k l t0 t1 t2 g x5 x6 D P1 zP zv hk hl hD
    unfold lcmP at hD
    by_cases h : v ≠ 0
    · rw [if_pos h] at hD
      refine if_run true (fun Q h' => ?_) (fun _ => ?_) (fun hc => by cases hc)
      · walk_at "rdn"
        rw [decide_eq_false h]
        exact h'
      · walk_at "rdn"
        exact ⟨_, if_pos ⟨log13 zP (by omega), log13 zv (by omega)⟩, hD⟩
    · rw [if_neg h] at hD
      refine if_run false (fun Q h' => ?_) (fun hc => by cases hc) (fun _ => ?_)
      · walk_at "rdn"
        rw [decide_eq_true (by omega)]
        exact h'
      · walk_at "rdn"
        exact hD
  have inner : ∀ (P d1 v1 d2 v2 : Int) (k l : Nat) (t0 t1 t2 g x5 x7 : S) (D : DE), 1 ≤ P → sz k P → sz l v1 → sz l v2 → k + l ≤ 10000 →
      (∀ x5 x7, D.nx [t0, t1, t2, g, .va (.int (lcmP (lcmP P v1) v2)), x5, .va (.list [.tuple [.int d1, .int v1], .tuple [.int d2, .int v2]]), x7, .no, .no, .no, .no, .no, .no, .no]) →
      mFor (miSeq (mVar 6)) (mgTup 2 (mgCons (mgName 5) (mgCons (mgName 7) (mgNil)))) (mIf (mT (mOp2 opNe (mVar 7) (mC (.int 0)))) (mAsg (mCallB bLcm (mCons (mVar 4) (mCons (mVar 7) (mNil)))) (mgName 4)) (mNext))
        D [t0, t1, t2, g, .va (.int P), x5, .va (.list [.tuple [.int d1, .int v1], .tuple [.int d2, .int v2]]), x7, .no, .no, .no, .no, .no, .no, .no] := by
    intro P d1 v1 d2 v2 k l t0 t1 t2 g x5 x7 D P1 zP zv1 zv2 hk hD
    generalize hL : PyData.list [.tuple [.int d1, .int v1], .tuple [.int d2, .int v2]] = L at *
    obtain ⟨f1, -, -, f2⟩ := lcmP_facts P1 zP zv1
    simp only [mFor, miSeq]
    walk_at "rdn"
    rw [← hL]
    simp only [items_l]
    refine ⟨_, rfl, ?_⟩
    simp only [forL, mgTup_t, mgCons_c, mgName, mgNil_n, sset]
    rw [hL]
    refine ⟨rfl, ?_⟩
    refine stp P v1 k l _ _ _ _ _ _ _ P1 zP zv1 (by omega) (by omega) ?_
    simp only [sset]
    refine ⟨rfl, ?_⟩
    refine stp _ v2 (k + l) l _ _ _ _ _ _ _ f1 f2 zv2 (by omega) (by omega) ?_
    exact hD _ _
  simp only [forL, mgTup_t, mgCons_c, mgName, mgNil_n, sset, gapD]
  refine ⟨rfl, ?_⟩
  refine inner 1 _ _ _ _ 1 151 _ _ _ _ _ _ _ (by decide) s1 (sz_sub zp zp2) (sz_add zp zp2) (by decide) fun x5 x7 => ?_
  simp only [sset]
  refine ⟨rfl, ?_⟩
  refine inner _ _ _ _ _ _ 151 _ _ _ _ _ _ _ B1 B4 (sz_sub zq zq2) (sz_add zq zq2) (by decide) fun x5 x7 => ?_
  rw [hP]
  clear inner stp
  subst hN
  dsimp only
  generalize partsN p p2 r r2 = P at *
  refine seq_step fun N hN => ?_
  walk_at "rdn"
  rw [← hG]
  refine ⟨_, rfl, rfl, ?_⟩
  simp only [lcL, swipe, gapD]
  walk_at "rdn"
  have up : ∀ {z : Int} {k : Nat}, sz k z → k ≤ 1000 → sz 1000 z := fun h hk => sz_mono h hk
  refine ⟨2 * a, P, x - x2, p - p2, x + x2, p + p2, rfl, by omega, D1, e1, e2, up (sz_mul s2 za) (by decide), up D4 (by decide), up (sz_sub zx zx2) (by decide), up (sz_sub zp zp2) (by decide), up (sz_add zx zx2) (by decide), up (sz_add zp zp2) (by decide), _, rfl, by decide, ?_⟩
  refine ⟨2 * b, P, y - y2, r - r2, y + y2, r + r2, rfl, by omega, D1, e3, e4, up (sz_mul s2 zb) (by decide), up D4 (by decide), up (sz_sub zy zy2) (by decide), up (sz_sub zq zq2) (by decide), up (sz_add zy zy2) (by decide), up (sz_add zq zq2) (by decide), _, rfl, by decide, ?_⟩
  simp only [sback]
  walk_at "rdn"
  have fA : ∀ u ∈ axisL a P x p x2 p2, 0 ≤ u.1 ∧ u.1 < u.2 ∧ 1 ≤ u.2 ∧ sz 2000 u.1 ∧ sz 2000 u.2 := by
    intro u hu
    have z2a := sz_mul s2 za
    rcases List.mem_append.mp hu with h | h
    · obtain ⟨h1, h2, h3, h4, h5⟩ := sameOne_facts (by omega) D1 e1 z2a D4 u h
      exact ⟨h1, h2, h3, sz_mono h4 (by decide), sz_mono h5 (by decide)⟩
    · obtain ⟨h1, h2, h3, h4, h5⟩ := sameOne_facts (by omega) D1 e2 z2a D4 u h
      exact ⟨h1, h2, h3, sz_mono h4 (by decide), sz_mono h5 (by decide)⟩
  have fB : ∀ u ∈ axisL b P y r y2 r2, 0 ≤ u.1 ∧ u.1 < u.2 ∧ 1 ≤ u.2 ∧ sz 2000 u.1 ∧ sz 2000 u.2 := by
    intro u hu
    have z2b := sz_mul s2 zb
    rcases List.mem_append.mp hu with h | h
    · obtain ⟨h1, h2, h3, h4, h5⟩ := sameOne_facts (by omega) D1 e3 z2b D4 u h
      exact ⟨h1, h2, h3, sz_mono h4 (by decide), sz_mono h5 (by decide)⟩
    · obtain ⟨h1, h2, h3, h4, h5⟩ := sameOne_facts (by omega) D1 e4 z2b D4 u h
      exact ⟨h1, h2, h3, sz_mono h4 (by decide), sz_mono h5 (by decide)⟩
  have eA : sameOne (2 * a) P (x - x2) (p - p2) ++ sameOne (2 * a) P (x + x2) (p + p2) = axisL a P x p x2 p2 := rfl
  have eB : sameOne (2 * b) P (y - y2) (r - r2) ++ sameOne (2 * b) P (y + y2) (r + r2) = axisL b P y r y2 r2 := rfl
  have lA : (axisL a P x p x2 p2).length ≤ 2 := by
    unfold axisL
    rw [List.length_append]
    exact Nat.add_le_add (sameOne_len _ _ _ _) (sameOne_len _ _ _ _)
  have lB : (axisL b P y r y2 r2).length ≤ 2 := by
    unfold axisL
    rw [List.length_append]
    exact Nat.add_le_add (sameOne_len _ _ _ _) (sameOne_len _ _ _ _)
  rw [eA, eB]
  subst hN
  have raw := meetL_raw (axisL a P x p x2 p2) (axisL b P y r y2 r2)
  generalize axisL a P x p x2 p2 = L at *
  generalize axisL b P y r y2 r2 = M at *
  refine seq_step fun N hN => ?_
  simp only [mAsg, mLc2, miSeq]
  try walk_at "rdn"
  refine ⟨rfl, ?_⟩
  generalize S.va (PyData.list [PyData.tuple [PyData.int (2 * a), PyData.list [PyData.tuple [PyData.int (x - x2), PyData.int (p - p2)], PyData.tuple [PyData.int (x + x2), PyData.int (p + p2)]]], PyData.tuple [PyData.int (2 * b), PyData.list [PyData.tuple [PyData.int (y - y2), PyData.int (r - r2)], PyData.tuple [PyData.int (y + y2), PyData.int (r + r2)]]]]) = g3
  generalize S.va (PyData.list [PyData.tuple [PyData.int (y - y2), PyData.int (r - r2)], PyData.tuple [PyData.int (y + y2), PyData.int (r + r2)]]) = g6
  generalize S.va (PyData.tuple [PyData.int a, PyData.int b]) = t0
  generalize S.va (PyData.tuple [PyData.int x, PyData.int y, PyData.int p, PyData.int r]) = t1
  generalize S.va (PyData.tuple [PyData.int x2, PyData.int y2, PyData.int p2, PyData.int r2]) = t2
  refine lc2L_run (fun s => ∃ o12 o13, s = [t0, t1, t2, g3, .va (.int P), x5, g6, x7, .va (.list (L.map rowD)), .va (.list (M.map rowD)), .no, .no, o12, o13, .no]) meetK (M.map rowD) (L.map rowD) ?_ _ [] ⟨_, _, rfl⟩ ?_ ?_
  · rintro d hd s ⟨o12, o13, rfl⟩ NN acc hacc hNN
    obtain ⟨u, hu, rfl⟩ := List.mem_map.mp hd
    obtain ⟨u1, u2, u3, u4, u5⟩ := fA u hu
    simp only [swipe]
    walk_at "rdn"
    refine ⟨rfl, ?_⟩
    refine lcL_run (fun s => ∃ o13, s = [t0, t1, t2, g3, .va (.int P), x5, g6, x7, .va (.list (L.map rowD)), .va (.list (M.map rowD)), .no, .no, .va (rowD u), o13, .no]) (meetK (rowD u)) _ ?_ _ acc ⟨_, rfl⟩ hacc ?_
    · rintro d hd s ⟨o13, rfl⟩ Y N2 hY hN2
      obtain ⟨w, hw, rfl⟩ := List.mem_map.mp hd
      obtain ⟨w1, w2, w3, w4, w5⟩ := fB w hw
      simp only [swipe]
      walk_at "rdn"
      refine ⟨u.1, u.2, w.1, w.2, rfl, u3, w3, u4, u5, w4, w5, fun o an => ⟨_, rfl, ?_⟩⟩
      rw [← meetO_is an]
      exact hY _ _ rfl ⟨_, rfl⟩
    · rintro s ⟨o13, rfl⟩
      exact hNN _ ⟨_, _, rfl⟩
  · rw [List.length_map, List.length_map]
    have := Nat.mul_le_mul lA lB
    simp only [List.length_nil]
    omega
  rintro s ⟨o12, o13, rfl⟩
  rw [List.nil_append]
  simp only [sback]
  walk_at "rdn"
  subst hN
  walk_at "rdn"
  refine ⟨rfl, ?_⟩
  have len : (List.flatMap (fun d => List.filterMap (meetK d) (List.map rowD M)) (List.map rowD L)).length ≤ 4 := by
    have gen : ∀ K : List PyData, (K.flatMap fun d => List.filterMap (meetK d) (List.map rowD M)).length ≤ K.length * M.length := by
      intro K
      induction K with
      | nil => simp
      | cons d K ih =>
        rw [List.flatMap_cons, List.length_append, List.length_cons, Nat.succ_mul]
        have := List.length_filterMap_le (meetK d) (List.map rowD M)
        rw [List.length_map] at this
        omega
    have h1 := gen (L.map rowD)
    rw [List.length_map] at h1
    have := Nat.mul_le_mul lA lB
    omega
  generalize List.flatMap (fun d => List.filterMap (meetK d) (List.map rowD M)) (List.map rowD L) = R at *
  refine lcL_run (fun s => ∃ o14, s = [t0, t1, t2, g3, .va (.int P), x5, g6, x7, .va (.list (L.map rowD)), .va (.list (M.map rowD)), .va (.list R), .no, .no, .no, o14]) kSome _ ?_ _ [] ⟨_, rfl⟩ (by simp only [List.length_nil]; omega) ?_
  · rintro d hd s ⟨o14, rfl⟩ Y N2 hY hN2
    simp only [swipe]
    cases d with
    | none =>
      walk_at "rdn"
      exact hN2 _ rfl ⟨_, rfl⟩
    | _ =>
      walk_at "rdn"
      exact hY _ _ rfl ⟨_, rfl⟩
  · rintro s ⟨o14, rfl⟩
    rw [List.nil_append, raw]
    exact q
section
variable {P : Program} {w : World} {K : PySem.W.Frag} {mg : Str → Option Value} {base : Heap} {CN : String → Option Addr}
theorem ok__meetings {f : Addr} {fd : FuncData} (F : Fun K "_meetings" "_meetings" s__meetings f fd) (g : G K mg CN) (c__both : CalP P w K mg base CN 4 "_both" D__both) (c__gaps : CalP P w K mg base CN 1 "_gaps" D__gaps) (c__same_numbers : CalP P w K mg base CN 1 "_same_numbers" D__same_numbers) : FnG P w K mg base 5 f fd ["table", "shot", "other"] (spP K CN D__meetings) := by
  have sc := sc__meetings
  exact fun_okP (m := m__meetings) F sc (by decide) len__meetings (fun cdv A outer s H E C W hw hr tk =>
    (pds_cons (pds_asg (ps_asg (pd_call c__gaps hr (by decide) tk (pda_cons (dv 0) (pda_cons (dv 1) (pda_cons (dv 2) pda_nil)))) (dg 3 sc.nd)))
    (pds_cons (pds_asg (ps_asg pd_int (dg 4 sc.nd)))
    (pds_cons (pds_for (ps_for psw rfl (pdi_seq (dv 3)) (pdg_tup rfl (gcons (dg 5 sc.nd) (gcons (dg 6 sc.nd) pdgs_nil))) (pds_one (pds_for (ps_for psw rfl (pdi_seq (dv 6)) (pdg_tup rfl (gcons (dg 5 sc.nd) (gcons (dg 7 sc.nd) pdgs_nil))) (pds_one (pds_if (pdt_cmp (or_neD (RoomG.u64 hr)) rl_ne (dv 7) pd_int (nomark _)) (pds_one (pds_asg (ps_asg (pd_lcm g.b_lcm (pda_cons (dv 4) (pda_cons (dv 7) pda_nil))) (dg 4 sc.nd)))) pds_nil)))))))
    (pds_cons (pds_asg (ps_asg (pd_lc (pe_lc (own := [("circle", 11), ("pairs", 6)]) rfl sc.nd (pdi_seq (dv 3)) (blkOk_by (N := ["table", "shot", "other", "gaps", "parts", "_", "pairs", "speed", "across", "along", "meetings", "circle", "one", "other_one", "meeting"]) (sc := (defScope s__meetings)) (by decide +kernel)) (fun _ _ _ _ _ => (pdgv_tup rfl (gvcons (dgv 11 (vs := [11, 6]) sc.nd) (gvcons (dgv 6 (vs := [11, 6]) sc.nd) pdgsv_nil)))) (fun _ _ _ _ _ => pdts_nil) (fun _ _ _ _ _ => (pd_call c__same_numbers hr (by decide) takesF (pda_cons (dv 11) (pda_cons (dv 6) (pda_cons (dv 4) pda_nil))))))) (pdg_tup rfl (gcons (dg 8 sc.nd) (gcons (dg 9 sc.nd) pdgs_nil)))))
    (pds_cons (pds_setLc2 (by decide) (ps_setLc2 (i := 10) (own := [("one", 12), ("other_one", 13)]) rfl sc.nd rfl rfl rfl (pdi_seq (dv 8)) (blkOk_by (N := ["table", "shot", "other", "gaps", "parts", "_", "pairs", "speed", "across", "along", "meetings", "circle", "one", "other_one", "meeting"]) (sc := (defScope s__meetings)) (by decide +kernel)) (by decide) (fun _ _ _ _ _ => (dgv 12 (vs := [12, 13]) sc.nd)) (fun _ _ _ _ _ => pdts_nil) (fun _ _ _ _ _ => (pdi_seq (dv 9))) (fun _ _ _ _ _ => (dgv 13 (vs := [13]) sc.nd)) (fun _ _ _ _ _ => pdts_nil) (fun _ _ _ _ _ => (pd_call c__both hr (by decide) takesF (pda_cons (dv 12) (pda_cons (dv 13) pda_nil))))))
    (pds_one (pds_ret (pdr_of (pd_tup (pda_cons (dv 4) (pda_cons (pd_lc (pe_lc (own := [("meeting", 14)]) rfl sc.nd (pdi_seq (dv 10)) (blkOk_by (N := ["table", "shot", "other", "gaps", "parts", "_", "pairs", "speed", "across", "along", "meetings", "circle", "one", "other_one", "meeting"]) (sc := (defScope s__meetings)) (by decide +kernel)) (fun _ _ _ _ _ => (dgv 14 (vs := [14]) sc.nd)) (fun _ _ _ _ _ => (pdts_one (pdt_cmp op_notN rl_notN (dv 14) pd_non (nomark _)))) (fun _ _ _ _ _ => (dv 14)))) pda_nil)))))))))))) rd__meetings
end
end LW
namespace LW
open PySem PySem.Spec PyProof.Rows L2 DL
/-- a table and a shot on it, with sizes -/
structure Vd (k : Nat) (a b x y p q : Int) : Prop where
  a1 : 1 ≤ a
  b1 : 1 ≤ b
  x0 : 0 ≤ x
  x1 : x ≤ a
  y0 : 0 ≤ y
  y1 : y ≤ b
  w : p ≠ 0 ∨ q ≠ 0
  za : sz k a
  zb : sz k b
  zx : sz k x
  zy : sz k y
  zp : sz k p
  zq : sz k q
theorem Vd.tab {k : Nat} {a b x y p q : Int} (v : Vd k a b x y p q) : isTab (.tuple [.int a, .int b]) = true := by simp [isTab, v.a1, v.b1]
theorem Vd.shot {k : Nat} {a b x y p q : Int} (v : Vd k a b x y p q) : isShot (.tuple [.int a, .int b]) (.tuple [.int x, .int y, .int p, .int q]) = true := by
  have := v.w
  simp [isShot, v.x0, v.y0, v.x1, v.y1]
  omega
theorem Vd.mono {k l : Nat} {a b x y p q : Int} (v : Vd k a b x y p q) (h : k ≤ l) : Vd l a b x y p q := ⟨v.a1, v.b1, v.x0, v.x1, v.y0, v.y1, v.w, sz_mono v.za h, sz_mono v.zb h, sz_mono v.zx h, sz_mono v.zy h, sz_mono v.zp h, sz_mono v.zq h⟩
end LW
namespace LW
open PySem PySem.Spec PyProof.Rows L2 DL
def m_first_meeting (W : WD) : MS :=
  mSeq (mDrop (mCall D__check_shots W (mCons (mVar 0) (mCons (mVar 1) (mCons (mVar 2) (mNil))))))
  (mSeq (mAsg (mCall D__meetings W (mCons (mVar 0) (mCons (mVar 1) (mCons (mVar 2) (mNil))))) (mgTup 2 (mgCons (mgName 3) (mgCons (mgName 4) (mgNil)))))
  (mSeq (mIf (mT (mOp2 opEq (mCallB bLen (mCons (mVar 4) (mNil))) (mC (.int 0)))) (mRet (mrOf (mC .none))) (mNext))
  (mRet (mrOf (mCall D_fraction_of W (mCons (mCallB bMinL (mCons (mLc (miSeq (mVar 4)) (mgTup 2 (mgCons (mgName 5) (mgCons (mgName 6) (mgNil)))) (mTYes) (mVar 5) [5, 6]) (mNil))) (mCons (mVar 3) (mNil))))))))
/-- the least of the first common numbers, in parts of the time -/
noncomputable def meetM (a b x y p q x2 y2 p2 q2 : Int) : List (Int × Int) := meetL (axisL a (partsN p p2 q q2) x p x2 p2) (axisL b (partsN p p2 q q2) y q y2 q2)
noncomputable def firstM (a b x y p q x2 y2 p2 q2 : Int) : PyData := match minI ((meetM a b x y p q x2 y2 p2 q2).map Prod.fst) with
  | none => .none
  | some k => fracD k (partsN p p2 q q2)
def D_first_meeting : PSpec := fun ds Q _ => ∃ a b x y p q x2 y2 p2 q2, ds = [.tuple [.int a, .int b], .tuple [.int x, .int y, .int p, .int q], .tuple [.int x2, .int y2, .int p2, .int q2]] ∧ Vd 150 a b x y p q ∧ Vd 150 a b x2 y2 p2 q2 ∧ Q (.va (firstM a b x y p q x2 y2 p2 q2))
theorem len_first_meeting : ∀ ds Q E, D_first_meeting ds Q E → ds.length = 3 := by
  rintro _ Q E ⟨a, b, x, y, p, q, x2, y2, p2, q2, rfl, _⟩
  rfl
theorem ints_map : ∀ l : List (Int × Int), ints? (l.map fun u => .int u.1) = some (l.map Prod.fst)
  | [] => rfl
  | u :: l => by
    show (ints? (l.map fun u => .int u.1)).map (u.1 :: ·) = _
    rw [ints_map l]
    rfl
def kFst : PyData → Option PyData
  | .tuple [r, _] => some r
  | _ => none
theorem fst_rows (l : List (Int × Int)) : (l.map rowD).filterMap kFst = l.map fun u => .int u.1 := by
  induction l with
  | nil => rfl
  | cons u l ih => rw [List.map_cons, List.filterMap_cons_some (f := kFst) (a := rowD u) (b := PyData.int u.1) rfl, ih]; rfl
theorem rd_first_meeting : ∀ ds Q E, D_first_meeting ds Q E → m_first_meeting (fun c _ => E c) (endP Q) (slots0 7 ds) := by
  rintro _ Q E ⟨a, b, x, y, p, r, x2, y2, p2, r2, rfl, v, v2, q⟩
  unfold m_first_meeting
  obtain ⟨A1, -, -, A4⟩ := lcmP_facts (P := 1) (v := p - p2) (by decide) (show sz 1 1 by unfold sz; decide) (sz_sub v.zp v2.zp)
  obtain ⟨B1, -, -, B4⟩ := lcmP_facts (v := p + p2) A1 A4 (sz_add v.zp v2.zp)
  obtain ⟨C1, -, -, C4⟩ := lcmP_facts (v := r - r2) B1 B4 (sz_sub v.zq v2.zq)
  obtain ⟨D1, -, -, D4⟩ := lcmP_facts (v := r + r2) C1 C4 (sz_add v.zq v2.zq)
  have hP : lcmP (lcmP (lcmP (lcmP 1 (p - p2)) (p + p2)) (r - r2)) (r + r2) = partsN p p2 r r2 := rfl
  rw [hP] at D1 D4
  refine seq_step fun N hN => ?_
  walk_at "rdn"
  refine ⟨_, _, _, rfl, fun z => absurd (v.tab.symm.trans z) (by decide), fun _ z => absurd (v.shot.symm.trans z) (by decide), fun _ _ z => absurd (v2.shot.symm.trans z) (by decide), fun _ _ _ => ⟨⟨_, rfl⟩, ?_⟩⟩
  subst hN
  refine seq_step fun N hN => ?_
  walk_at "rdn"
  refine ⟨a, b, x, y, p, r, x2, y2, p2, r2, rfl, v.a1, v.b1, ⟨v.za, v.zb, v.zx, v.zy, v.zp, v.zq, v2.zx, v2.zy, v2.zp, v2.zq⟩, _, rfl, ?_⟩
  have em : meetL (axisL a (partsN p p2 r r2) x p x2 p2) (axisL b (partsN p p2 r r2) y r y2 r2) = meetM a b x y p r x2 y2 p2 r2 := rfl
  unfold firstM at q
  rw [em]
  have lm : (meetM a b x y p r x2 y2 p2 r2).length ≤ 4 := by
    unfold meetM meetL
    have gen : ∀ (K M : List (Int × Int)), (K.flatMap fun u => M.filterMap fun w => (meetO u.1 u.2 w.1 w.2).map fun i => (u.1 + u.2 * i, ((Nat.lcm u.2.natAbs w.2.natAbs : Nat) : Int))).length ≤ K.length * M.length := by
      intro K M
      induction K with
      | nil => simp
      | cons u K ih =>
        rw [List.flatMap_cons, List.length_append, List.length_cons, Nat.succ_mul]
        have := List.length_filterMap_le (fun w : Int × Int => (meetO u.1 u.2 w.1 w.2).map fun i => (u.1 + u.2 * i, ((Nat.lcm u.2.natAbs w.2.natAbs : Nat) : Int))) M
        omega
    have ax : ∀ s P x p x2 p2, (axisL s P x p x2 p2).length ≤ 2 := fun s P x p x2 p2 => by
      unfold axisL
      rw [List.length_append]
      exact Nat.add_le_add (sameOne_len _ _ _ _) (sameOne_len _ _ _ _)
    exact Nat.le_trans (gen _ _) (Nat.mul_le_mul (ax _ _ _ _ _ _) (ax _ _ _ _ _ _))
  generalize meetM a b x y p r x2 y2 p2 r2 = M at *
  generalize partsN p p2 r r2 = P at *
  walk_at "rdn"
  subst hN
  cases M with
  | nil =>
    refine seq_step fun N hN => ?_
    refine if_run true (fun Q h => ?_) (fun _ => ?_) (fun hc => by cases hc)
    · walk_at "rdn"
      exact h
    · walk_at "rdn"
      exact q
  | cons u M =>
    refine seq_step fun N hN => ?_
    refine if_run false (fun Q h => ?_) (fun hc => by cases hc) (fun _ => ?_)
    · walk_at "rdn"
      have hl : ((u :: M).map rowD).length ≠ 0 := by simp
      simp only [List.map_cons, List.length_cons] at *
      rw [show decide (((M.map rowD).length + 1 : Nat) = (0 : Int)) = false from decide_eq_false (by omega)]
      exact h
    walk_at "rdn"
    subst hN
    walk_at "rdn"
    refine ⟨rfl, ?_⟩
    have hb : bMinL [.list (((u :: M).map rowD).filterMap kFst)] = some (.int ((M.map Prod.fst).foldl min u.1)) := by
      rw [fst_rows]
      unfold bMinL
      simp only [ints_map]
      rfl
    refine lcL_run (fun s => ∃ x5 x6, s = [.va (.tuple [.int a, .int b]), .va (.tuple [.int x, .int y, .int p, .int r]), .va (.tuple [.int x2, .int y2, .int p2, .int r2]), .va (.int P), .va (.list ((u :: M).map rowD)), x5, x6]) kFst ((u :: M).map rowD) ?_ _ [] ⟨_, _, rfl⟩ ?_ ?_
    · rintro d hd s ⟨x5, x6, rfl⟩ Y N hY hN
      obtain ⟨w, hw, rfl⟩ := List.mem_map.mp hd
      simp only [swipe]
      unfold rowD
      walk_at "rdn"
      exact hY _ _ rfl ⟨_, _, rfl⟩
    · rw [List.length_map]
      simp only [List.length_nil]
      omega
    · rintro s ⟨x5, x6, rfl⟩
      rw [List.nil_append]
      refine ⟨_, hb, ?_⟩
      simp only [sback]
      walk_at "rdn"
      exact ⟨_, P, rfl, D1, sz_mono D4 (by decide), _, rfl, q⟩
section
variable {P : Program} {w : World} {K : PySem.W.Frag} {mg : Str → Option Value} {base : Heap} {CN : String → Option Addr}
theorem ok_first_meeting {f : Addr} {fd : FuncData} (F : Fun K "first_meeting" "first_meeting" s_first_meeting f fd) (g : G K mg CN) (c__check_shots : CalP P w K mg base CN 7 "_check_shots" D__check_shots) (c__meetings : CalP P w K mg base CN 5 "_meetings" D__meetings) (c_fraction_of : CalP P w K mg base CN 1 "fraction_of" D_fraction_of) : FnG P w K mg base 8 f fd ["table", "shot", "other"] (spP K CN D_first_meeting) := by
  have sc := sc_first_meeting
  exact fun_okP (m := m_first_meeting) F sc (by decide) len_first_meeting (fun cdv A outer s H E C W hw hr tk =>
    (pds_cons (pds_drop (pd_call c__check_shots hr (by decide) tk (pda_cons (dv 0) (pda_cons (dv 1) (pda_cons (dv 2) pda_nil)))))
    (pds_cons (pds_asg (ps_asg (pd_call c__meetings hr (by decide) tk (pda_cons (dv 0) (pda_cons (dv 1) (pda_cons (dv 2) pda_nil)))) (pdg_tup rfl (gcons (dg 3 sc.nd) (gcons (dg 4 sc.nd) pdgs_nil)))))
    (pds_cons (pds_if (pdt_cmp (or_eqD (RoomG.u64 hr)) rl_eq (pd_callB cr_len rc_len g.b_len (by decide +kernel) (pda_cons (dv 4) pda_nil)) pd_int (nomark _)) (pds_one (pds_ret (pdr_of pd_non))) pds_nil)
    (pds_one (pds_ret (pdr_of (pd_call c_fraction_of hr (by decide) tk (pda_cons (pd_callB (cr_min rfl) rc_minL g.b_min (by decide +kernel) (pda_cons (pd_lc (pe_lc (own := [("rest", 5), ("_", 6)]) rfl sc.nd (pdi_seq (dv 4)) (blkOk_by (N := ["table", "shot", "other", "parts", "meetings", "rest", "_"]) (sc := (defScope s_first_meeting)) (by decide +kernel)) (fun _ _ _ _ _ => (pdgv_tup rfl (gvcons (dgv 5 (vs := [5, 6]) sc.nd) (gvcons (dgv 6 (vs := [5, 6]) sc.nd) pdgsv_nil)))) (fun _ _ _ _ _ => pdts_nil) (fun _ _ _ _ _ => (dv 5)))) pda_nil)) (pda_cons (dv 3) pda_nil)))))))))) rd_first_meeting
end
def m__law_desk : MS :=
  mSeq (mAsg (mOp2 opAdd (mC (.int 1)) (mCallW dDraw 0 (mCons (mVar 1) (mNil)))) (mgName 2))
  (mSeq (mAsg (mOp2 opIx (mLst (mCons (mOp2 opAdd (mC (.int 1)) (mCallW dDraw 0 (mCons (mVar 1) (mNil)))) (mCons (mVar 2) (mCons (mOp2 opMul (mVar 2) (mC (.int 2))) (mCons (mOp2 opAdd (mC (.int 1)) (mCallW dDraw 0 (mCons (mC (.int 4)) (mNil)))) (mNil)))))) (mCallW dDraw 0 (mCons (mC (.int 4)) (mNil)))) (mgName 3))
  (mRet (mrOf (mTup (mCons (mVar 2) (mCons (mVar 3) (mNil)))))))
theorem log_wide {m : Int} (h1 : 1 ≤ m) (h : m < 2 ^ 200) : m.natAbs.log2 < 9000 := by
  refine (Nat.log2_lt (by omega)).mpr ?_
  have : m.natAbs < 2 ^ 200 := by omega
  exact Nat.lt_of_lt_of_le this (Nat.pow_le_pow_right (by decide) (by decide))
theorem dr {n : Nat} {m : Int} {Q : S → Nat → Prop} (h0 : 1 ≤ n) (h1 : 1 ≤ m) (h2 : m < 2 ^ 200) (k : ∀ r : Int, 0 ≤ r → r < m → Q (.va (.int r)) (n - 1)) : dDraw n [.int m] Q := ⟨m, rfl, h0, h1, log_wide h1 h2, k⟩
theorem small2 {a b : Int} (ha : a.natAbs < 2 ^ 200) (hb : b.natAbs < 2 ^ 200) : small a b = true := by
  have lg : ∀ z : Int, z.natAbs < 2 ^ 200 → z.natAbs.log2 < 200 := fun z hz => by
    by_cases h0 : z.natAbs = 0
    · rw [h0]; decide
    · exact (Nat.log2_lt h0).mpr hz
  unfold small
  have := lg a ha
  have := lg b hb
  exact decide_eq_true (by omega)
def D__law_desk : WSpec := fun n ds Q => ∃ m, ds = [.int m] ∧ 4 ≤ n ∧ 1 ≤ m ∧ m < 2 ^ 150 ∧ ∀ a b n', n ≤ n' + 4 → 1 ≤ a → a ≤ m + 1 → 1 ≤ b → b ≤ 2 * m + 5 → Q (.va (.tuple [.int a, .int b])) n'
theorem len__law_desk : ∀ n ds Q, D__law_desk n ds Q → ds.length + 1 = 2 := by
  rintro n _ Q ⟨d, rfl, _⟩
  rfl
theorem rd__law_desk : ∀ n ds Q, D__law_desk n ds Q → m__law_desk (endW Q) (slotsW 4 n ds) := by
  rintro n _ Q ⟨m, rfl, hn, h1, h2, q⟩
  unfold m__law_desk
  walk_at "rdm"
  refine dr (by omega) h1 (by omega) fun r1 p1 p2 => ?_
  walk_at "rdm"
  refine dr (by omega) h1 (by omega) fun r2 p3 p4 => ?_
  walk_at "rdm"
  rw [if_pos (small2 (by omega) (by omega))]
  walk_at "rdm"
  refine dr (by omega) (by decide) (by decide) fun r3 p5 p6 => ?_
  walk_at "rdm"
  refine dr (by omega) (by decide) (by decide) fun r4 p7 p8 => ?_
  walk_at "rdm"
  have c : r4 = 0 ∨ r4 = 1 ∨ r4 = 2 ∨ r4 = 3 := by omega
  rcases c with rfl | rfl | rfl | rfl <;> walk_at "rdm" <;> exact q _ _ _ (by omega) (by omega) (by omega) (by omega) (by omega)
section
variable {P : Program} {w : World} {K : PySem.W.Frag} {mg : Str → Option Value} {base : Heap} {CN : String → Option Addr}
theorem ok__law_desk {f : Addr} {fd : FuncData} (F : Fun K "_law_desk" "_law_desk" s__law_desk f fd) (g : G K mg CN) (c__law_draw : CalW P w K mg base 1 "_law_draw" dDraw) : FnG P w K mg base 2 f fd ["well", "most"] (spW K D__law_desk) := by
  have sc := sc__law_desk
  exact fun_okW (m := m__law_desk) (CN := CN) F sc (by decide) len__law_desk (fun cdv A outer s H E C hr tk =>
    (pds_cons (pds_asg (ps_asg (pd_op or_add rl_add pd_int (pd_callW c__law_draw hr (by decide) tk (pv 0) (pda_cons (dv 1) pda_nil))) (dg 2 sc.nd)))
    (pds_cons (pds_asg (ps_asg (pd_ix ix_seq rl_ix (pd_lst (pda_cons (pd_op or_add rl_add pd_int (pd_callW c__law_draw hr (by decide) tk (pv 0) (pda_cons (dv 1) pda_nil))) (pda_cons (dv 2) (pda_cons (pd_op or_mul rl_mul (dv 2) pd_int) (pda_cons (pd_op or_add rl_add pd_int (pd_callW c__law_draw hr (by decide) tk (pv 0) (pda_cons pd_int pda_nil))) pda_nil))))) (pd_callW c__law_draw hr (by decide) tk (pv 0) (pda_cons pd_int pda_nil))) (dg 3 sc.nd)))
    (pds_one (pds_ret (pdr_of (pd_tup (pda_cons (dv 2) (pda_cons (dv 3) pda_nil))))))))) rd__law_desk
end
def m__law_roll : MS :=
  mSeq (mAsg (mOp2 opIx (mLst (mCons (mC (.int 0)) (mCons (mOp2 opIx (mVar 1) (mC (.int 0))) (mCons (mCallW dDraw 0 (mCons (mOp2 opAdd (mOp2 opIx (mVar 1) (mC (.int 0))) (mC (.int 1))) (mNil))) (mNil))))) (mCallB bMin (mCons (mC (.int 2)) (mCons (mCallW dDraw 0 (mCons (mC (.int 5)) (mNil))) (mNil))))) (mgName 3))
  (mSeq (mAsg (mOp2 opIx (mLst (mCons (mC (.int 0)) (mCons (mOp2 opIx (mVar 1) (mC (.int 1))) (mCons (mCallW dDraw 0 (mCons (mOp2 opAdd (mOp2 opIx (mVar 1) (mC (.int 1))) (mC (.int 1))) (mNil))) (mNil))))) (mCallB bMin (mCons (mC (.int 2)) (mCons (mCallW dDraw 0 (mCons (mC (.int 5)) (mNil))) (mNil))))) (mgName 4))
  (mSeq (mAsgM [5, 6] [mrOf (mOp2 opSub (mCallW dDraw 0 (mCons (mOp2 opAdd (mOp2 opMul (mC (.int 2)) (mVar 2)) (mC (.int 1))) (mNil))) (mVar 2)), mrOf (mOp2 opSub (mCallW dDraw 0 (mCons (mOp2 opAdd (mOp2 opMul (mC (.int 2)) (mVar 2)) (mC (.int 1))) (mNil))) (mVar 2))])
  (mSeq (mIf (mT (mOp2 opEq (mCallW dDraw 0 (mCons (mC (.int 8)) (mNil))) (mC (.int 0)))) (mAsg (mC (.int 0)) (mgName 5)) (mIf (mT (mOp2 opEq (mCallW dDraw 0 (mCons (mC (.int 8)) (mNil))) (mC (.int 0)))) (mAsg (mC (.int 0)) (mgName 6)) (mNext)))
  (mRet (mrOf (mIfE (mT (mOp2 opNe (mTup (mCons (mVar 5) (mCons (mVar 6) (mNil)))) (mTup (mCons (mC (.int 0)) (mCons (mC (.int 0)) (mNil)))))) (mTup (mCons (mVar 3) (mCons (mVar 4) (mCons (mVar 5) (mCons (mVar 6) (mNil)))))) (mTup (mCons (mVar 3) (mCons (mVar 4) (mCons (mC (.int 1)) (mCons (mC (.int 1)) (mNil))))))))))))
theorem opNe_tt {a b c e : Int} : opNe (.tuple [.int a, .int b]) (.tuple [.int c, .int e]) = some (.bool (!(decide (a = c) && decide (b = e)))) := by
  unfold opNe SeqAt.shaped
  simp [PyData.canLay0, PyData.canLayAll0, PyData.depth, PyData.depthAll, PyData.eqv, PyData.eqvAll]
  by_cases h : a = c <;> by_cases h2 : b = e <;> simp [h, h2]
def D__law_roll : WSpec := fun n ds Q => ∃ a b m, ds = [.tuple [.int a, .int b], .int m] ∧ 10 ≤ n ∧ 1 ≤ a ∧ a < 2 ^ 150 ∧ 1 ≤ b ∧ b < 2 ^ 150 ∧ 1 ≤ m ∧ m < 2 ^ 150 ∧
  ∀ x y p q n', n ≤ n' + 10 → 0 ≤ x → x ≤ a → 0 ≤ y → y ≤ b → (-m - 1 ≤ p ∧ p ≤ m + 1) → (-m - 1 ≤ q ∧ q ≤ m + 1) → (p ≠ 0 ∨ q ≠ 0) → Q (.va (.tuple [.int x, .int y, .int p, .int q])) n'
theorem len__law_roll : ∀ n ds Q, D__law_roll n ds Q → ds.length + 1 = 3 := by
  rintro n _ Q ⟨a, b, m, rfl, _⟩
  rfl
theorem rd__law_roll : ∀ n ds Q, D__law_roll n ds Q → m__law_roll (endW Q) (slotsW 7 n ds) := by
  rintro n _ Q ⟨a, b, m, rfl, hn, a1, a2, b1, b2, m1, m2, q⟩
  unfold m__law_roll
  walk_at "rdm"
  refine dr (by omega) (by omega) (by omega) fun r1 p1 p2 => ?_
  walk_at "rdm"
  refine dr (by omega) (by decide) (by decide) fun r2 p3 p4 => ?_
  walk_at "rdm"
  obtain ⟨x, e1, x0, x1⟩ : ∃ x : Int, DL.atI [PyData.int 0, .int a, .int r1] (if r2 < 2 then r2 else 2) = some (.int x) ∧ 0 ≤ x ∧ x ≤ a := by
    have c : r2 = 0 ∨ r2 = 1 ∨ 2 ≤ r2 := by omega
    rcases c with rfl | rfl | c
    · exact ⟨0, rfl, by omega, by omega⟩
    · exact ⟨a, rfl, by omega, by omega⟩
    · rw [if_neg (by omega)]
      exact ⟨r1, rfl, by omega, by omega⟩
  rw [e1]
  walk_at "rdm"
  refine dr (by omega) (by omega) (by omega) fun r3 p5 p6 => ?_
  walk_at "rdm"
  refine dr (by omega) (by decide) (by decide) fun r4 p7 p8 => ?_
  walk_at "rdm"
  obtain ⟨y, e2, y0, y1⟩ : ∃ y : Int, DL.atI [PyData.int 0, .int b, .int r3] (if r4 < 2 then r4 else 2) = some (.int y) ∧ 0 ≤ y ∧ y ≤ b := by
    have c : r4 = 0 ∨ r4 = 1 ∨ 2 ≤ r4 := by omega
    rcases c with rfl | rfl | c
    · exact ⟨0, rfl, by omega, by omega⟩
    · exact ⟨b, rfl, by omega, by omega⟩
    · rw [if_neg (by omega)]
      exact ⟨r3, rfl, by omega, by omega⟩
  rw [e2]
  walk_at "rdm"
  rw [if_pos (small2 (by decide) (by omega))]
  walk_at "rdm"
  refine dr (by omega) (by omega) (by omega) fun r5 p9 p10 => ?_
  walk_at "rdm"
  refine dr (by omega) (by omega) (by omega) fun r6 p11 p12 => ?_
  walk_at "rdm"
  refine dr (by omega) (by decide) (by decide) fun r7 p13 p14 => ?_
  walk_at "rdm"
  have fin : ∀ (p r : Int) (n' : Nat), n ≤ n' + 10 → (-m - 1 ≤ p ∧ p ≤ m + 1) → (-m - 1 ≤ r ∧ r ≤ m + 1) → ∃ z, opNe (.tuple [.int p, .int r]) (.tuple [.int 0, .int 0]) = some z ∧ ∃ c, z = .bool c ∧
      if c = true then Q (.va (.tuple [.int x, .int y, .int p, .int r])) n' else Q (.va (.tuple [.int x, .int y, .int 1, .int 1])) n' := by
    intro p r n' hn' hp hr
    refine ⟨_, opNe_tt, _, rfl, ?_⟩
    by_cases hz : p = 0 ∧ r = 0
    · rw [if_neg (by simp [hz.1, hz.2])]
      exact q _ _ _ _ _ hn' x0 x1 y0 y1 (by omega) (by omega) (by omega)
    · rw [if_pos (by simp only [Bool.not_eq_true', Bool.and_eq_false_imp, decide_eq_true_eq, decide_eq_false_iff_not]; omega)]
      exact q _ _ _ _ _ hn' x0 x1 y0 y1 hp hr (by omega)
  by_cases h7 : r7 = 0
  · rw [if_pos (decide_eq_true h7)]
    exact fin _ _ _ (by omega) (by omega) (by omega)
  · rw [if_neg (by simpa using h7)]
    refine dr (by omega) (by decide) (by decide) fun r8 p15 p16 => ?_
    walk_at "rdm"
    by_cases h8 : r8 = 0
    · rw [if_pos (decide_eq_true h8)]
      exact fin _ _ _ (by omega) (by omega) (by omega)
    · rw [if_neg (by simpa using h8)]
      exact fin _ _ _ (by omega) (by omega) (by omega)
section
variable {P : Program} {w : World} {K : PySem.W.Frag} {mg : Str → Option Value} {base : Heap} {CN : String → Option Addr}
theorem ok__law_roll {f : Addr} {fd : FuncData} (F : Fun K "_law_roll" "_law_roll" s__law_roll f fd) (g : G K mg CN) (c__law_draw : CalW P w K mg base 1 "_law_draw" dDraw) : FnG P w K mg base 2 f fd ["well", "desk", "most"] (spW K D__law_roll) := by
  have sc := sc__law_roll
  exact fun_okW (m := m__law_roll) (CN := CN) F sc (by decide) len__law_roll (fun cdv A outer s H E C hr tk =>
    (pds_cons (pds_asg (ps_asg (pd_ix ix_seq rl_ix (pd_lst (pda_cons pd_int (pda_cons (pd_ix ix_seq rl_ix (dv 1) pd_int) (pda_cons (pd_callW c__law_draw hr (by decide) tk (pv 0) (pda_cons (pd_op or_add rl_add (pd_ix ix_seq rl_ix (dv 1) pd_int) pd_int) pda_nil)) pda_nil)))) (pd_callB (call_min2 rfl) rc_min g.b_min (by decide +kernel) (pda_cons pd_int (pda_cons (pd_callW c__law_draw hr (by decide) tk (pv 0) (pda_cons pd_int pda_nil)) pda_nil)))) (dg 3 sc.nd)))
    (pds_cons (pds_asg (ps_asg (pd_ix ix_seq rl_ix (pd_lst (pda_cons pd_int (pda_cons (pd_ix ix_seq rl_ix (dv 1) pd_int) (pda_cons (pd_callW c__law_draw hr (by decide) tk (pv 0) (pda_cons (pd_op or_add rl_add (pd_ix ix_seq rl_ix (dv 1) pd_int) pd_int) pda_nil)) pda_nil)))) (pd_callB (call_min2 rfl) rc_min g.b_min (by decide +kernel) (pda_cons pd_int (pda_cons (pd_callW c__law_draw hr (by decide) tk (pv 0) (pda_cons pd_int pda_nil)) pda_nil)))) (dg 4 sc.nd)))
    (pds_cons (pds_par2 (ps_par2 (i := 5) (j := 6) rfl sc.nd rfl rfl (by decide) rfl rfl (pdar_cons (pdr_of (pd_op op_sub rl_sub (pd_callW c__law_draw hr (by decide) tk (pv 0) (pda_cons (pd_op or_add rl_add (pd_op or_mul rl_mul pd_int (dv 2)) pd_int) pda_nil)) (dv 2))) (pdar_cons (pdr_of (pd_op op_sub rl_sub (pd_callW c__law_draw hr (by decide) tk (pv 0) (pda_cons (pd_op or_add rl_add (pd_op or_mul rl_mul pd_int (dv 2)) pd_int) pda_nil)) (dv 2))) pdar_nil)) rfl))
    (pds_cons (pds_if (pdt_cmp (or_eqD (RoomG.u64 hr)) rl_eq (pd_callW c__law_draw hr (by decide) tk (pv 0) (pda_cons pd_int pda_nil)) pd_int (nomark _)) (pds_one (pds_asg (ps_asg pd_int (dg 5 sc.nd)))) (pds_one (pds_if (pdt_cmp (or_eqD (RoomG.u64 hr)) rl_eq (pd_callW c__law_draw hr (by decide) tk (pv 0) (pda_cons pd_int pda_nil)) pd_int (nomark _)) (pds_one (pds_asg (ps_asg pd_int (dg 6 sc.nd)))) pds_nil)))
    (pds_one (pds_ret (pdr_of (pd_ifE (pdt_cmp (or_neD (RoomG.u64 hr)) rl_ne (pd_tup (pda_cons (dv 5) (pda_cons (dv 6) pda_nil))) (pd_tup (pda_cons pd_int (pda_cons pd_int pda_nil))) (nomark _)) (pd_tup (pda_cons (dv 3) (pda_cons (dv 4) (pda_cons (dv 5) (pda_cons (dv 6) pda_nil))))) (pd_tup (pda_cons (dv 3) (pda_cons (dv 4) (pda_cons pd_int (pda_cons pd_int pda_nil)))))))))))))) rd__law_roll
end
end LW
namespace LW
open PySem PySem.Spec PyProof.Rows L2 DL
/-- a ball: a shot on a table -/
abbrev ballD (t v : PyData) : PyData := objD "Ball" [.tuple [.str "_table", t], .tuple [.str "_shot", v]]
theorem ball_table (t v : PyData) : opAttr "Ball" "_table" (ballD t v) = some t := by
  show (if (Str.ofString "Ball") = Str.ofString "Ball" then fget "_table" _ else none) = _
  rw [if_pos rfl]
  show (if (Str.ofString "_table") = Str.ofString "_table" then some t else _) = _
  rw [if_pos rfl]
theorem ball_shot (t v : PyData) : opAttr "Ball" "_shot" (ballD t v) = some v := by
  show (if (Str.ofString "Ball") = Str.ofString "Ball" then fget "_shot" _ else none) = _
  rw [if_pos rfl]
  show (if (Str.ofString "_shot") = Str.ofString "_table" then some t else (if (Str.ofString "_shot") = Str.ofString "_shot" then some v else _)) = _
  rw [if_neg (by decide), if_pos rfl]
end LW
namespace LW
open PySem PySem.Spec PyProof.Rows L2 DL
def m_Ball_and (W : WD) : MS :=
  mSeq (mIf (mTNot (mT (mOp1 (bIsC "Ball") (mVar 1)))) (mRaise "NotABall" W) (mNext))
  (mSeq (mIf (mT (mOp2 opNe (mOp1 (opAttr "Ball" "_table") (mVar 0)) (mOp1 (opAttr "Ball" "_table") (mVar 1)))) (mRaise "OtherTable" W) (mNext))
  (mRet (mrOf (mCall D_first_meeting W (mCons (mOp1 (opAttr "Ball" "_table") (mVar 0)) (mCons (mOp1 (opAttr "Ball" "_shot") (mVar 0)) (mCons (mOp1 (opAttr "Ball" "_shot") (mVar 1)) (mNil))))))))
def D_Ball_and : PSpec := fun ds Q E => ∃ a b x y p q z, ds = [ballD (.tuple [.int a, .int b]) (.tuple [.int x, .int y, .int p, .int q]), z] ∧
  ((bIsC "Ball" z = some (.bool false) ∧ E "NotABall") ∨ ∃ a2 b2 x2 y2 p2 q2, z = ballD (.tuple [.int a2, .int b2]) (.tuple [.int x2, .int y2, .int p2, .int q2]) ∧
    ((¬ (a = a2 ∧ b = b2) ∧ E "OtherTable") ∨ (a = a2 ∧ b = b2 ∧ Vd 150 a b x y p q ∧ Vd 150 a b x2 y2 p2 q2 ∧ Q (.va (firstM a b x y p q x2 y2 p2 q2)))))
theorem len_Ball_and : ∀ ds Q E, D_Ball_and ds Q E → ds.length = 2 := by
  rintro _ Q E ⟨a, b, x, y, p, q, z, rfl, _⟩
  rfl
theorem rd_Ball_and : ∀ ds Q E, D_Ball_and ds Q E → m_Ball_and (fun c _ => E c) (endP Q) (slots0 2 ds) := by
  rintro _ Q E ⟨a, b, x, y, p, q, z, rfl, h⟩
  unfold m_Ball_and
  refine seq_step fun N hN => ?_
  walk_at "rdn"
  rcases h with ⟨hz, h⟩ | ⟨a2, b2, x2, y2, p2, q2, rfl, h⟩
  · refine ⟨_, hz, _, rfl, ?_⟩
    rw [if_pos (by decide)]
    exact h
  refine ⟨_, isC_obj, _, rfl, ?_⟩
  rw [if_neg (by decide)]
  subst hN
  refine seq_step fun N hN => ?_
  walk_at "rdn"
  refine ⟨_, ball_table _ _, _, ball_table _ _, _, opNe_tt, _, rfl, ?_⟩
  rcases h with ⟨n, h⟩ | ⟨rfl, rfl, v, v2, h⟩
  · have : (!(decide (a = a2) && decide (b = b2))) = true := by
      by_cases c : a = a2 <;> by_cases c2 : b = b2 <;> simp [c, c2]
      exact n ⟨c, c2⟩
    rw [this, if_pos rfl]
    exact h
  rw [if_neg (by simp)]
  subst hN
  walk_at "rdn"
  exact ⟨_, ball_table _ _, _, ball_shot _ _, _, ball_shot _ _, a, b, x, y, p, q, x2, y2, p2, q2, rfl, v, v2, _, rfl, h⟩
section
variable {P : Program} {w : World} {K : PySem.W.Frag} {mg : Str → Option Value} {base : Heap} {CN : String → Option Addr}
theorem ok_Ball_and {f : Addr} {fd : FuncData} (F : Fun K "__and__" "Ball.__and__" s_Ball_and f fd) (g : G K mg CN) (c_first_meeting : CalP P w K mg base CN 8 "first_meeting" D_first_meeting) : FnG P w K mg base 9 f fd ["self", "other"] (spP K CN D_Ball_and) := by
  obtain ⟨e_NotABall, n_NotABall, t_NotABall⟩ := g.x_NotABall
  obtain ⟨e_OtherTable, n_OtherTable, t_OtherTable⟩ := g.x_OtherTable
  have sc := sc_Ball_and
  exact fun_okP (m := m_Ball_and) F sc (by decide) len_Ball_and (fun cdv A outer s H E C W hw hr tk =>
    (pds_cons (pds_if (pdt_not (pdt_val (pd_isC g.b_isinstance g.kc_Ball (dv 1)))) (pds_one (pds_raise rfl tk t_NotABall n_NotABall)) pds_nil)
    (pds_cons (pds_if (pdt_cmp (or_neD (RoomG.u64 hr)) rl_ne (pd_attr g.na_Ball__table (dv 0)) (pd_attr g.na_Ball__table (dv 1)) (nomark _)) (pds_one (pds_raise rfl tk t_OtherTable n_OtherTable)) pds_nil)
    (pds_one (pds_ret (pdr_of (pd_call c_first_meeting hr (by decide) tk (pda_cons (pd_attr g.na_Ball__table (dv 0)) (pda_cons (pd_attr g.na_Ball__shot (dv 0)) (pda_cons (pd_attr g.na_Ball__shot (dv 1)) pda_nil)))))))))) rd_Ball_and
end
end LW
namespace LW
open PySem PySem.Spec PyProof.Rows L2 DL
def m_Ball_call (W : WD) : MS :=
  mRet (mrOf (mCall D_place_at W (mCons (mOp1 (opAttr "Ball" "_table") (mVar 0)) (mCons (mOp1 (opAttr "Ball" "_shot") (mVar 0)) (mCons (mVar 1) (mNil))))))
def D_Ball_call : PSpec := fun ds Q E => ∃ t v f, ds = [ballD t v, f] ∧ D_place_at [t, v, f] Q E
theorem len_Ball_call : ∀ ds Q E, D_Ball_call ds Q E → ds.length = 2 := by
  rintro _ Q E ⟨t, v, f, rfl, _⟩
  rfl
theorem rd_Ball_call : ∀ ds Q E, D_Ball_call ds Q E → m_Ball_call (fun c _ => E c) (endP Q) (slots0 2 ds) := by
  rintro _ Q E ⟨t, v, f, rfl, h⟩
  unfold m_Ball_call
  walk_at "rdn"
  refine ⟨_, ball_table _ _, _, ball_shot _ _, ?_⟩
  obtain ⟨t', v', f', e, q1, q2, q3, q4⟩ := h
  cases e
  refine ⟨t, v, f, rfl, q1, q2, q3, fun h1 h2 h3 => ?_⟩
  obtain ⟨a, b, c, d⟩ := q4 h1 h2 h3
  exact ⟨a, b, c, _, rfl, d⟩
section
variable {P : Program} {w : World} {K : PySem.W.Frag} {mg : Str → Option Value} {base : Heap} {CN : String → Option Addr}
theorem ok_Ball_call {f : Addr} {fd : FuncData} (F : Fun K "__call__" "Ball.__call__" s_Ball_call f fd) (g : G K mg CN) (c_place_at : CalP P w K mg base CN 8 "place_at" D_place_at) : FnG P w K mg base 9 f fd ["self", "time"] (spP K CN D_Ball_call) := by
  have sc := sc_Ball_call
  exact fun_okP (m := m_Ball_call) F sc (by decide) len_Ball_call (fun cdv A outer s H E C W hw hr tk =>
    (pds_one (pds_ret (pdr_of (pd_call c_place_at hr (by decide) tk (pda_cons (pd_attr g.na_Ball__table (dv 0)) (pda_cons (pd_attr g.na_Ball__shot (dv 0)) (pda_cons (dv 1) pda_nil)))))))) rd_Ball_call
end
end LW
namespace LW
open PySem PySem.Spec PyProof.Rows L2 DL
def m_Ball_init (W : WD) : MS :=
  mSeq (mDrop (mCall D_check_shot W (mCons (mVar 1) (mCons (mVar 2) (mNil)))))
  (mSeq (mSetF 0 "Ball" "_table" (mVar 1))
  (mSetF 0 "Ball" "_shot" (mVar 2)))
def D_Ball_init : OSpec := fun es ds Q E => ∃ t v, es = [] ∧ ds = [t, v] ∧ (isTab t = false → E "InvalidTable" []) ∧ (isTab t = true → isShot t v = false → E "InvalidShot" []) ∧ (isTab t = true → isShot t v = true → Q (.va .none) [.tuple [.str "_table", t], .tuple [.str "_shot", v]])
theorem len_Ball_init : ∀ es ds Q E, D_Ball_init es ds Q E → ds.length + 1 = 3 := by
  rintro es _ Q E ⟨t, v, _, rfl, _⟩
  rfl
theorem rd_Ball_init : ∀ es ds Q E, D_Ball_init es ds Q E → m_Ball_init (fun cn sd => ∃ es', sget sd 0 = .ins "Ball" es' ∧ E cn es') (endO "Ball" Q) (slotsO 3 "Ball" es ds) := by
  rintro _ _ Q E ⟨t, v, rfl, rfl, q1, q2, q3⟩
  unfold m_Ball_init
  show mSeq _ _ _ [.ins "Ball" [], .va t, .va v]
  refine seq_step fun N hN => ?_
  walk_at "rdn"
  refine ⟨t, v, rfl, fun h => ⟨_, rfl, q1 h⟩, fun h1 h2 => ⟨_, rfl, q2 h1 h2⟩, fun h1 h2 => ⟨⟨_, rfl⟩, ?_⟩⟩
  subst hN
  refine seq_step fun N hN => ?_
  simp only [mSetF, mVar, sget, sset]
  refine ⟨[], rfl, by decide, ?_⟩
  subst hN
  simp only [mSetF, mVar, sget, sset]
  exact ⟨_, rfl, Nat.lt_of_lt_of_le (show 1 < 2 by decide) (by decide), _, rfl, q3 h1 h2⟩
theorem ball_new {t v : PyData} {Q : S → List PyData → Prop} {E : String → List PyData → Prop} (h1 : isTab t = true) (h2 : isShot t v = true) (q : Q (.va .none) [.tuple [.str "_table", t], .tuple [.str "_shot", v]]) : D_Ball_init [] [t, v] Q E :=
  ⟨t, v, rfl, rfl, fun h => (by rw [h1] at h; cases h), fun _ h => (by rw [h2] at h; cases h), fun _ _ => q⟩
section
variable {P : Program} {w : World} {K : PySem.W.Frag} {mg : Str → Option Value} {base : Heap} {CN : String → Option Addr}
theorem ok_Ball_init {f : Addr} {fd : FuncData} (F : Fun K "__init__" "Ball.__init__" s_Ball_init f fd) (g : G K mg CN) (c_check_shot : CalP P w K mg base CN 6 "check_shot" D_check_shot) : FnG P w K mg base 7 f fd ["self", "table", "shot"] (spO K CN "Ball" D_Ball_init) := by
  have sc := sc_Ball_init
  exact fun_okO (m := m_Ball_init) F sc (by decide) len_Ball_init (fun cdv A outer s H E C W hr tk =>
    (pds_cons (pds_drop (pd_call c_check_shot hr (by decide) tk (pda_cons (dv 1) (pda_cons (dv 2) pda_nil))))
    (pds_cons (pds_setF g.na_Ball__table (pv 0) (dv 1))
    (pds_one (pds_setF g.na_Ball__shot (pv 0) (dv 2)))))) rd_Ball_init
end
end LW
namespace LW
open PySem PySem.Spec PyProof.Rows L2 DL
/-- numbers, texts, none, and lists and tuples of these, not deep -/
def sd : Nat → PyData → Bool
  | 0, _ => false
  | j + 1, .list xs => decide (xs.length ≤ 1000) && xs.all (sd j)
  | j + 1, .tuple xs => decide (xs.length ≤ 1000) && xs.all (sd j)
  | _ + 1, .int _ => true
  | _ + 1, .none => true
  | _ + 1, .bool _ => true
  | _ + 1, .str z => PyData.strOk z
  | _ + 1, _ => false
theorem eqv_all {xs : List PyData} (h : ∀ x ∈ xs, PyData.eqv x x = true) : PyData.eqvAll xs xs = true := by
  induction xs with
  | nil => rfl
  | cons x xs ih => simp [PyData.eqvAll, h x (by simp), ih fun y hy => h y (by simp [hy])]
theorem lay_all {xs : List PyData} {j : Nat} (h : ∀ x ∈ xs, x.canLay0 = true ∧ x.depth ≤ j) : PyData.canLayAll0 xs = true ∧ PyData.depthAll xs ≤ j := by
  induction xs with
  | nil => exact ⟨rfl, by simp [PyData.depthAll]⟩
  | cons x xs ih =>
    have h1 := h x (by simp)
    have h2 := ih fun y hy => h y (by simp [hy])
    refine ⟨by simp [PyData.canLayAll0, h1.1, h2.1], ?_⟩
    simp only [PyData.depthAll]
    omega
theorem sd_ok : ∀ (j : Nat) (d : PyData), sd j d = true → d.canLay0 = true ∧ d.depth ≤ j ∧ PyData.eqv d d = true
  | 0, _, h => by cases h
  | j + 1, .list xs, h => by
    simp only [sd, Bool.and_eq_true, List.all_eq_true] at h
    have ih : ∀ x ∈ xs, _ := fun x hx => sd_ok j x (h.2 x hx)
    have a := lay_all (xs := xs) (j := j) fun x hx => ⟨(ih x hx).1, (ih x hx).2.1⟩
    refine ⟨by simp [PyData.canLay0, a.1], by simp only [PyData.depth]; omega, ?_⟩
    simp only [PyData.eqv]
    exact eqv_all fun x hx => (ih x hx).2.2
  | j + 1, .tuple xs, h => by
    simp only [sd, Bool.and_eq_true, List.all_eq_true] at h
    have ih : ∀ x ∈ xs, _ := fun x hx => sd_ok j x (h.2 x hx)
    have a := lay_all (xs := xs) (j := j) fun x hx => ⟨(ih x hx).1, (ih x hx).2.1⟩
    refine ⟨by simp [PyData.canLay0, a.1], by simp only [PyData.depth]; omega, ?_⟩
    simp only [PyData.eqv]
    exact eqv_all fun x hx => (ih x hx).2.2
  | j + 1, .int i, _ => ⟨rfl, by simp [PyData.depth], by simp [PyData.eqv]⟩
  | j + 1, .none, _ => ⟨rfl, by simp [PyData.depth], by simp [PyData.eqv]⟩
  | j + 1, .bool b, _ => ⟨rfl, by simp [PyData.depth], by simp [PyData.eqv]⟩
  | j + 1, .str z, h => ⟨by simpa [PyData.canLay0, sd] using h, by simp [PyData.depth], by simp [PyData.eqv]⟩
  | j + 1, .dict kvs, h => by simp [sd] at h
theorem opEq_self {j : Nat} {d : PyData} (hj : j ≤ 60) (h : sd j d = true) : opEq d d = some (.bool true) := by
  have k := sd_ok j d h
  have e : SeqAt.shaped d = true := by
    unfold SeqAt.shaped
    rw [k.1, decide_eq_true (by omega)]
    rfl
  unfold opEq
  rw [e, k.2.2]
  rfl
theorem opNe_self {j : Nat} {d : PyData} (hj : j ≤ 60) (h : sd j d = true) : opNe d d = some (.bool false) := by
  have k := sd_ok j d h
  have e : SeqAt.shaped d = true := by
    unfold SeqAt.shaped
    rw [k.1, decide_eq_true (by omega)]
    rfl
  unfold opNe
  rw [e, k.2.2]
  rfl
end LW
namespace LW
open PySem PySem.Spec PyProof.Rows L2 DL
def m__law_told (W : WD) : MS :=
  mTry (fun Wd => mSeq (mIf (mT (mOp2 opEq (mVar 0) (mC (.int 0)))) (mDrop (mMake "Ball" D_Ball_init Wd (mCons (mVar 2) (mCons (mVar 3) (mNil))))) (mNext))
  (mSeq (mIf (mT (mOp2 opEq (mVar 0) (mC (.int 1)))) (mDrop (mMakeK "Ball" D_Ball_init Wd 2 (fun {α : Type} (ws : List α) => pick ([] : List α) ws [.k 1, .k 0]) (mCons (mVar 3) (mCons (mVar 2) (mNil))))) (mNext))
  (mSeq (mIf (mT (mOp2 opEq (mVar 0) (mC (.int 2)))) (mDrop (mCallME "Ball" D_Ball_call Wd (mVar 1) (mCons (mVar 2) (mNil)))) (mNext))
  (mSeq (mIf (mT (mOp2 opEq (mVar 0) (mC (.int 3)))) (mDrop (mCallMKE "Ball" D_Ball_call Wd (gSel 1 1 [.p 0, .k 0]) (mVar 1) (mCons (mVar 2) (mNil)))) (mNext))
  (mSeq (mIf (mT (mOp2 opEq (mVar 0) (mC (.int 4)))) (mRet (mrOf (mIfE (mT (mOp2 opEq (mBinE "Ball" D_Ball_and Wd (mVar 1) (mVar 2)) (mC (.int 0)))) (mLst (mCons (mC (.str "none")) (mNil))) (mC (.str "none"))))) (mNext))
  (mRet (mrOf (mC (.str "none"))))))))) 5 (fun c => isSub c "ShotError") (fun c a => mSeq (mAsgR 4 (mrLst (mCons (mIsE 5 a (isSub c "InvalidTable")) (mCons (mIsE 5 a (isSub c "InvalidShot")) (mNil)))))
  (mSeq (mAsgR 4 (mrCat (mVar 4) (mLst (mCons (mIsE 5 a (isSub c "InvalidTime")) (mCons (mIsE 5 a (isSub c "NotABall")) (mNil))))))
  (mSeq (mApp 4 (mIsE 5 a (isSub c "OtherTable")))
  (mSeq (mIf (mTOr (mTNot (mT (mIsE 5 a (isSub c "ValueError")))) (mT (mOp2 opNe (mMeth opCnt (mVar 4) (mC (.bool true))) (mC (.int 1))))) (mRet (mrOf (mC (.str "other")))) (mNext))
  (mRet (mrOf (mOp2 opIx (mLst (mCons (mC (.str "table")) (mCons (mC (.str "shot")) (mCons (mC (.str "time")) (mCons (mC (.str "ball")) (mCons (mC (.str "unlike")) (mNil))))))) (mMeth opIdx (mVar 4) (mC (.bool true)))))))))) W
/-- what is told of one call -/
def Told35 (w a b x y p q : Int) (X Y : PyData) (r : Str) : Prop :=
  ((w = 0 ∨ w = 1) ∧ ((isTab X = false ∧ r = "table") ∨ (isTab X = true ∧ isShot X Y = false ∧ r = "shot") ∨ (isTab X = true ∧ isShot X Y = true ∧ r = "none"))) ∨
  ((w = 2 ∨ w = 3) ∧ ((isFrac X = false ∧ r = "time") ∨ (isFrac X = true ∧ szD X ∧ r = "none"))) ∨
  (w = 4 ∧ ((bIsC "Ball" X = some (.bool false) ∧ r = "ball") ∨ ∃ a2 b2 x2 y2 p2 q2, X = ballD (.tuple [.int a2, .int b2]) (.tuple [.int x2, .int y2, .int p2, .int q2]) ∧
    ((¬ (a = a2 ∧ b = b2) ∧ r = "unlike") ∨ (a = a2 ∧ b = b2 ∧ Vd 150 a b x2 y2 p2 q2 ∧ r = "none"))))
def D__law_told : PSpec := fun ds Q _ => ∃ w a b x y p q X Y r, ds = [.int w, ballD (.tuple [.int a, .int b]) (.tuple [.int x, .int y, .int p, .int q]), X, Y] ∧ Vd 150 a b x y p q ∧ Told35 w a b x y p q X Y r ∧ Q (.va (.str r))
theorem len__law_told : ∀ ds Q E, D__law_told ds Q E → ds.length = 4 := by
  rintro _ Q E ⟨w, a, b, x, y, p, q, X, Y, r, rfl, _⟩
  rfl
/-- the class that is raised, and the word that tells it -/
def Word35 (c : String) (r : Str) : Prop := (c = "InvalidTable" ∧ r = "table") ∨ (c = "InvalidShot" ∧ r = "shot") ∨ (c = "InvalidTime" ∧ r = "time") ∨ (c = "NotABall" ∧ r = "ball") ∨ (c = "OtherTable" ∧ r = "unlike")
theorem firstM_not0 {a b x y p q x2 y2 p2 q2 : Int} : opEq (firstM a b x y p q x2 y2 p2 q2) (.int 0) = some (.bool false) := by
  unfold firstM
  cases minI ((meetM a b x y p q x2 y2 p2 q2).map Prod.fst) <;> rfl
theorem init35 {X Y : PyData} {r : Str} {Q : S → List PyData → Prop} {E : String → List PyData → Prop} (ht : (isTab X = false ∧ r = "table") ∨ (isTab X = true ∧ isShot X Y = false ∧ r = "shot") ∨ (isTab X = true ∧ isShot X Y = true ∧ r = "none")) (e : ∀ c, Word35 c r → E c []) (q : r = "none" → Q (.va .none) [.tuple [.str "_table", X], .tuple [.str "_shot", Y]]) : D_Ball_init [] [X, Y] Q E := by
  refine ⟨X, Y, rfl, rfl, fun h1 => ?_, fun h1 h2 => ?_, fun h1 h2 => ?_⟩
  · rcases ht with ⟨-, g⟩ | ⟨g1, -, -⟩ | ⟨g1, -, -⟩
    · exact e _ (.inl ⟨rfl, g⟩)
    · rw [h1] at g1; cases g1
    · rw [h1] at g1; cases g1
  · rcases ht with ⟨g1, -⟩ | ⟨-, -, g⟩ | ⟨-, g2, -⟩
    · rw [h1] at g1; cases g1
    · exact e _ (.inr (.inl ⟨rfl, g⟩))
    · rw [h2] at g2; cases g2
  · rcases ht with ⟨g1, -⟩ | ⟨-, g2, -⟩ | ⟨-, -, g⟩
    · rw [h1] at g1; cases g1
    · rw [h2] at g2; cases g2
    · exact q g
theorem call35 {a b x y p q : Int} {X : PyData} {r : Str} {Q : S → Prop} {E : String → Prop} (v : Vd 150 a b x y p q) (ht : (isFrac X = false ∧ r = "time") ∨ (isFrac X = true ∧ szD X ∧ r = "none")) (e : ∀ c, Word35 c r → E c) (h : r = "none" → ∀ d, Q (.va d)) : D_Ball_call [ballD (.tuple [.int a, .int b]) (.tuple [.int x, .int y, .int p, .int q]), X] Q E := by
  have v := v.mono (l := 1000) (by decide)
  refine ⟨_, _, _, rfl, _, _, _, rfl, fun z => absurd (v.tab.symm.trans z) (by decide), fun _ z => absurd (v.shot.symm.trans z) (by decide), fun _ _ h3 => ?_, fun _ _ h3 => ?_⟩
  · rcases ht with ⟨-, g⟩ | ⟨g1, -, -⟩
    · exact e _ (.inr (.inr (.inl ⟨rfl, g⟩)))
    · rw [h3] at g1; cases g1
  · rcases ht with ⟨g1, -⟩ | ⟨-, z, g⟩
    · rw [h3] at g1; cases g1
    · exact ⟨⟨v.za, v.zb⟩, ⟨v.zx, v.zy, v.zp, v.zq⟩, z, h g _⟩
theorem and35 {a b x y p q : Int} {X : PyData} {r : Str} {Q : S → Prop} {E : String → Prop} (v : Vd 150 a b x y p q) (ht : (bIsC "Ball" X = some (.bool false) ∧ r = "ball") ∨ ∃ a2 b2 x2 y2 p2 q2, X = ballD (.tuple [.int a2, .int b2]) (.tuple [.int x2, .int y2, .int p2, .int q2]) ∧
    ((¬ (a = a2 ∧ b = b2) ∧ r = "unlike") ∨ (a = a2 ∧ b = b2 ∧ Vd 150 a b x2 y2 p2 q2 ∧ r = "none"))) (e : ∀ c, Word35 c r → E c) (h : r = "none" → ∀ x2 y2 p2 q2, Q (.va (firstM a b x y p q x2 y2 p2 q2))) : D_Ball_and [ballD (.tuple [.int a, .int b]) (.tuple [.int x, .int y, .int p, .int q]), X] Q E := by
  refine ⟨a, b, x, y, p, q, X, rfl, ?_⟩
  rcases ht with ⟨h1, g⟩ | ⟨a2, b2, x2, y2, p2, q2, rfl, ht⟩
  · exact .inl ⟨h1, e _ (.inr (.inr (.inr (.inl ⟨rfl, g⟩))))⟩
  · refine .inr ⟨a2, b2, x2, y2, p2, q2, rfl, ?_⟩
    rcases ht with ⟨n, g⟩ | ⟨e1, e2, v2, g⟩
    · exact .inl ⟨n, e _ (.inr (.inr (.inr (.inr ⟨rfl, g⟩))))⟩
    · exact .inr ⟨e1, e2, v, v2, h g _ _ _ _⟩
theorem kind35 {X : PyData} {r : Str} {R : Int → Int → Int → Int → Int → Int → Prop} (ht : (bIsC "Ball" X = some (.bool false) ∧ r = "ball") ∨ ∃ a2 b2 x2 y2 p2 q2, X = ballD (.tuple [.int a2, .int b2]) (.tuple [.int x2, .int y2, .int p2, .int q2]) ∧ R a2 b2 x2 y2 p2 q2) : ∃ z, bIsC "Ball" X = some z := by
  rcases ht with ⟨h, -⟩ | ⟨_, _, _, _, _, _, rfl, -⟩
  · exact ⟨_, h⟩
  · exact ⟨_, isC_obj⟩
theorem rd__law_told : ∀ ds Q E, D__law_told ds Q E → m__law_told (fun c _ => E c) (endP Q) (slots0 6 ds) := by
  rintro _ Q E ⟨w, a, b, x, y, p, q, X, Y, r, rfl, v, ht, h⟩
  unfold m__law_told
  refine try_run (fun c s => Word35 c r ∧ s = [.va (.int w), .va (ballD (.tuple [.int a, .int b]) (.tuple [.int x, .int y, .int p, .int q])), .va X, .va Y, .no, .no]) ?_ ?_
  · rintro c s ⟨hc, rfl⟩
    have hs : isSub c "ShotError" = true := by rcases hc with ⟨rfl, rfl⟩ | ⟨rfl, rfl⟩ | ⟨rfl, rfl⟩ | ⟨rfl, rfl⟩ | ⟨rfl, rfl⟩ <;> decide +kernel
    have hv : isSub c "ValueError" = true := by rcases hc with ⟨rfl, rfl⟩ | ⟨rfl, rfl⟩ | ⟨rfl, rfl⟩ | ⟨rfl, rfl⟩ | ⟨rfl, rfl⟩ <;> decide +kernel
    refine ⟨hs, fun a => ?_⟩
    obtain ⟨b0, b1, b2, b3, b4, k, e0, e1, e2, e3, e4, ec, ei, er⟩ : ∃ (b0 b1 b2 b3 b4 : Bool) (k : Int), isSub c "InvalidTable" = b0 ∧ isSub c "InvalidShot" = b1 ∧ isSub c "InvalidTime" = b2 ∧ isSub c "NotABall" = b3 ∧ isSub c "OtherTable" = b4 ∧ opCnt [.bool b0, .bool b1, .bool b2, .bool b3, .bool b4] (.bool true) = some (.int 1) ∧ opIdx [.bool b0, .bool b1, .bool b2, .bool b3, .bool b4] (.bool true) = some (.int k) ∧ DL.atI [PyData.str "table", .str "shot", .str "time", .str "ball", .str "unlike"] k = some (.str r) := by
      rcases hc with ⟨rfl, rfl⟩ | ⟨rfl, rfl⟩ | ⟨rfl, rfl⟩ | ⟨rfl, rfl⟩ | ⟨rfl, rfl⟩
      · exact ⟨true, false, false, false, false, 0, by decide +kernel, by decide +kernel, by decide +kernel, by decide +kernel, by decide +kernel, rfl, rfl, rfl⟩
      · exact ⟨false, true, false, false, false, 1, by decide +kernel, by decide +kernel, by decide +kernel, by decide +kernel, by decide +kernel, rfl, rfl, rfl⟩
      · exact ⟨false, false, true, false, false, 2, by decide +kernel, by decide +kernel, by decide +kernel, by decide +kernel, by decide +kernel, rfl, rfl, rfl⟩
      · exact ⟨false, false, false, true, false, 3, by decide +kernel, by decide +kernel, by decide +kernel, by decide +kernel, by decide +kernel, rfl, rfl, rfl⟩
      · exact ⟨false, false, false, false, true, 4, by decide +kernel, by decide +kernel, by decide +kernel, by decide +kernel, by decide +kernel, rfl, rfl, rfl⟩
    rw [hv, e0, e1, e2, e3, e4]
    refine seq_step fun N hN => ?_
    walk_at "rdn"
    simp only [mIsE, sget]
    refine ⟨trivial, trivial, ?_⟩
    try walk_at "rdn"
    subst hN
    refine seq_step fun N hN => ?_
    walk_at "rdn"
    simp only [mIsE, sget]
    refine ⟨trivial, trivial, ?_⟩
    try walk_at "rdn"
    subst hN
    refine seq_step fun N hN => ?_
    walk_at "rdn"
    simp only [mIsE, sget]
    refine ⟨trivial, ?_⟩
    try walk_at "rdn"
    subst hN
    refine ⟨by decide, ?_⟩
    refine seq_step fun N hN => ?_
    walk_at "rdn"
    simp only [mIsE, sget]
    refine ⟨trivial, ?_⟩
    try walk_at "rdn"
    simp only [mMeth, mVar, mC, sget, sset]
    refine ⟨_, rfl, _, ec, _, rfl, _, rfl, ?_⟩
    rw [if_neg (by decide)]
    subst hN
    walk_at "rdn"
    simp only [mMeth, mVar, mC, sget, sset]
    exact ⟨_, rfl, _, ei, _, er, h⟩
  · intro Wd hW
    have hW : ∀ c, Word35 c r → Wd c [.va (.int w), .va (ballD (.tuple [.int a, .int b]) (.tuple [.int x, .int y, .int p, .int q])), .va X, .va Y, .no, .no] := fun c h => hW c _ ⟨h, rfl⟩
    rcases ht with ⟨rfl | rfl, ht⟩ | ⟨rfl | rfl, ht⟩ | ⟨rfl, ht⟩
    · refine seq_step fun N hN => ?_
      walk_at "rdn"
      try rw [if_pos (by decide)]
      simp only [mMake, mCons, mNil, mVar, sget]
      refine init35 ht (fun c hc => hW c hc) fun g => ⟨rfl, ?_⟩
      subst hN
      walk_at "rdn"
      subst g
      repeat rw [if_neg (by decide)]
      exact h
    · refine seq_step fun N hN => ?_
      walk_at "rdn"
      rw [if_neg (by decide)]
      subst hN
      refine seq_step fun N hN => ?_
      walk_at "rdn"
      rw [if_pos (by decide)]
      simp only [mMakeK, mMake, mKw, mCons, mNil, mVar, sget]
      refine ⟨rfl, init35 ht (fun c hc => hW c hc) fun g => ⟨rfl, ?_⟩⟩
      subst hN
      walk_at "rdn"
      repeat rw [if_neg (by decide)]
      subst g
      exact h
    · refine seq_step fun N hN => ?_
      walk_at "rdn"
      rw [if_neg (by decide)]
      subst hN
      refine seq_step fun N hN => ?_
      walk_at "rdn"
      rw [if_neg (by decide)]
      subst hN
      refine seq_step fun N hN => ?_
      walk_at "rdn"
      rw [if_pos (by decide)]
      simp only [mCallME, mCons, mNil, mVar, sget]
      refine ⟨⟨_, rfl⟩, call35 v ht (fun c hc => hW c hc) fun g d => ⟨_, rfl, ?_⟩⟩
      subst hN
      walk_at "rdn"
      repeat rw [if_neg (by decide)]
      subst g
      exact h
    · refine seq_step fun N hN => ?_
      walk_at "rdn"
      rw [if_neg (by decide)]
      subst hN
      refine seq_step fun N hN => ?_
      walk_at "rdn"
      rw [if_neg (by decide)]
      subst hN
      refine seq_step fun N hN => ?_
      walk_at "rdn"
      rw [if_neg (by decide)]
      subst hN
      refine seq_step fun N hN => ?_
      walk_at "rdn"
      rw [if_pos (by decide)]
      simp only [mCallMKE, mCons, mNil, mVar, sget]
      refine ⟨⟨_, rfl⟩, ?_⟩
      show D_Ball_call [ballD (.tuple [.int a, .int b]) (.tuple [.int x, .int y, .int p, .int q]), X] _ _
      refine call35 v ht (fun c hc => hW c hc) fun g d => ⟨_, rfl, ?_⟩
      subst hN
      walk_at "rdn"
      repeat rw [if_neg (by decide)]
      subst g
      exact h
    · refine seq_step fun N hN => ?_
      walk_at "rdn"
      rw [if_neg (by decide)]
      subst hN
      refine seq_step fun N hN => ?_
      walk_at "rdn"
      rw [if_neg (by decide)]
      subst hN
      refine seq_step fun N hN => ?_
      walk_at "rdn"
      rw [if_neg (by decide)]
      subst hN
      refine seq_step fun N hN => ?_
      walk_at "rdn"
      rw [if_neg (by decide)]
      subst hN
      refine seq_step fun N hN => ?_
      walk_at "rdn"
      rw [if_pos (by decide)]
      simp only [mBinE, mVar, sget]
      refine ⟨⟨_, rfl⟩, kind35 ht, and35 v ht (fun c hc => hW c hc) fun g x2 y2 p2 q2 => ⟨_, rfl, _, firstM_not0, _, rfl, ?_⟩⟩
      rw [if_neg (by decide)]
      subst g
      exact h
section
variable {P : Program} {w : World} {K : PySem.W.Frag} {mg : Str → Option Value} {base : Heap} {CN : String → Option Addr}
theorem ok__law_told {f : Addr} {fd : FuncData} (F : Fun K "_law_told" "_law_told" s__law_told f fd) (g : G K mg CN) (c_Ball_and : CalM P w K mg base CN 9 "Ball" "__and__" D_Ball_and) (c_Ball_call : CalC P w K mg base CN 9 "Ball" D_Ball_call) (c_Ball_init : CalI P w K mg base CN 7 "Ball" D_Ball_init) (kc_Ball_init_shot_table : CalIK P w K mg base CN 7 "Ball" D_Ball_init ["shot", "table"] (fun {α : Type} (ws : List α) => pick ([] : List α) ws [.k 1, .k 0])) (kc_Ball_call_time : CalCK P w K mg base CN 9 "Ball" D_Ball_call ["time"] (gSel 1 1 [.p 0, .k 0])) : FnG P w K mg base 10 f fd ["way", "a", "x", "y"] (spP K CN D__law_told) := by
  obtain ⟨ch_ShotError, mh_ShotError, hx_ShotError⟩ := g.h_ShotError
  obtain ⟨ckt_InvalidShot, mt_InvalidShot, kt_InvalidShot⟩ := g.kt_InvalidShot
  obtain ⟨ckt_InvalidTable, mt_InvalidTable, kt_InvalidTable⟩ := g.kt_InvalidTable
  obtain ⟨ckt_InvalidTime, mt_InvalidTime, kt_InvalidTime⟩ := g.kt_InvalidTime
  obtain ⟨ckt_NotABall, mt_NotABall, kt_NotABall⟩ := g.kt_NotABall
  obtain ⟨ckt_OtherTable, mt_OtherTable, kt_OtherTable⟩ := g.kt_OtherTable
  have sc := sc__law_told
  exact fun_okP (m := m__law_told) F sc (by decide) len__law_told (fun cdv A outer s H E C W hw hr tk =>
    (pds_one (pds_try (i := 5) rfl rfl sc.nd rfl rfl ⟨rfl, by decide, .inl mh_ShotError⟩ tk hx_ShotError (fun F1 Wd pn xe tk1 po => (pds_cons (pds_if (pdt_cmp (or_eqD (RoomG.u64 hr)) rl_eq (dv 0) pd_int (nomark _)) (pds_one (pds_drop (pd_make c_Ball_init hr (by decide) tk1 (pda_cons (dv 2) (pda_cons (dv 3) pda_nil))))) pds_nil)
    (pds_cons (pds_if (pdt_cmp (or_eqD (RoomG.u64 hr)) rl_eq (dv 0) pd_int (nomark _)) (pds_one (pds_drop (pd_makeK kc_Ball_init_shot_table hr (by decide) tk1 (pdk_cons (dv 3) (pdk_cons (dv 2) pdk_nil))))) pds_nil)
    (pds_cons (pds_if (pdt_cmp (or_eqD (RoomG.u64 hr)) rl_eq (dv 0) pd_int (nomark _)) (pds_one (pds_drop (pd_callIE c_Ball_call hr (by decide) tk1 (dv 1) (pda_cons (dv 2) pda_nil)))) pds_nil)
    (pds_cons (pds_if (pdt_cmp (or_eqD (RoomG.u64 hr)) rl_eq (dv 0) pd_int (nomark _)) (pds_one (pds_drop (pd_callIKE kc_Ball_call_time hr (by decide) tk1 (dv 1) (pdk_cons (dv 2) pdk_nil)))) pds_nil)
    (pds_cons (pds_if (pdt_cmp (or_eqD (RoomG.u64 hr)) rl_eq (dv 0) pd_int (nomark _)) (pds_one (pds_ret (pdr_of (pd_ifE (pdt_cmp (or_eqD (RoomG.u64 hr)) rl_eq (pd_binE c_Ball_and rfl (fun Cc h => ⟨g.sf_Ball Cc h, g.nr_Ball_and Cc h⟩) (fun _ => and_kinds) hr (by decide) tk1 (dv 1) (dv 2)) pd_int (nomark _)) (pd_lst (pda_cons pd_str pda_nil)) pd_str)))) pds_nil)
    (pds_one (pds_ret (pdr_of pd_str))))))))) (fun a oe pn c A hA hz hfl => (pds_cons (pds_asgR (ps_set (i := 4) sc.nd rfl (.inl rfl) (pdr_lst (pda_cons (pd_isE (tv := .ref ckt_InvalidTable) (g.ec c A hA) hz hfl g.b_isinstance (kt_InvalidTable c A hA) (fun _ r => r) rfl (.inl rfl) (pe_glob rfl mt_InvalidTable rfl)) (pda_cons (pd_isE (tv := .ref ckt_InvalidShot) (g.ec c A hA) hz hfl g.b_isinstance (kt_InvalidShot c A hA) (fun _ r => r) rfl (.inl rfl) (pe_glob rfl mt_InvalidShot rfl)) pda_nil)))))
    (pds_cons (pds_asgR (ps_set (i := 4) sc.nd rfl (.inl rfl) (pdr_cat (dv 4) (pd_lst (pda_cons (pd_isE (tv := .ref ckt_InvalidTime) (g.ec c A hA) hz hfl g.b_isinstance (kt_InvalidTime c A hA) (fun _ r => r) rfl (.inl rfl) (pe_glob rfl mt_InvalidTime rfl)) (pda_cons (pd_isE (tv := .ref ckt_NotABall) (g.ec c A hA) hz hfl g.b_isinstance (kt_NotABall c A hA) (fun _ r => r) rfl (.inl rfl) (pe_glob rfl mt_NotABall rfl)) pda_nil))))))
    (pds_cons (pds_app (ps_expr (pe_bm PySem.F.plainAttrs_list PySem.F.slot_list_append PySem.F.type_list_append mt_append (pv 4) (pa_cons (pd_isE (tv := .ref ckt_OtherTable) (g.ec c A hA) hz hfl g.b_isinstance (kt_OtherTable c A hA) (fun _ r => r) rfl (.inl rfl) (pe_glob rfl mt_OtherTable rfl)) pa_nil))))
    (pds_cons (pds_if (pdt_ofw (pdw_or (pdt_not (pdt_val (pd_isE (tv := .ty "ValueError") (g.ec c A hA) hz hfl g.b_isinstance (g.kb_ValueError c A hA) (fun _ r => r) rfl (.inl rfl) (pe_bltn (v := .ty "ValueError") rfl g.b_ValueError (by decide +kernel) rfl (by decide) (by decide))))) (pdw_or1 (pdt_cmp (or_neD (by have h := RoomG.u64 hr; exact h)) rl_ne (pd_count (dv 4) pd_bl (pe_bm PySem.F.plainAttrs_list PySem.F.slot_list_count PySem.F.type_list_count mt_countF (dv 4) (pa_cons pd_bl pa_nil))) pd_int (nomark _))))) (pds_one (pds_ret (pdr_of pd_str))) pds_nil)
    (pds_one (pds_ret (pdr_of (pd_ix ix_seq rl_ix (pd_lst (pda_cons pd_str (pda_cons pd_str (pda_cons pd_str (pda_cons pd_str (pda_cons pd_str pda_nil)))))) (pd_index (dv 4) pd_bl (pe_bm PySem.F.plainAttrs_list PySem.F.slot_list_index PySem.F.type_list_index mt_index (dv 4) (pa_cons pd_bl pa_nil))))))))))))))) rd__law_told
end
end LW
namespace LW
open PySem PySem.Spec PyProof.Rows L2 DL
def m__law_case : MS :=
  mSeq (mIf (mT (mOp2 opLt (mVar 1) (mC (.int 2)))) (mSeq (mAsgM [5, 6, 7] [mrOf (mVar 3), mrOf (mVar 4), mrOf (mC (.str "none"))])
  (mSeq (mIf (mT (mOp2 opEq (mCallW dDraw 0 (mCons (mC (.int 2)) (mNil))) (mC (.int 0)))) (mSeq (mAsg (mLst (mCons (mC .none) (mCons (mTup (mNil)) (mCons (mCallB bList (mCons (mVar 4) (mNil))) (mCons (mSl opSl (mVar 4) mNoPart (mPart (mC (.int 3)))) (mCons (mTup (mCons (mOp2 opAdd (mOp2 opIx (mVar 3) (mC (.int 0))) (mC (.int 1))) (mCons (mC (.int 0)) (mCons (mC (.int 1)) (mCons (mC (.int 1)) (mNil)))))) (mNil))))))) (mgName 8))
  (mSeq (mAsg (mOp2 opAdd (mVar 8) (mLst (mCons (mTup (mCons (mC (.int 0)) (mCons (mOp2 opAdd (mOp2 opIx (mVar 3) (mC (.int 1))) (mC (.int 1))) (mCons (mC (.int 1)) (mCons (mC (.int 1)) (mNil)))))) (mCons (mTup (mCons (mC (.int 0)) (mCons (mC (.int 0)) (mCons (mC (.int 0)) (mCons (mC (.int 0)) (mNil)))))) (mCons (mTup (mCons (mOp1 opNeg (mC (.int 1))) (mCons (mC (.int 0)) (mCons (mC (.int 1)) (mCons (mC (.int 1)) (mNil)))))) (mCons (mC (.str "0 0 1 1")) (mCons (mC (.int 5)) (mCons (mDict0) (mCons (mTup (mCons (mC (.int 0)) (mCons (mC (.bool true)) (mCons (mC (.int 1)) (mCons (mC (.int 1)) (mNil)))))) (mNil)))))))))) (mgName 8))
  (mAsgM [6, 7] [mrOf (mOp2 opIx (mVar 8) (mCallW dDraw 0 (mCons (mC (.int 12)) (mNil)))), mrOf (mC (.str "shot"))]))) (mNext))
  (mSeq (mIf (mT (mOp2 opEq (mCallW dDraw 0 (mCons (mC (.int 3)) (mNil))) (mC (.int 0)))) (mSeq (mAsg (mLst (mCons (mC .none) (mCons (mTup (mNil)) (mCons (mCallB bList (mCons (mVar 3) (mNil))) (mCons (mTup (mCons (mC (.int 0)) (mCons (mC (.int 1)) (mNil)))) (mCons (mTup (mCons (mC (.int 1)) (mCons (mOp1 opNeg (mC (.int 1))) (mNil)))) (mCons (mTup (mCons (mC (.int 1)) (mNil))) (mCons (mTup (mCons (mC (.int 1)) (mCons (mC (.int 1)) (mCons (mC (.int 1)) (mNil))))) (mCons (mC (.str "4x2")) (mCons (mC (.int 5)) (mCons (mDict0) (mCons (mTup (mCons (mC (.bool true)) (mCons (mC (.int 1)) (mNil)))) (mNil))))))))))))) (mgName 8))
  (mAsgM [5, 7] [mrOf (mOp2 opIx (mVar 8) (mCallW dDraw 0 (mCons (mC (.int 11)) (mNil)))), mrOf (mC (.str "table"))])) (mNext))
  (mRet (mrOf (mTup (mCons (mVar 5) (mCons (mVar 6) (mCons (mVar 7) (mNil)))))))))) (mNext))
  (mSeq (mIf (mT (mOp2 opLt (mVar 1) (mC (.int 4)))) (mSeq (mAsg (mLst (mCons (mC .none) (mCons (mC (.int 1)) (mCons (mTup (mCons (mC (.int 1)) (mCons (mC (.int 0)) (mNil)))) (mCons (mTup (mCons (mC (.int 2)) (mCons (mC (.int 4)) (mNil)))) (mCons (mTup (mCons (mC (.int 1)) (mCons (mOp1 opNeg (mC (.int 1))) (mNil)))) (mCons (mLst (mCons (mC (.int 1)) (mCons (mC (.int 1)) (mNil)))) (mCons (mTup (mCons (mC (.int 1)) (mNil))) (mCons (mTup (mCons (mC (.int 1)) (mCons (mC (.bool true)) (mNil)))) (mCons (mC (.str "1")) (mCons (mDict0) (mNil)))))))))))) (mgName 8))
  (mSeq (mIf (mT (mOp2 opEq (mCallW dDraw 0 (mCons (mC (.int 2)) (mNil))) (mC (.int 0)))) (mRet (mrOf (mTup (mCons (mOp2 opIx (mVar 8) (mCallW dDraw 0 (mCons (mC (.int 10)) (mNil)))) (mCons (mC .none) (mCons (mC (.str "time")) (mNil))))))) (mNext))
  (mRet (mrOf (mTup (mCons (mTup (mCons (mOp2 opSub (mOp2 opMul (mC (.int 2)) (mCallW dDraw 0 (mCons (mC (.int 9)) (mNil)))) (mC (.int 9))) (mCons (mC (.int 2)) (mNil)))) (mCons (mC .none) (mCons (mC (.str "none")) (mNil))))))))) (mNext))
  (mSeq (mAsg (mMake "Ball" D_Ball_init wF (mCons (mTup (mCons (mOp2 opAdd (mOp2 opIx (mVar 3) (mC (.int 0))) (mC (.int 1))) (mCons (mOp2 opIx (mVar 3) (mC (.int 1))) (mNil)))) (mCons (mVar 4) (mNil)))) (mgName 9))
  (mSeq (mAsg (mLst (mCons (mTup (mCons (mC .none) (mCons (mC (.str "ball")) (mNil)))) (mCons (mTup (mCons (mVar 4) (mCons (mC (.str "ball")) (mNil)))) (mCons (mTup (mCons (mC (.int 5)) (mCons (mC (.str "ball")) (mNil)))) (mCons (mTup (mCons (mTup (mCons (mC (.int 0)) (mCons (mC (.int 1)) (mNil)))) (mCons (mC (.str "ball")) (mNil)))) (mCons (mTup (mCons (mC (.str "a")) (mCons (mC (.str "ball")) (mNil)))) (mNil))))))) (mgName 8))
  (mSeq (mAsg (mOp2 opAdd (mVar 8) (mLst (mCons (mTup (mCons (mMake "Ball" D_Ball_init wF (mCons (mTup (mCons (mOp2 opIx (mVar 3) (mC (.int 0))) (mCons (mOp2 opAdd (mOp2 opIx (mVar 3) (mC (.int 1))) (mC (.int 1))) (mNil)))) (mCons (mVar 4) (mNil)))) (mCons (mC (.str "unlike")) (mNil)))) (mCons (mTup (mCons (mVar 9) (mCons (mC (.str "unlike")) (mNil)))) (mNil))))) (mgName 8))
  (mSeq (mAsg (mOp2 opAdd (mVar 8) (mLst (mCons (mTup (mCons (mMake "Ball" D_Ball_init wF (mCons (mOp2 opAdd (mOp1 opRev (mVar 3)) (mTup (mNil))) (mCons (mTup (mCons (mC (.int 0)) (mCons (mC (.int 0)) (mCons (mC (.int 1)) (mCons (mC (.int 1)) (mNil)))))) (mNil)))) (mCons (mC (.str "turned")) (mNil)))) (mCons (mTup (mCons (mVar 2) (mCons (mC (.str "none")) (mNil)))) (mNil))))) (mgName 8))
  (mSeq (mAsg (mOp2 opIx (mVar 8) (mCallW dDraw 0 (mCons (mC (.int 9)) (mNil)))) (mgTup 2 (mgCons (mgName 5) (mgCons (mgName 7) (mgNil)))))
  (mSeq (mIf (mT (mOp2 opEq (mVar 7) (mC (.str "turned")))) (mAsg (mIfE (mT (mOp2 opEq (mOp2 opIx (mVar 3) (mC (.int 0))) (mOp2 opIx (mVar 3) (mC (.int 1))))) (mC (.str "none")) (mC (.str "unlike"))) (mgName 7)) (mNext))
  (mRet (mrOf (mTup (mCons (mVar 5) (mCons (mC .none) (mCons (mVar 7) (mNil))))))))))))))
def D__law_case : WSpec := fun n ds Q => ∃ w a b x y p q, ds = [.int w, ballD (.tuple [.int a, .int b]) (.tuple [.int x, .int y, .int p, .int q]), .tuple [.int a, .int b], .tuple [.int x, .int y, .int p, .int q]] ∧ 0 ≤ w ∧ w ≤ 4 ∧ Vd 20 a b x y p q ∧ 10 ≤ n ∧ ∀ X Y r n', n ≤ n' + 5 → Told35 w a b x y p q X Y r → Q (.va (.tuple [X, Y, .str r])) n'
theorem len__law_case : ∀ n ds Q, D__law_case n ds Q → ds.length + 1 = 5 := by
  rintro n _ Q ⟨w, a, b, x, y, p, q, rfl, _⟩
  rfl
/-- an item of a list all of whose items are so -/
theorem pick35 {P : PyData → Prop} {xs : List PyData} {u : Int} (u0 : 0 ≤ u) (u1 : u < xs.length) (h : ∀ d ∈ xs, P d) : ∃ d, DL.atI xs u = some d ∧ P d := by
  obtain ⟨d, hd, e⟩ := DL.atI_mem u0 u1
  exact ⟨d, e, h d hd⟩
theorem rd__law_case : ∀ n ds Q, D__law_case n ds Q → m__law_case (endW Q) (slotsW 10 n ds) := by
  rintro n _ Q ⟨w, a, b, x, y, p, q, rfl, w0, w4, v, hn, h⟩
  unfold m__law_case
  refine seq_step fun N hN => ?_
  walk_at "rdn"
  by_cases c : w < 2
  · rw [decide_eq_true c, if_pos rfl]
    have hw : w = 0 ∨ w = 1 := by omega
    have tail : ∀ (m : Nat) (Y : PyData) (r : Str), n ≤ m + 2 → 5 ≤ m → ((isShot (.tuple [.int a, .int b]) Y = false ∧ r = "shot") ∨ (isShot (.tuple [.int a, .int b]) Y = true ∧ r = "none")) → dDraw m [.int 3] fun z n' => ∃ d, fz z = some d ∧ ∃ e, opEq d (.int 0) = some e ∧ ∃ c, e = .bool c ∧ if c = true then dDraw n' [.int 11] fun z n' => ∃ d, fz z = some d ∧ ∃ g, opIx (.list [.none, .tuple [], .list [.int a, .int b], .tuple [.int 0, .int 1], .tuple [.int 1, .int (-1)], .tuple [.int 1], .tuple [.int 1, .int 1, .int 1], .str "4x2", .int 5, .dict [], .tuple [.bool true, .int 1]]) d = some g ∧ Q (.va (.tuple [g, Y, .str "table"])) n' else Q (.va (.tuple [.tuple [.int a, .int b], Y, .str r])) n' := by
      intro m Y r hm m5 hY
      refine dr (by omega) (by decide) (by decide) fun u u0 u1 => ⟨_, rfl, _, opEq_int, _, rfl, ?_⟩
      by_cases cu : u = 0
      · rw [decide_eq_true cu, if_pos rfl]
        refine dr (by omega) (by decide) (by decide) fun u u0 u1 => ⟨_, rfl, ?_⟩
        obtain ⟨d, e, hd⟩ := pick35 (P := fun d => isTab d = false) (xs := [.none, .tuple [], .list [.int a, .int b], .tuple [.int 0, .int 1], .tuple [.int 1, .int (-1)], .tuple [.int 1], .tuple [.int 1, .int 1, .int 1], .str "4x2", .int 5, .dict [], .tuple [.bool true, .int 1]]) u0 u1 (by
          intro d hd
          simp only [List.mem_cons, List.not_mem_nil, or_false] at hd
          rcases hd with rfl | rfl | rfl | rfl | rfl | rfl | rfl | rfl | rfl | rfl | rfl <;> rfl)
        exact ⟨d, e, h _ _ _ _ (by omega) (.inl ⟨hw, .inl ⟨hd, rfl⟩⟩)⟩
      · rw [decide_eq_false cu, if_neg (by decide)]
        refine h _ _ _ _ (by omega) (.inl ⟨hw, .inr ?_⟩)
        rcases hY with ⟨h1, h2⟩ | ⟨h1, h2⟩
        · exact .inl ⟨v.tab, h1, h2⟩
        · exact .inr ⟨v.tab, h1, h2⟩
    clear hN
    try walk_at "rdn"
    refine dr (by omega) (by decide) (by decide) fun u u0 u1 => ⟨_, rfl, _, opEq_int, _, rfl, ?_⟩
    by_cases cu : u = 0
    · rw [decide_eq_true cu, if_pos rfl]
      refine dr (by omega) (by decide) (by decide) fun u u0 u1 => ⟨_, rfl, ?_⟩
      obtain ⟨d, e, hd⟩ := pick35 (P := fun d => isShot (.tuple [.int a, .int b]) d = false) (xs := [.none, .tuple [], .list [.int x, .int y, .int p, .int q], .tuple [.int x, .int y, .int p], .tuple [.int (a + 1), .int 0, .int 1, .int 1], .tuple [.int 0, .int (b + 1), .int 1, .int 1], .tuple [.int 0, .int 0, .int 0, .int 0], .tuple [.int (-1), .int 0, .int 1, .int 1], .str "0 0 1 1", .int 5, .dict [], .tuple [.int 0, .bool true, .int 1, .int 1]]) u0 u1 (by
        intro d hd
        simp only [List.mem_cons, List.not_mem_nil, or_false] at hd
        rcases hd with rfl | rfl | rfl | rfl | rfl | rfl | rfl | rfl | rfl | rfl | rfl | rfl
        all_goals first | rfl | (simp [isShot]; done) | (simp [isShot]; omega))
      exact ⟨d, e, tail _ _ _ (by omega) (by omega) (.inl ⟨hd, rfl⟩)⟩
    · rw [decide_eq_false cu, if_neg (by decide)]
      exact tail _ _ _ (by omega) (by omega) (.inr ⟨v.shot, rfl⟩)
  rw [decide_eq_false c, if_neg (by decide)]
  subst hN
  refine seq_step fun N hN => ?_
  walk_at "rdn"
  by_cases c4 : w < 4
  · rw [decide_eq_true c4, if_pos rfl]
    have hw : w = 2 ∨ w = 3 := by omega
    clear hN
    try walk_at "rdn"
    refine dr (by omega) (by decide) (by decide) fun u u0 u1 => ⟨_, rfl, _, opEq_int, _, rfl, ?_⟩
    by_cases cu : u = 0
    · rw [decide_eq_true cu, if_pos rfl]
      refine dr (by omega) (by decide) (by decide) fun u u0 u1 => ⟨_, rfl, ?_⟩
      obtain ⟨d, e, hd⟩ := pick35 (P := fun d => isFrac d = false) (xs := [.none, .int 1, .tuple [.int 1, .int 0], .tuple [.int 2, .int 4], .tuple [.int 1, .int (-1)], .list [.int 1, .int 1], .tuple [.int 1], .tuple [.int 1, .bool true], .str "1", .dict []]) u0 u1 (by
        intro d hd
        simp only [List.mem_cons, List.not_mem_nil, or_false] at hd
        rcases hd with rfl | rfl | rfl | rfl | rfl | rfl | rfl | rfl | rfl | rfl <;> rfl)
      exact ⟨d, e, h _ _ _ _ (by omega) (.inr (.inl ⟨hw, .inl ⟨hd, rfl⟩⟩))⟩
    · rw [decide_eq_false cu, if_neg (by decide)]
      refine dr (by omega) (by decide) (by decide) fun u u0 u1 => ⟨_, rfl, ?_⟩
      refine ⟨_, opMul_ok (a := 2) (b := u) (k := 5) (l := 5) (by unfold sz; decide) (by unfold sz; omega) (by decide), _, rfl, h _ _ _ _ (by omega) (.inr (.inl ⟨hw, .inr ⟨?_, (show sz 1000 (2 * u - 9) ∧ sz 1000 2 from ⟨sz_mono (k := 6) (by unfold sz; omega) (by decide), sz_mono (k := 6) (by unfold sz; decide) (by decide)⟩), rfl⟩⟩))⟩
      have : u = 0 ∨ u = 1 ∨ u = 2 ∨ u = 3 ∨ u = 4 ∨ u = 5 ∨ u = 6 ∨ u = 7 ∨ u = 8 := by omega
      rcases this with rfl | rfl | rfl | rfl | rfl | rfl | rfl | rfl | rfl <;> decide +kernel
  rw [decide_eq_false c4, if_neg (by decide)]
  subst hN
  obtain rfl : w = 4 := by omega
  have u1 : Vd 21 a (b + 1) x y p q := ⟨v.a1, by have := v.b1; omega, v.x0, v.x1, v.y0, by have := v.y1; omega, v.w, sz_mono v.za (by decide), sz_add v.zb (by unfold sz; decide), sz_mono v.zx (by decide), sz_mono v.zy (by decide), sz_mono v.zp (by decide), sz_mono v.zq (by decide)⟩
  have u2 : Vd 21 (a + 1) b x y p q := ⟨by have := v.a1; omega, v.b1, v.x0, by have := v.x1; omega, v.y0, v.y1, v.w, sz_add v.za (by unfold sz; decide), sz_mono v.zb (by decide), sz_mono v.zx (by decide), sz_mono v.zy (by decide), sz_mono v.zp (by decide), sz_mono v.zq (by decide)⟩
  have z0 : sz 20 0 := by unfold sz; decide
  have z1 : sz 20 1 := by unfold sz; decide
  have u3 : Vd 20 b a 0 0 1 1 := ⟨v.b1, v.a1, by decide, by have := v.b1; omega, by decide, by have := v.a1; omega, .inl (by decide), v.zb, v.za, z0, z0, z1, z1⟩
  refine seq_step fun N hN => ?_
  walk_at "rdn"
  simp only [mMake, mTup, mOp2, mC, mCons, mNil, mVar, sget]
  refine ⟨_, rfl, _, rfl, _, rfl, Nat.le_of_ble_eq_true rfl, ball_new u2.tab u2.shot ⟨rfl, ?_⟩⟩
  try walk_at "rdn"
  subst hN
  refine seq_step fun N hN => ?_
  walk_at "rdn"
  subst hN
  refine seq_step fun N hN => ?_
  walk_at "rdn"
  simp only [mMake, mTup, mOp2, mC, mCons, mNil, mVar, sget]
  refine ⟨_, rfl, _, rfl, _, rfl, Nat.le_of_ble_eq_true rfl, ball_new u1.tab u1.shot ⟨rfl, ?_⟩⟩
  walk_at "rdn"
  subst hN
  refine seq_step fun N hN => ?_
  walk_at "rdn"
  simp only [mMake, mTup, mOp2, mOp1, mC, mCons, mNil, mVar, sget]
  refine ⟨_, rfl, Nat.le_of_ble_eq_true rfl, _, rfl, Nat.le_of_ble_eq_true rfl, ball_new u3.tab u3.shot ⟨rfl, ?_⟩⟩
  walk_at "rdn"
  subst hN
  refine seq_step fun N hN => ?_
  walk_at "rdn"
  refine dr (by omega) (by decide) (by decide) fun u u0 u9 => ⟨_, rfl, ?_⟩
  obtain ⟨d, e, X, r, rfl, hd⟩ := pick35 (P := fun d => ∃ X r, d = .tuple [X, .str r] ∧ ((r = "turned" ∧ X = ballD (.tuple [.int b, .int a]) (.tuple [.int 0, .int 0, .int 1, .int 1])) ∨ ((r = "ball" ∨ r = "unlike" ∨ r = "none") ∧ Told35 4 a b x y p q X .none r)))
    (xs := [.tuple [.none, .str "ball"], .tuple [.tuple [.int x, .int y, .int p, .int q], .str "ball"], .tuple [.int 5, .str "ball"], .tuple [.tuple [.int 0, .int 1], .str "ball"], .tuple [.str "a", .str "ball"], .tuple [ballD (.tuple [.int a, .int (b + 1)]) (.tuple [.int x, .int y, .int p, .int q]), .str "unlike"], .tuple [ballD (.tuple [.int (a + 1), .int b]) (.tuple [.int x, .int y, .int p, .int q]), .str "unlike"], .tuple [ballD (.tuple [.int b, .int a]) (.tuple [.int 0, .int 0, .int 1, .int 1]), .str "turned"], .tuple [ballD (.tuple [.int a, .int b]) (.tuple [.int x, .int y, .int p, .int q]), .str "none"]]) u0 u9 (by
      intro d hd
      simp only [List.mem_cons, List.not_mem_nil, or_false] at hd
      rcases hd with rfl | rfl | rfl | rfl | rfl | rfl | rfl | rfl | rfl
      · exact ⟨_, _, rfl, .inr ⟨.inl rfl, .inr (.inr ⟨rfl, .inl ⟨rfl, rfl⟩⟩)⟩⟩
      · exact ⟨_, _, rfl, .inr ⟨.inl rfl, .inr (.inr ⟨rfl, .inl ⟨rfl, rfl⟩⟩)⟩⟩
      · exact ⟨_, _, rfl, .inr ⟨.inl rfl, .inr (.inr ⟨rfl, .inl ⟨rfl, rfl⟩⟩)⟩⟩
      · exact ⟨_, _, rfl, .inr ⟨.inl rfl, .inr (.inr ⟨rfl, .inl ⟨rfl, rfl⟩⟩)⟩⟩
      · exact ⟨_, _, rfl, .inr ⟨.inl rfl, .inr (.inr ⟨rfl, .inl ⟨rfl, rfl⟩⟩)⟩⟩
      · exact ⟨_, _, rfl, .inr ⟨.inr (.inl rfl), .inr (.inr ⟨rfl, .inr ⟨_, _, _, _, _, _, rfl, .inl ⟨by omega, rfl⟩⟩⟩)⟩⟩
      · exact ⟨_, _, rfl, .inr ⟨.inr (.inl rfl), .inr (.inr ⟨rfl, .inr ⟨_, _, _, _, _, _, rfl, .inl ⟨by omega, rfl⟩⟩⟩)⟩⟩
      · exact ⟨_, _, rfl, .inl ⟨rfl, rfl⟩⟩
      · exact ⟨_, _, rfl, .inr ⟨.inr (.inr rfl), .inr (.inr ⟨rfl, .inr ⟨_, _, _, _, _, _, rfl, .inr ⟨rfl, rfl, v.mono (by decide), rfl⟩⟩⟩)⟩⟩)
  refine ⟨_, e, ?_⟩
  walk_at "rdn"
  subst hN
  rcases hd with ⟨rfl, rfl⟩ | ⟨hr, ht⟩
  · refine seq_step fun N hN => ?_
    walk_at "rdn"
    rw [if_pos (by simp)]
    by_cases hab : a = b
    · subst hab
      rw [if_pos (by simp)]
      subst hN
      walk_at "rdn"
      exact h _ _ _ _ (by omega) (.inr (.inr ⟨rfl, .inr ⟨_, _, _, _, _, _, rfl, .inr ⟨rfl, rfl, u3.mono (by decide), rfl⟩⟩⟩))
    · rw [if_neg (by simp [hab])]
      subst hN
      walk_at "rdn"
      exact h _ _ _ _ (by omega) (.inr (.inr ⟨rfl, .inr ⟨_, _, _, _, _, _, rfl, .inl ⟨fun z => hab z.1, rfl⟩⟩⟩))
  · refine seq_step fun N hN => ?_
    refine if_run false (fun Q h => ?_) (fun hc => by cases hc) (fun _ => ?_)
    · walk_at "rdn"
      rcases hr with rfl | rfl | rfl
      · exact h
      · exact h
      · exact h
    walk_at "rdn"
    subst hN
    walk_at "rdn"
    exact h _ _ _ _ (by omega) ht
section
variable {P : Program} {w : World} {K : PySem.W.Frag} {mg : Str → Option Value} {base : Heap} {CN : String → Option Addr}
theorem ok__law_case {f : Addr} {fd : FuncData} (F : Fun K "_law_case" "_law_case" s__law_case f fd) (g : G K mg CN) (c_Ball_init : CalI P w K mg base CN 7 "Ball" D_Ball_init) (c__law_draw : CalW P w K mg base 1 "_law_draw" dDraw) : FnG P w K mg base 9 f fd ["well", "way", "a", "desk", "shot_here"] (spW K D__law_case) := by
  have sc := sc__law_case
  exact fun_okW (m := m__law_case) (CN := CN) F sc (by decide) len__law_case (fun cdv A outer s H E C hr tk =>
    (pds_cons (pds_if (pdt_cmp op_lt rl_cmpI (dv 1) pd_int (nomark _)) (pds_cons (pds_par3 (ps_par3 (i := 5) (j := 6) (l := 7) rfl sc.nd rfl rfl rfl (by decide) (by decide) (by decide) rfl rfl rfl (pdar_cons (pdr_of (dv 3)) (pdar_cons (pdr_of (dv 4)) (pdar_cons (pdr_of pd_str) pdar_nil))) rfl))
    (pds_cons (pds_if (pdt_cmp (or_eqD (RoomG.u64 hr)) rl_eq (pd_callW c__law_draw hr (by decide) tk (pv 0) (pda_cons pd_int pda_nil)) pd_int (nomark _)) (pds_cons (pds_asg (ps_asg (pd_lst (pda_cons pd_non (pda_cons (pd_tup pda_nil) (pda_cons (pd_callTy call_list_of rc_list g.b_list (by decide +kernel) (pda_cons (dv 4) pda_nil)) (pda_cons (pd_slB (dv 4) pd_int) (pda_cons (pd_tup (pda_cons (pd_op or_add rl_add (pd_ix ix_seq rl_ix (dv 3) pd_int) pd_int) (pda_cons pd_int (pda_cons pd_int (pda_cons pd_int pda_nil))))) pda_nil)))))) (dg 8 sc.nd)))
    (pds_cons (pds_asg (ps_asg (pd_op or_add rl_add (dv 8) (pd_lst (pda_cons (pd_tup (pda_cons pd_int (pda_cons (pd_op or_add rl_add (pd_ix ix_seq rl_ix (dv 3) pd_int) pd_int) (pda_cons pd_int (pda_cons pd_int pda_nil))))) (pda_cons (pd_tup (pda_cons pd_int (pda_cons pd_int (pda_cons pd_int (pda_cons pd_int pda_nil))))) (pda_cons (pd_tup (pda_cons (pd_un un_neg rl_neg pd_int) (pda_cons pd_int (pda_cons pd_int (pda_cons pd_int pda_nil))))) (pda_cons pd_str (pda_cons pd_int (pda_cons pd_dict0 (pda_cons (pd_tup (pda_cons pd_int (pda_cons pd_bl (pda_cons pd_int (pda_cons pd_int pda_nil))))) pda_nil))))))))) (dg 8 sc.nd)))
    (pds_one (pds_par2 (ps_par2 (i := 6) (j := 7) rfl sc.nd rfl rfl (by decide) rfl rfl (pdar_cons (pdr_of (pd_ix ix_seq rl_ix (dv 8) (pd_callW c__law_draw hr (by decide) tk (pv 0) (pda_cons pd_int pda_nil)))) (pdar_cons (pdr_of pd_str) pdar_nil)) rfl))))) pds_nil)
    (pds_cons (pds_if (pdt_cmp (or_eqD (RoomG.u64 hr)) rl_eq (pd_callW c__law_draw hr (by decide) tk (pv 0) (pda_cons pd_int pda_nil)) pd_int (nomark _)) (pds_cons (pds_asg (ps_asg (pd_lst (pda_cons pd_non (pda_cons (pd_tup pda_nil) (pda_cons (pd_callTy call_list_of rc_list g.b_list (by decide +kernel) (pda_cons (dv 3) pda_nil)) (pda_cons (pd_tup (pda_cons pd_int (pda_cons pd_int pda_nil))) (pda_cons (pd_tup (pda_cons pd_int (pda_cons (pd_un un_neg rl_neg pd_int) pda_nil))) (pda_cons (pd_tup (pda_cons pd_int pda_nil)) (pda_cons (pd_tup (pda_cons pd_int (pda_cons pd_int (pda_cons pd_int pda_nil)))) (pda_cons pd_str (pda_cons pd_int (pda_cons pd_dict0 (pda_cons (pd_tup (pda_cons pd_bl (pda_cons pd_int pda_nil))) pda_nil)))))))))))) (dg 8 sc.nd)))
    (pds_one (pds_par2 (ps_par2 (i := 5) (j := 7) rfl sc.nd rfl rfl (by decide) rfl rfl (pdar_cons (pdr_of (pd_ix ix_seq rl_ix (dv 8) (pd_callW c__law_draw hr (by decide) tk (pv 0) (pda_cons pd_int pda_nil)))) (pdar_cons (pdr_of pd_str) pdar_nil)) rfl)))) pds_nil)
    (pds_one (pds_ret (pdr_of (pd_tup (pda_cons (dv 5) (pda_cons (dv 6) (pda_cons (dv 7) pda_nil)))))))))) pds_nil)
    (pds_cons (pds_if (pdt_cmp op_lt rl_cmpI (dv 1) pd_int (nomark _)) (pds_cons (pds_asg (ps_asg (pd_lst (pda_cons pd_non (pda_cons pd_int (pda_cons (pd_tup (pda_cons pd_int (pda_cons pd_int pda_nil))) (pda_cons (pd_tup (pda_cons pd_int (pda_cons pd_int pda_nil))) (pda_cons (pd_tup (pda_cons pd_int (pda_cons (pd_un un_neg rl_neg pd_int) pda_nil))) (pda_cons (pd_lst (pda_cons pd_int (pda_cons pd_int pda_nil))) (pda_cons (pd_tup (pda_cons pd_int pda_nil)) (pda_cons (pd_tup (pda_cons pd_int (pda_cons pd_bl pda_nil))) (pda_cons pd_str (pda_cons pd_dict0 pda_nil))))))))))) (dg 8 sc.nd)))
    (pds_cons (pds_if (pdt_cmp (or_eqD (RoomG.u64 hr)) rl_eq (pd_callW c__law_draw hr (by decide) tk (pv 0) (pda_cons pd_int pda_nil)) pd_int (nomark _)) (pds_one (pds_ret (pdr_of (pd_tup (pda_cons (pd_ix ix_seq rl_ix (dv 8) (pd_callW c__law_draw hr (by decide) tk (pv 0) (pda_cons pd_int pda_nil))) (pda_cons pd_non (pda_cons pd_str pda_nil))))))) pds_nil)
    (pds_one (pds_ret (pdr_of (pd_tup (pda_cons (pd_tup (pda_cons (pd_op op_sub rl_sub (pd_op or_mul rl_mul pd_int (pd_callW c__law_draw hr (by decide) tk (pv 0) (pda_cons pd_int pda_nil))) pd_int) (pda_cons pd_int pda_nil))) (pda_cons pd_non (pda_cons pd_str pda_nil))))))))) pds_nil)
    (pds_cons (pds_asg (ps_asg (pd_make c_Ball_init hr (by decide) tk (pda_cons (pd_tup (pda_cons (pd_op or_add rl_add (pd_ix ix_seq rl_ix (dv 3) pd_int) pd_int) (pda_cons (pd_ix ix_seq rl_ix (dv 3) pd_int) pda_nil))) (pda_cons (dv 4) pda_nil))) (dg 9 sc.nd)))
    (pds_cons (pds_asg (ps_asg (pd_lst (pda_cons (pd_tup (pda_cons pd_non (pda_cons pd_str pda_nil))) (pda_cons (pd_tup (pda_cons (dv 4) (pda_cons pd_str pda_nil))) (pda_cons (pd_tup (pda_cons pd_int (pda_cons pd_str pda_nil))) (pda_cons (pd_tup (pda_cons (pd_tup (pda_cons pd_int (pda_cons pd_int pda_nil))) (pda_cons pd_str pda_nil))) (pda_cons (pd_tup (pda_cons pd_str (pda_cons pd_str pda_nil))) pda_nil)))))) (dg 8 sc.nd)))
    (pds_cons (pds_asg (ps_asg (pd_op or_add rl_add (dv 8) (pd_lst (pda_cons (pd_tup (pda_cons (pd_make c_Ball_init hr (by decide) tk (pda_cons (pd_tup (pda_cons (pd_ix ix_seq rl_ix (dv 3) pd_int) (pda_cons (pd_op or_add rl_add (pd_ix ix_seq rl_ix (dv 3) pd_int) pd_int) pda_nil))) (pda_cons (dv 4) pda_nil))) (pda_cons pd_str pda_nil))) (pda_cons (pd_tup (pda_cons (dv 9) (pda_cons pd_str pda_nil))) pda_nil)))) (dg 8 sc.nd)))
    (pds_cons (pds_asg (ps_asg (pd_op or_add rl_add (dv 8) (pd_lst (pda_cons (pd_tup (pda_cons (pd_make c_Ball_init hr (by decide) tk (pda_cons (pd_op or_add rl_add (pd_rev (dv 3)) (pd_tup pda_nil)) (pda_cons (pd_tup (pda_cons pd_int (pda_cons pd_int (pda_cons pd_int (pda_cons pd_int pda_nil))))) pda_nil))) (pda_cons pd_str pda_nil))) (pda_cons (pd_tup (pda_cons (dv 2) (pda_cons pd_str pda_nil))) pda_nil)))) (dg 8 sc.nd)))
    (pds_cons (pds_asg (ps_asg (pd_ix ix_seq rl_ix (dv 8) (pd_callW c__law_draw hr (by decide) tk (pv 0) (pda_cons pd_int pda_nil))) (pdg_tup rfl (gcons (dg 5 sc.nd) (gcons (dg 7 sc.nd) pdgs_nil)))))
    (pds_cons (pds_if (pdt_cmp (or_eqD (RoomG.u64 hr)) rl_eq (dv 7) pd_str (nomark _)) (pds_one (pds_asg (ps_asg (pd_ifE (pdt_cmp (or_eqD (RoomG.u64 hr)) rl_eq (pd_ix ix_seq rl_ix (dv 3) pd_int) (pd_ix ix_seq rl_ix (dv 3) pd_int) (nomark _)) pd_str pd_str) (dg 7 sc.nd)))) pds_nil)
    (pds_one (pds_ret (pdr_of (pd_tup (pda_cons (dv 5) (pda_cons pd_non (pda_cons (dv 7) pda_nil)))))))))))))))) rd__law_case
end
end LW
namespace LW
open PySem PySem.Spec PyProof.Rows L2 DL
def m_Ball_shot (W : WD) : MS :=
  mRet (mrOf (mOp1 (opAttr "Ball" "_shot") (mVar 0)))
def D_Ball_shot : PSpec := fun ds Q _ => ∃ t v, ds = [ballD t v] ∧ Q (.va v)
theorem len_Ball_shot : ∀ ds Q E, D_Ball_shot ds Q E → ds.length = 1 := by
  rintro _ Q E ⟨t, v, rfl, _⟩
  rfl
theorem rd_Ball_shot : ∀ ds Q E, D_Ball_shot ds Q E → m_Ball_shot (fun c _ => E c) (endP Q) (slots0 1 ds) := by
  rintro _ Q E ⟨t, v, rfl, h⟩
  unfold m_Ball_shot
  walk_at "rdn"
  exact ⟨_, ball_shot _ _, h⟩
section
variable {P : Program} {w : World} {K : PySem.W.Frag} {mg : Str → Option Value} {base : Heap} {CN : String → Option Addr}
theorem ok_Ball_shot {f : Addr} {fd : FuncData} (F : Fun K "shot" "Ball.shot" s_Ball_shot f fd) (g : G K mg CN)  : FnG P w K mg base 1 f fd ["self"] (spP K CN D_Ball_shot) := by
  have sc := sc_Ball_shot
  exact fun_okP (m := m_Ball_shot) F sc (by decide) len_Ball_shot (fun cdv A outer s H E C W hw hr tk =>
    (pds_one (pds_ret (pdr_of (pd_attr g.na_Ball__shot (dv 0)))))) rd_Ball_shot
end
end LW
namespace LW
open PySem PySem.Spec PyProof.Rows L2 DL
def m_Ball_table (W : WD) : MS :=
  mRet (mrOf (mOp1 (opAttr "Ball" "_table") (mVar 0)))
def D_Ball_table : PSpec := fun ds Q _ => ∃ t v, ds = [ballD t v] ∧ Q (.va t)
theorem len_Ball_table : ∀ ds Q E, D_Ball_table ds Q E → ds.length = 1 := by
  rintro _ Q E ⟨t, v, rfl, _⟩
  rfl
theorem rd_Ball_table : ∀ ds Q E, D_Ball_table ds Q E → m_Ball_table (fun c _ => E c) (endP Q) (slots0 1 ds) := by
  rintro _ Q E ⟨t, v, rfl, h⟩
  unfold m_Ball_table
  walk_at "rdn"
  exact ⟨_, ball_table _ _, h⟩
section
variable {P : Program} {w : World} {K : PySem.W.Frag} {mg : Str → Option Value} {base : Heap} {CN : String → Option Addr}
theorem ok_Ball_table {f : Addr} {fd : FuncData} (F : Fun K "table" "Ball.table" s_Ball_table f fd) (g : G K mg CN)  : FnG P w K mg base 1 f fd ["self"] (spP K CN D_Ball_table) := by
  have sc := sc_Ball_table
  exact fun_okP (m := m_Ball_table) F sc (by decide) len_Ball_table (fun cdv A outer s H E C W hw hr tk =>
    (pds_one (pds_ret (pdr_of (pd_attr g.na_Ball__table (dv 0)))))) rd_Ball_table
end
end LW
namespace LW
open PySem PySem.Spec PyProof.Rows L2 DL
/-- for at in range(max(b, min(c, len(script)))) -/
theorem at_loopB {ns : List Int} {b c : Int} {body : MS} {D : DE} {rest : DSt} (hl : ns.length ≤ 63) (hb : 1 ≤ b ∧ b ≤ 60) (hc : 1 ≤ c ∧ c ≤ 60) (I : DSt → Prop) (h0 : I (.scr ns :: rest)) (hs : ∀ j : Int, 0 ≤ j → j < 2 ^ 20 → ∀ (s : DSt) (N : DSt → Prop), I s → (∀ s', I s' → N s') → body { D with nx := N, ct := N, bk := D.nx } (sset s 1 (.va (.int j)))) (hf : ∀ s, I s → D.nx s) :
    mFor (miRng1 (mCons (mCallB bMax (mCons (mC (.int b)) (mCons (mCallB bMin (mCons (mC (.int c)) (mCons (mLenScr 0) (mNil)))) (mNil)))) (mNil))) (mgName 1) body D (.scr ns :: rest) := by
  walk_at "rdn"
  generalize hk : (if (if (ns.length : Int) < c then (ns.length : Int) else c) > b then if (ns.length : Int) < c then (ns.length : Int) else c else b) = k
  have k0 : 0 ≤ k := by rw [← hk]; split <;> (try split) <;> omega
  have k1 : k ≤ 60 := by rw [← hk]; split <;> (try split) <;> omega
  refine ⟨by omega, by omega, ?_⟩
  refine forL_run (fun r s => (∀ d ∈ r, ∃ j : Int, d = .int j ∧ 0 ≤ j ∧ j < 2 ^ 20) ∧ I s) ?_ ?_ _ _ ⟨?_, h0⟩
  · rintro d r s N ⟨hd, i⟩ hN
    obtain ⟨j, rfl, j0, j1⟩ := hd d (by simp)
    have hd' := fun d h => hd d (List.mem_cons_of_mem _ h)
    exact hs j j0 j1 s N i fun s' i' => hN s' ⟨hd', i'⟩
  · rintro s ⟨-, i⟩
    exact hf s i
  · intro d hd
    unfold rangeL at hd
    obtain ⟨i, hi, rfl⟩ := List.mem_map.mp hd
    have := List.mem_range.mp hi
    exact ⟨_, rfl, by omega, by omega⟩
theorem ten_pow (k : Int) (n : Int) (h0 : 0 ≤ k) (h1 : k ≤ 100) (e : (10 : Int) ^ k.toNat = n) : opPow (.int 10) (.int k) = some (.int n) := by
  rw [opPow_i, if_pos ⟨h0, h1, big10⟩, e]
end LW
namespace LW
open PySem PySem.Spec PyProof.Rows L2 DL
def m_law : MS :=
  mSeq (mFor (miRng1 (mCons (mCallB bMax (mCons (mC (.int 20)) (mCons (mCallB bMin (mCons (mC (.int 40)) (mCons (mLenScr 0) (mNil)))) (mNil)))) (mNil))) (mgName 1) (mSeq (mAsgR 2 (mWell 0 (mVar 1)))
  (mSeq (mAsg (mCallW D__law_desk 2 (mCons (mC (.int 9)) (mNil))) (mgName 3))
  (mSeq (mAsg (mCallW D__law_roll 2 (mCons (mVar 3) (mCons (mC (.int 4)) (mNil)))) (mgName 4))
  (mSeq (mAsg (mMake "Ball" D_Ball_init wF (mCons (mVar 3) (mCons (mVar 4) (mNil)))) (mgName 5))
  (mSeq (mAsg (mOp2 opMod (mCallB bInt (mCons (mVar 1) (mNil))) (mC (.int 5))) (mgName 6))
  (mSeq (mAsg (mCallW D__law_case 2 (mCons (mVar 6) (mCons (mVar 5) (mCons (mVar 3) (mCons (mVar 4) (mNil)))))) (mgTup 3 (mgCons (mgName 7) (mgCons (mgName 8) (mgCons (mgName 9) (mgNil))))))
  (mIf (mTOr (mT (mOp2 opNe (mCall D__law_told wF (mCons (mVar 6) (mCons (mVar 5) (mCons (mVar 7) (mCons (mVar 8) (mNil)))))) (mVar 9))) (mTOr (mT (mOp2 opNe (mUnM "Ball" D_Ball_table (mVar 5)) (mVar 3))) (mT (mOp2 opNe (mUnM "Ball" D_Ball_shot (mVar 5)) (mVar 4))))) (mRet (mrOf (mC (.bool false)))) (mNext)))))))))
  (mRet (mrOf (mC (.bool true))))
theorem vd_roll {k : Nat} {a b x y p q c : Int} (hc : c < 2 ^ k) (c0 : 1 ≤ c) (a1 : 1 ≤ a) (b1 : 1 ≤ b) (x0 : 0 ≤ x) (x1 : x ≤ a) (y0 : 0 ≤ y) (y1 : y ≤ b) (w : p ≠ 0 ∨ q ≠ 0) (ha : a ≤ c) (hb : b ≤ c) (hp : -c ≤ p ∧ p ≤ c) (hq : -c ≤ q ∧ q ≤ c) : Vd k a b x y p q := by
  have e : ((2 ^ k : Nat) : Int) = 2 ^ k := by simp
  refine ⟨a1, b1, x0, x1, y0, y1, w, ?_, ?_, ?_, ?_, ?_, ?_⟩ <;> (unfold sz; omega)
theorem told_word {w a b x y p q : Int} {X Y : PyData} {r : Str} (h : Told35 w a b x y p q X Y r) : r = "table" ∨ r = "shot" ∨ r = "time" ∨ r = "ball" ∨ r = "unlike" ∨ r = "none" := by
  rcases h with ⟨-, ⟨-, rfl⟩ | ⟨-, -, rfl⟩ | ⟨-, -, rfl⟩⟩ | ⟨-, ⟨-, rfl⟩ | ⟨-, -, rfl⟩⟩ | ⟨-, ⟨-, rfl⟩ | ⟨_, _, _, _, _, _, -, ⟨-, rfl⟩ | ⟨-, -, -, rfl⟩⟩⟩ <;> simp
theorem word_sd {r : Str} (h : r = "table" ∨ r = "shot" ∨ r = "time" ∨ r = "ball" ∨ r = "unlike" ∨ r = "none") : sd 1 (.str r) = true := by
  rcases h with rfl | rfl | rfl | rfl | rfl | rfl <;> decide +kernel
theorem rd_law : ∀ ns : List Int, ns.length ≤ 63 → (∀ z ∈ ns, Builtin.Int.intBits z ≤ 1048576) → m_law endL (.scr ns :: List.replicate (["script", "at", "well", "desk", "shot_here", "a", "way", "x", "y", "due"].length - 1) .no) := by
  intro ns hl hb
  unfold m_law
  show mSeq _ _ _ [.scr ns, .no, .no, .no, .no, .no, .no, .no, .no, .no]
  refine seq_run (fun s => ∃ x1 x2 x3 x4 x5 x6 x7 x8 x9, s = [.scr ns, x1, x2, x3, x4, x5, x6, x7, x8, x9]) (fun N0 h0 => ?_) ?_
  · refine at_loopB hl (by decide) (by decide) (fun s => ∃ x1 x2 x3 x4 x5 x6 x7 x8 x9, s = [.scr ns, x1, x2, x3, x4, x5, x6, x7, x8, x9]) ⟨_, _, _, _, _, _, _, _, _, rfl⟩ ?_ ?_
    · rintro j j0 j1 s N1 ⟨x1, x2, x3, x4, x5, x6, x7, x8, x9, rfl⟩ hN1
      simp only [sset]
      refine seq_run (fun s => ∃ n, s = [.scr ns, .va (.int j), .well n, x3, x4, x5, x6, x7, x8, x9] ∧ 2 ^ 59 + 900 ≤ n) (fun N2 h2 => ?_) ?_
      · walk_at "rdn"
        exact ⟨hl, hb, j0, j1, h2 _ ⟨_, rfl, by decide⟩⟩
      rintro _ ⟨n, rfl, hn⟩
      refine seq_step fun N3 hN3 => ?_
      walk_at "rdn"
      refine ⟨_, rfl, by omega, by decide, by decide, fun a b n1 hn1 a1 a2 b1 b2 => ⟨_, rfl, ?_⟩⟩
      try walk_at "rdn"
      subst hN3
      refine seq_step fun N3 hN3 => ?_
      walk_at "rdn"
      refine ⟨a, b, 4, rfl, by omega, a1, by omega, b1, by omega, by decide, by decide, fun x y p q n2 hn2 x0 x1 y0 y1 hp hq hw => ⟨_, rfl, ?_⟩⟩
      try walk_at "rdn"
      subst hN3
      have v : Vd 20 a b x y p q := vd_roll (c := 100) (by decide) (by decide) a1 b1 x0 x1 y0 y1 hw (by omega) (by omega) (by omega) (by omega)
      refine seq_step fun N3 hN3 => ?_
      walk_at "rdn"
      simp only [mMake, mCons, mNil, mVar, sget]
      refine ball_new v.tab v.shot ⟨rfl, ?_⟩
      walk_at "rdn"
      subst hN3
      refine seq_step fun N3 hN3 => ?_
      walk_at "rdn"
      refine ⟨_, opMod_ok (by decide), ?_⟩
      have w0 : 0 ≤ j % 5 := Int.emod_nonneg _ (by decide)
      have w5 : j % 5 < 5 := Int.emod_lt_of_pos _ (by decide)
      generalize j % 5 = w at *
      subst hN3
      refine seq_step fun N3 hN3 => ?_
      walk_at "rdn"
      refine ⟨w, a, b, x, y, p, q, rfl, w0, by omega, v, by omega, fun X Y r n3 hn3 ht => ⟨_, rfl, ?_⟩⟩
      walk_at "rdn"
      subst hN3
      refine if_run false (fun Q h => ?_) (fun hc => by cases hc) (fun _ => ?_)
      · simp only [mTOr, mT, mOp2, mCall, mUnM, mCons, mNil, mVar, sget]
        refine ⟨w, a, b, x, y, p, q, X, Y, r, rfl, v.mono (by decide), ht, _, rfl, _, opNe_self (j := 1) (by decide) (word_sd (told_word ht)), _, rfl, ?_⟩
        rw [if_neg (by decide)]
        refine ⟨⟨_, rfl⟩, ⟨_, _, rfl, _, rfl, _, opNe_self (j := 2) (by decide) rfl, _, rfl, ?_⟩⟩
        rw [if_neg (by decide)]
        exact ⟨⟨_, rfl⟩, ⟨_, _, rfl, _, rfl, _, opNe_self (j := 2) (by decide) rfl, _, rfl, h⟩⟩
      walk_at "rdn"
      exact hN1 _ ⟨_, _, _, _, _, _, _, _, _, rfl⟩
    · rintro s ⟨x1, x2, x3, x4, x5, x6, x7, x8, x9, rfl⟩
      exact h0 _ ⟨_, _, _, _, _, _, _, _, _, rfl⟩
  · rintro _ ⟨x1, x2, x3, x4, x5, x6, x7, x8, x9, rfl⟩
    walk_at "rdn"
section
variable {P : Program} {w : World} {K : PySem.W.Frag} {mg : Str → Option Value} {base : Heap} {CN : String → Option Addr}
theorem ok_law {f : Addr} {fd : FuncData} (F : Fun K "law" "law" s_law f fd) (g : G K mg CN) (c_Ball_init : CalI P w K mg base CN 7 "Ball" D_Ball_init) (c_Ball_shot : CalPr P w K mg base CN 1 "Ball" "shot" D_Ball_shot) (c_Ball_table : CalPr P w K mg base CN 1 "Ball" "table" D_Ball_table) (c__law_case : CalW P w K mg base 9 "_law_case" D__law_case) (c__law_desk : CalW P w K mg base 2 "_law_desk" D__law_desk) (c__law_roll : CalW P w K mg base 2 "_law_roll" D__law_roll) (c__law_told : CalP P w K mg base CN 10 "_law_told" D__law_told) (c__law_well : CalL P w K mg base 1 "_law_well") : FnG P w K mg base 11 f fd ["script"] (spL K) := by
  have sc := sc_law
  exact fun_okL (m := m_law) (CN := CN) F sc (by decide) (fun cdv A outer s H E C hw hr tk =>
    (pds_cons (pds_for (ps_for psw rfl (d_range1 g.b_range (pda_cons (pd_callB (call_max2 rfl) rc_max g.b_max (by decide +kernel) (pda_cons pd_int (pda_cons (pd_callB (call_min2 rfl) rc_min g.b_min (by decide +kernel) (pda_cons pd_int (pda_cons (pd_lenScr (x := "") g.b_len (i := 0) rfl (.inl rfl)) pda_nil))) pda_nil))) pda_nil)) (dg 1 sc.nd) (pds_cons (pds_asgR (ps_set (i := 2) sc.nd rfl (.inl rfl) (pdr_well hw c__law_well hr (by decide) tk (pv 0) (dv 1))))
    (pds_cons (pds_asg (ps_asg (pd_callW c__law_desk hr (by decide) tk (pv 2) (pda_cons pd_int pda_nil)) (dg 3 sc.nd)))
    (pds_cons (pds_asg (ps_asg (pd_callW c__law_roll hr (by decide) tk (pv 2) (pda_cons (dv 3) (pda_cons pd_int pda_nil))) (dg 4 sc.nd)))
    (pds_cons (pds_asg (ps_asg (pd_make c_Ball_init hr (by decide) tk (pda_cons (dv 3) (pda_cons (dv 4) pda_nil))) (dg 5 sc.nd)))
    (pds_cons (pds_asg (ps_asg (pd_op op_mod rl_mod (pd_callTy cr_int rc_int g.b_int (by decide +kernel) (pda_cons (dv 1) pda_nil)) pd_int) (dg 6 sc.nd)))
    (pds_cons (pds_asg (ps_asg (pd_callW c__law_case hr (by decide) tk (pv 2) (pda_cons (dv 6) (pda_cons (dv 5) (pda_cons (dv 3) (pda_cons (dv 4) pda_nil))))) (pdg_tup rfl (gcons (dg 7 sc.nd) (gcons (dg 8 sc.nd) (gcons (dg 9 sc.nd) pdgs_nil))))))
    (pds_one (pds_if (pdt_ofw (pdw_or (pdt_cmp (or_neD (RoomG.u64 hr)) rl_ne (pd_call c__law_told hr (by decide) tk (pda_cons (dv 6) (pda_cons (dv 5) (pda_cons (dv 7) (pda_cons (dv 8) pda_nil))))) (dv 9) (nomark _)) (pdw_or (pdt_cmp (or_neD (RoomG.u64 hr)) rl_ne (pd_propM c_Ball_table hr (by decide) (dv 5) rfl) (dv 3) (nomark _)) (pdw_or1 (pdt_cmp (or_neD (RoomG.u64 hr)) rl_ne (pd_propM c_Ball_shot hr (by decide) (dv 5) rfl) (dv 4) (nomark _)))))) (pds_one (pds_ret (pdr_of pd_bl))) pds_nil))))))))))
    (pds_one (pds_ret (pdr_of pd_bl))))) rd_law
end
end LW
namespace LW
open PySem PySem.Spec PyProof.Rows L2 DL
theorem all_mk {l : PySem.W.OpenLaw} {w : World} {K : PySem.W.Frag} {h : Heap} {mg : Str → Option Value} {fa f1 f2 f3 f4 f5 f6 f7 f8 f9 f10 f11 f12 f13 f14 f15 f16 f17 f18 f19 f20 f21 f22 f23 f24 f25 f26 f27 f28 f29 f30 f31 f32 f33 f34 f35 f36 f37 C_InvalidShot C_InvalidTable C_InvalidTime C_NotABall C_OtherTable C_Ball C_ShotError : Addr} (X : K.In h) (G0 : h.Ns mainGlobals mg) (hfa : mg "law" = some (.ref fa))
    {od1 an1 od2 an2 od3 an3 od4 an4 od5 an5 od6 an6 od7 an7 od8 an8 od9 an9 od10 an10 od11 an11 od12 an12 od13 an13 od14 an14 od15 an15 od16 an16 od17 an17 od18 an18 od19 an19 od20 an20 od21 an21 od22 an22 od23 an23 od24 an24 od25 an25 od26 an26 od27 an27 od28 an28 od29 an29 od30 an30 od31 an31 od32 an32 od33 an33 od34 an34 od35 an35 od36 an36 od37 an37 : Option Addr} {sl1 sl2 sl3 sl4 sl5 sl6 sl7 sl8 sl9 sl10 sl11 sl12 sl13 sl14 sl15 sl16 sl17 sl18 sl19 sl20 sl21 sl22 sl23 sl24 sl25 sl26 sl27 sl28 sl29 sl30 sl31 sl32 sl33 sl34 sl35 sl36 sl37 : Array (Option Value)} {oc1 kV1 dc1 pm1 cd1 ct1 oc2 kV2 dc2 pm2 cd2 ct2 oc3 kV3 dc3 pm3 cd3 ct3 oc4 kV4 dc4 pm4 cd4 ct4 oc5 kV5 dc5 pm5 cd5 ct5 oc6 kV6 dc6 pm6 cd6 ct6 oc7 kV7 dc7 pm7 cd7 ct7 oc8 kV8 dc8 pm8 cd8 ct8 oc9 kV9 dc9 pm9 cd9 ct9 oc10 kV10 dc10 pm10 cd10 ct10 oc11 kV11 dc11 pm11 cd11 ct11 oc12 kV12 dc12 pm12 cd12 ct12 oc13 kV13 dc13 pm13 cd13 ct13 oc14 kV14 dc14 pm14 cd14 ct14 oc15 kV15 dc15 pm15 cd15 ct15 oc16 kV16 dc16 pm16 cd16 ct16 oc17 kV17 dc17 pm17 cd17 ct17 oc18 kV18 dc18 pm18 cd18 ct18 oc19 kV19 dc19 pm19 cd19 ct19 oc20 kV20 dc20 pm20 cd20 ct20 oc21 kV21 dc21 pm21 cd21 ct21 oc22 kV22 dc22 pm22 cd22 ct22 oc23 kV23 dc23 pm23 cd23 ct23 oc24 kV24 dc24 pm24 cd24 ct24 oc25 kV25 dc25 pm25 cd25 ct25 oc26 kV26 dc26 pm26 cd26 ct26 oc27 kV27 dc27 pm27 cd27 ct27 oc28 kV28 dc28 pm28 cd28 ct28 oc29 kV29 dc29 pm29 cd29 ct29 oc30 kV30 dc30 pm30 cd30 ct30 oc31 kV31 dc31 pm31 cd31 ct31 oc32 kV32 dc32 pm32 cd32 ct32 oc33 kV33 dc33 pm33 cd33 ct33 oc34 kV34 dc34 pm34 cd34 ct34 oc35 kV35 dc35 pm35 cd35 ct35 oc36 kV36 dc36 pm36 cd36 ct36 oc37 kV37 dc37 pm37 cd37 ct37 : Value}
    (o1_Ball : PySem.W.nsIn K mainGlobals "Ball" = some (some (.ref C_Ball))) (o2_Ball : PySem.W.plainGet K C_Ball Str.empty = true) (o3_Ball : PySem.W.hasDictIn K C_Ball = true) (o4_Ball : PySem.W.plainOver K C_Ball = true) (o5_Ball : PySem.W.findIn K (.ref C_Ball) "__setattr__" = some (some (.builtin "object.__setattr__")))
    (o6_Ball : PySem.W.findIn K (.ref C_Ball) "__class__" = some (some (.builtin "object.__class__"))) (o7_Ball : PySem.W.mroIn K C_Ball (.type "object") = some true) (o9_Ball : PySem.W.makesIn K C_Ball = true) (oa_Ball : PySem.W.keepIn K (.ref C_Ball) = true) (ob_Ball : PySem.W.selfFirst K C_Ball = true)
    (o8kInt_Ball : PySem.W.kitOne K (.ref C_Ball) (.type "int") = some false)
    (o8kBool_Ball : PySem.W.kitOne K (.ref C_Ball) (.type "bool") = some false)
    (o8kStr_Ball : PySem.W.kitOne K (.ref C_Ball) (.type "str") = some false)
    (o8kTup_Ball : PySem.W.kitOne K (.ref C_Ball) (.type "tuple") = some false)
    (o8kLst_Ball : PySem.W.kitOne K (.ref C_Ball) (.type "list") = some false)
    (o8kDict_Ball : PySem.W.kitOne K (.ref C_Ball) (.type "dict") = some false)
    (on_Ball_and : PySem.W.findIn K (.ref C_Ball) "__rand__" = some none)
    (oc_Ball__shot : PySem.W.findIn K (.ref C_Ball) "_shot" = some none)
    (oc_Ball__table : PySem.W.findIn K (.ref C_Ball) "_table" = some none)
    (od_Ball_NoneType : PySem.W.kitOne K (.type "NoneType") (.ref C_Ball) = some false)
    (od_Ball_bool : PySem.W.kitOne K (.type "bool") (.ref C_Ball) = some false)
    (od_Ball_int : PySem.W.kitOne K (.type "int") (.ref C_Ball) = some false)
    (od_Ball_str : PySem.W.kitOne K (.type "str") (.ref C_Ball) = some false)
    (od_Ball_list : PySem.W.kitOne K (.type "list") (.ref C_Ball) = some false)
    (od_Ball_tuple : PySem.W.kitOne K (.type "tuple") (.ref C_Ball) = some false)
    (od_Ball_dict : PySem.W.kitOne K (.type "dict") (.ref C_Ball) = some false)
    (a1 : PySem.W.nsIn K mainGlobals "is_whole" = some (some (.ref f1))) (l1 : K.lookup f1 = some ⟨oc1, od1, .func (PySem.W.fnOf "is_whole" "is_whole" (defArgs s_is_whole) (defBody s_is_whole) (defScope s_is_whole) .none kV1 dc1 pm1 an1 cd1 ct1), sl1⟩) (c1 : PySem.W.codeIn K cd1 "is_whole" = true) (k1 : PySem.W.keepIn K (.ref f1) = true)
    (a2 : PySem.W.nsIn K mainGlobals "are_whole" = some (some (.ref f2))) (l2 : K.lookup f2 = some ⟨oc2, od2, .func (PySem.W.fnOf "are_whole" "are_whole" (defArgs s_are_whole) (defBody s_are_whole) (defScope s_are_whole) .none kV2 dc2 pm2 an2 cd2 ct2), sl2⟩) (c2 : PySem.W.codeIn K cd2 "are_whole" = true) (k2 : PySem.W.keepIn K (.ref f2) = true)
    (a3 : PySem.W.nsIn K mainGlobals "fraction_of" = some (some (.ref f3))) (l3 : K.lookup f3 = some ⟨oc3, od3, .func (PySem.W.fnOf "fraction_of" "fraction_of" (defArgs s_fraction_of) (defBody s_fraction_of) (defScope s_fraction_of) .none kV3 dc3 pm3 an3 cd3 ct3), sl3⟩) (c3 : PySem.W.codeIn K cd3 "fraction_of" = true) (k3 : PySem.W.keepIn K (.ref f3) = true)
    (a4 : PySem.W.nsIn K mainGlobals "_line_of" = some (some (.ref f4))) (l4 : K.lookup f4 = some ⟨oc4, od4, .func (PySem.W.fnOf "_line_of" "_line_of" (defArgs s__line_of) (defBody s__line_of) (defScope s__line_of) .none kV4 dc4 pm4 an4 cd4 ct4), sl4⟩) (c4 : PySem.W.codeIn K cd4 "_line_of" = true) (k4 : PySem.W.keepIn K (.ref f4) = true)
    (a5 : PySem.W.nsIn K mainGlobals "lines_of" = some (some (.ref f5))) (l5 : K.lookup f5 = some ⟨oc5, od5, .func (PySem.W.fnOf "lines_of" "lines_of" (defArgs s_lines_of) (defBody s_lines_of) (defScope s_lines_of) .none kV5 dc5 pm5 an5 cd5 ct5), sl5⟩) (c5 : PySem.W.codeIn K cd5 "lines_of" = true) (k5 : PySem.W.keepIn K (.ref f5) = true)
    (a6 : PySem.W.nsIn K mainGlobals "_first_out" = some (some (.ref f6))) (l6 : K.lookup f6 = some ⟨oc6, od6, .func (PySem.W.fnOf "_first_out" "_first_out" (defArgs s__first_out) (defBody s__first_out) (defScope s__first_out) .none kV6 dc6 pm6 an6 cd6 ct6), sl6⟩) (c6 : PySem.W.codeIn K cd6 "_first_out" = true) (k6 : PySem.W.keepIn K (.ref f6) = true)
    (a7 : PySem.W.nsIn K mainGlobals "first_between" = some (some (.ref f7))) (l7 : K.lookup f7 = some ⟨oc7, od7, .func (PySem.W.fnOf "first_between" "first_between" (defArgs s_first_between) (defBody s_first_between) (defScope s_first_between) .none kV7 dc7 pm7 an7 cd7 ct7), sl7⟩) (c7 : PySem.W.codeIn K cd7 "first_between" = true) (k7 : PySem.W.keepIn K (.ref f7) = true)
    (a8 : PySem.W.nsIn K mainGlobals "first_within" = some (some (.ref f8))) (l8 : K.lookup f8 = some ⟨oc8, od8, .func (PySem.W.fnOf "first_within" "first_within" (defArgs s_first_within) (defBody s_first_within) (defScope s_first_within) .none kV8 dc8 pm8 an8 cd8 ct8), sl8⟩) (c8 : PySem.W.codeIn K cd8 "first_within" = true) (k8 : PySem.W.keepIn K (.ref f8) = true)
    (a9 : PySem.W.nsIn K mainGlobals "is_table" = some (some (.ref f9))) (l9 : K.lookup f9 = some ⟨oc9, od9, .func (PySem.W.fnOf "is_table" "is_table" (defArgs s_is_table) (defBody s_is_table) (defScope s_is_table) .none kV9 dc9 pm9 an9 cd9 ct9), sl9⟩) (c9 : PySem.W.codeIn K cd9 "is_table" = true) (k9 : PySem.W.keepIn K (.ref f9) = true)
    (a10 : PySem.W.nsIn K mainGlobals "check_table" = some (some (.ref f10))) (l10 : K.lookup f10 = some ⟨oc10, od10, .func (PySem.W.fnOf "check_table" "check_table" (defArgs s_check_table) (defBody s_check_table) (defScope s_check_table) .none kV10 dc10 pm10 an10 cd10 ct10), sl10⟩) (c10 : PySem.W.codeIn K cd10 "check_table" = true) (k10 : PySem.W.keepIn K (.ref f10) = true)
    (a11 : PySem.W.nsIn K mainGlobals "is_any_shot" = some (some (.ref f11))) (l11 : K.lookup f11 = some ⟨oc11, od11, .func (PySem.W.fnOf "is_any_shot" "is_any_shot" (defArgs s_is_any_shot) (defBody s_is_any_shot) (defScope s_is_any_shot) .none kV11 dc11 pm11 an11 cd11 ct11), sl11⟩) (c11 : PySem.W.codeIn K cd11 "is_any_shot" = true) (k11 : PySem.W.keepIn K (.ref f11) = true)
    (a12 : PySem.W.nsIn K mainGlobals "is_shot" = some (some (.ref f12))) (l12 : K.lookup f12 = some ⟨oc12, od12, .func (PySem.W.fnOf "is_shot" "is_shot" (defArgs s_is_shot) (defBody s_is_shot) (defScope s_is_shot) .none kV12 dc12 pm12 an12 cd12 ct12), sl12⟩) (c12 : PySem.W.codeIn K cd12 "is_shot" = true) (k12 : PySem.W.keepIn K (.ref f12) = true)
    (a13 : PySem.W.nsIn K mainGlobals "is_fraction" = some (some (.ref f13))) (l13 : K.lookup f13 = some ⟨oc13, od13, .func (PySem.W.fnOf "is_fraction" "is_fraction" (defArgs s_is_fraction) (defBody s_is_fraction) (defScope s_is_fraction) .none kV13 dc13 pm13 an13 cd13 ct13), sl13⟩) (c13 : PySem.W.codeIn K cd13 "is_fraction" = true) (k13 : PySem.W.keepIn K (.ref f13) = true)
    (a14 : PySem.W.nsIn K mainGlobals "check_shot" = some (some (.ref f14))) (l14 : K.lookup f14 = some ⟨oc14, od14, .func (PySem.W.fnOf "check_shot" "check_shot" (defArgs s_check_shot) (defBody s_check_shot) (defScope s_check_shot) .none kV14 dc14 pm14 an14 cd14 ct14), sl14⟩) (c14 : PySem.W.codeIn K cd14 "check_shot" = true) (k14 : PySem.W.keepIn K (.ref f14) = true)
    (a15 : PySem.W.nsIn K mainGlobals "check_time" = some (some (.ref f15))) (l15 : K.lookup f15 = some ⟨oc15, od15, .func (PySem.W.fnOf "check_time" "check_time" (defArgs s_check_time) (defBody s_check_time) (defScope s_check_time) .none kV15 dc15 pm15 an15 cd15 ct15), sl15⟩) (c15 : PySem.W.codeIn K cd15 "check_time" = true) (k15 : PySem.W.keepIn K (.ref f15) = true)
    (a16 : PySem.W.nsIn K mainGlobals "_check_all" = some (some (.ref f16))) (l16 : K.lookup f16 = some ⟨oc16, od16, .func (PySem.W.fnOf "_check_all" "_check_all" (defArgs s__check_all) (defBody s__check_all) (defScope s__check_all) .none kV16 dc16 pm16 an16 cd16 ct16), sl16⟩) (c16 : PySem.W.codeIn K cd16 "_check_all" = true) (k16 : PySem.W.keepIn K (.ref f16) = true)
    (a17 : PySem.W.nsIn K mainGlobals "_fold" = some (some (.ref f17))) (l17 : K.lookup f17 = some ⟨oc17, od17, .func (PySem.W.fnOf "_fold" "_fold" (defArgs s__fold) (defBody s__fold) (defScope s__fold) .none kV17 dc17 pm17 an17 cd17 ct17), sl17⟩) (c17 : PySem.W.codeIn K cd17 "_fold" = true) (k17 : PySem.W.keepIn K (.ref f17) = true)
    (a18 : PySem.W.nsIn K mainGlobals "_place" = some (some (.ref f18))) (l18 : K.lookup f18 = some ⟨oc18, od18, .func (PySem.W.fnOf "_place" "_place" (defArgs s__place) (defBody s__place) (defScope s__place) .none kV18 dc18 pm18 an18 cd18 ct18), sl18⟩) (c18 : PySem.W.codeIn K cd18 "_place" = true) (k18 : PySem.W.keepIn K (.ref f18) = true)
    (a19 : PySem.W.nsIn K mainGlobals "place_at" = some (some (.ref f19))) (l19 : K.lookup f19 = some ⟨oc19, od19, .func (PySem.W.fnOf "place_at" "place_at" (defArgs s_place_at) (defBody s_place_at) (defScope s_place_at) .none kV19 dc19 pm19 an19 cd19 ct19), sl19⟩) (c19 : PySem.W.codeIn K cd19 "place_at" = true) (k19 : PySem.W.keepIn K (.ref f19) = true)
    (a20 : PySem.W.nsIn K mainGlobals "_check_shots" = some (some (.ref f20))) (l20 : K.lookup f20 = some ⟨oc20, od20, .func (PySem.W.fnOf "_check_shots" "_check_shots" (defArgs s__check_shots) (defBody s__check_shots) (defScope s__check_shots) .none kV20 dc20 pm20 an20 cd20 ct20), sl20⟩) (c20 : PySem.W.codeIn K cd20 "_check_shots" = true) (k20 : PySem.W.keepIn K (.ref f20) = true)
    (a21 : PySem.W.nsIn K mainGlobals "_both" = some (some (.ref f21))) (l21 : K.lookup f21 = some ⟨oc21, od21, .func (PySem.W.fnOf "_both" "_both" (defArgs s__both) (defBody s__both) (defScope s__both) .none kV21 dc21 pm21 an21 cd21 ct21), sl21⟩) (c21 : PySem.W.codeIn K cd21 "_both" = true) (k21 : PySem.W.keepIn K (.ref f21) = true)
    (a22 : PySem.W.nsIn K mainGlobals "_gaps" = some (some (.ref f22))) (l22 : K.lookup f22 = some ⟨oc22, od22, .func (PySem.W.fnOf "_gaps" "_gaps" (defArgs s__gaps) (defBody s__gaps) (defScope s__gaps) .none kV22 dc22 pm22 an22 cd22 ct22), sl22⟩) (c22 : PySem.W.codeIn K cd22 "_gaps" = true) (k22 : PySem.W.keepIn K (.ref f22) = true)
    (a23 : PySem.W.nsIn K mainGlobals "_same_numbers" = some (some (.ref f23))) (l23 : K.lookup f23 = some ⟨oc23, od23, .func (PySem.W.fnOf "_same_numbers" "_same_numbers" (defArgs s__same_numbers) (defBody s__same_numbers) (defScope s__same_numbers) .none kV23 dc23 pm23 an23 cd23 ct23), sl23⟩) (c23 : PySem.W.codeIn K cd23 "_same_numbers" = true) (k23 : PySem.W.keepIn K (.ref f23) = true)
    (a24 : PySem.W.nsIn K mainGlobals "_meetings" = some (some (.ref f24))) (l24 : K.lookup f24 = some ⟨oc24, od24, .func (PySem.W.fnOf "_meetings" "_meetings" (defArgs s__meetings) (defBody s__meetings) (defScope s__meetings) .none kV24 dc24 pm24 an24 cd24 ct24), sl24⟩) (c24 : PySem.W.codeIn K cd24 "_meetings" = true) (k24 : PySem.W.keepIn K (.ref f24) = true)
    (a25 : PySem.W.nsIn K mainGlobals "first_meeting" = some (some (.ref f25))) (l25 : K.lookup f25 = some ⟨oc25, od25, .func (PySem.W.fnOf "first_meeting" "first_meeting" (defArgs s_first_meeting) (defBody s_first_meeting) (defScope s_first_meeting) .none kV25 dc25 pm25 an25 cd25 ct25), sl25⟩) (c25 : PySem.W.codeIn K cd25 "first_meeting" = true) (k25 : PySem.W.keepIn K (.ref f25) = true)
    (a26 : PySem.W.nsIn K mainGlobals "_law_well" = some (some (.ref f26))) (l26 : K.lookup f26 = some ⟨oc26, od26, .func (PySem.W.fnOf "_law_well" "_law_well" (defArgs s__law_well) (defBody s__law_well) (defScope s__law_well) .none kV26 dc26 pm26 an26 cd26 ct26), sl26⟩) (c26 : PySem.W.codeIn K cd26 "_law_well" = true) (k26 : PySem.W.keepIn K (.ref f26) = true)
    (a27 : PySem.W.nsIn K mainGlobals "_law_draw" = some (some (.ref f27))) (l27 : K.lookup f27 = some ⟨oc27, od27, .func (PySem.W.fnOf "_law_draw" "_law_draw" (defArgs s__law_draw) (defBody s__law_draw) (defScope s__law_draw) .none kV27 dc27 pm27 an27 cd27 ct27), sl27⟩) (c27 : PySem.W.codeIn K cd27 "_law_draw" = true) (k27 : PySem.W.keepIn K (.ref f27) = true)
    (a28 : PySem.W.nsIn K mainGlobals "_law_desk" = some (some (.ref f28))) (l28 : K.lookup f28 = some ⟨oc28, od28, .func (PySem.W.fnOf "_law_desk" "_law_desk" (defArgs s__law_desk) (defBody s__law_desk) (defScope s__law_desk) .none kV28 dc28 pm28 an28 cd28 ct28), sl28⟩) (c28 : PySem.W.codeIn K cd28 "_law_desk" = true) (k28 : PySem.W.keepIn K (.ref f28) = true)
    (a29 : PySem.W.nsIn K mainGlobals "_law_roll" = some (some (.ref f29))) (l29 : K.lookup f29 = some ⟨oc29, od29, .func (PySem.W.fnOf "_law_roll" "_law_roll" (defArgs s__law_roll) (defBody s__law_roll) (defScope s__law_roll) .none kV29 dc29 pm29 an29 cd29 ct29), sl29⟩) (c29 : PySem.W.codeIn K cd29 "_law_roll" = true) (k29 : PySem.W.keepIn K (.ref f29) = true)
    (a30 : PySem.W.findIn K (.ref C_Ball) "__and__" = some (some (.ref f30))) (n30 : PySem.W.isFn K (.ref f30) = true) (l30 : K.lookup f30 = some ⟨oc30, od30, .func (PySem.W.fnOf "__and__" "Ball.__and__" (defArgs s_Ball_and) (defBody s_Ball_and) (defScope s_Ball_and) .none kV30 dc30 pm30 an30 cd30 ct30), sl30⟩) (c30 : PySem.W.codeIn K cd30 "Ball.__and__" = true) (k30 : PySem.W.keepIn K (.ref f30) = true)
    (a31 : PySem.W.findIn K (.ref C_Ball) "__call__" = some (some (.ref f31))) (n31 : PySem.W.isFn K (.ref f31) = true) (l31 : K.lookup f31 = some ⟨oc31, od31, .func (PySem.W.fnOf "__call__" "Ball.__call__" (defArgs s_Ball_call) (defBody s_Ball_call) (defScope s_Ball_call) .none kV31 dc31 pm31 an31 cd31 ct31), sl31⟩) (c31 : PySem.W.codeIn K cd31 "Ball.__call__" = true) (k31 : PySem.W.keepIn K (.ref f31) = true)
    (fi31 : PySem.W.fnIn K f31 = true)
    (a32 : PySem.W.findIn K (.ref C_Ball) "__init__" = some (some (.ref f32))) (n32 : PySem.W.isFn K (.ref f32) = true) (l32 : K.lookup f32 = some ⟨oc32, od32, .func (PySem.W.fnOf "__init__" "Ball.__init__" (defArgs s_Ball_init) (defBody s_Ball_init) (defScope s_Ball_init) .none kV32 dc32 pm32 an32 cd32 ct32), sl32⟩) (c32 : PySem.W.codeIn K cd32 "Ball.__init__" = true) (k32 : PySem.W.keepIn K (.ref f32) = true)
    (a33 : PySem.W.nsIn K mainGlobals "_law_told" = some (some (.ref f33))) (l33 : K.lookup f33 = some ⟨oc33, od33, .func (PySem.W.fnOf "_law_told" "_law_told" (defArgs s__law_told) (defBody s__law_told) (defScope s__law_told) .none kV33 dc33 pm33 an33 cd33 ct33), sl33⟩) (c33 : PySem.W.codeIn K cd33 "_law_told" = true) (k33 : PySem.W.keepIn K (.ref f33) = true)
    (a34 : PySem.W.nsIn K mainGlobals "_law_case" = some (some (.ref f34))) (l34 : K.lookup f34 = some ⟨oc34, od34, .func (PySem.W.fnOf "_law_case" "_law_case" (defArgs s__law_case) (defBody s__law_case) (defScope s__law_case) .none kV34 dc34 pm34 an34 cd34 ct34), sl34⟩) (c34 : PySem.W.codeIn K cd34 "_law_case" = true) (k34 : PySem.W.keepIn K (.ref f34) = true)
    {p35 : Addr} {q35 : List Value} (u35 : PySem.W.findIn K (.ref C_Ball) "shot" = some (some (.ref p35))) (v35 : PySem.W.specialIn K (.ref p35) "__get__" = some (some (.builtin "property.__get__"))) (w35 : PySem.W.takesIn K (.ref p35) = some true) (a35 : PySem.W.recIn K p35 "property" = some (.ref f35 :: q35)) (l35 : K.lookup f35 = some ⟨oc35, od35, .func (PySem.W.fnOf "shot" "Ball.shot" (defArgs s_Ball_shot) (defBody s_Ball_shot) (defScope s_Ball_shot) .none kV35 dc35 pm35 an35 cd35 ct35), sl35⟩) (c35 : PySem.W.codeIn K cd35 "Ball.shot" = true) (k35 : PySem.W.keepIn K (.ref f35) = true)
    {p36 : Addr} {q36 : List Value} (u36 : PySem.W.findIn K (.ref C_Ball) "table" = some (some (.ref p36))) (v36 : PySem.W.specialIn K (.ref p36) "__get__" = some (some (.builtin "property.__get__"))) (w36 : PySem.W.takesIn K (.ref p36) = some true) (a36 : PySem.W.recIn K p36 "property" = some (.ref f36 :: q36)) (l36 : K.lookup f36 = some ⟨oc36, od36, .func (PySem.W.fnOf "table" "Ball.table" (defArgs s_Ball_table) (defBody s_Ball_table) (defScope s_Ball_table) .none kV36 dc36 pm36 an36 cd36 ct36), sl36⟩) (c36 : PySem.W.codeIn K cd36 "Ball.table" = true) (k36 : PySem.W.keepIn K (.ref f36) = true)
    (a37 : PySem.W.nsIn K mainGlobals "law" = some (some (.ref f37))) (l37 : K.lookup f37 = some ⟨oc37, od37, .func (PySem.W.fnOf "law" "law" (defArgs s_law) (defBody s_law) (defScope s_law) .none kV37 dc37 pm37 an37 cd37 ct37), sl37⟩) (c37 : PySem.W.codeIn K cd37 "law" = true) (k37 : PySem.W.keepIn K (.ref f37) = true)
    (z_ValueError : PySem.W.nsIn K mainGlobals "ValueError" = some none)
    (z_abs : PySem.W.nsIn K mainGlobals "abs" = some none)
    (z_all : PySem.W.nsIn K mainGlobals "all" = some none)
    (z_bool : PySem.W.nsIn K mainGlobals "bool" = some none)
    (z_gcd : PySem.W.nsIn K mainGlobals "gcd" = some (some (.builtin "math.gcd")))
    (z_int : PySem.W.nsIn K mainGlobals "int" = some none)
    (z_isinstance : PySem.W.nsIn K mainGlobals "isinstance" = some none)
    (z_lcm : PySem.W.nsIn K mainGlobals "lcm" = some (some (.builtin "math.lcm")))
    (z_len : PySem.W.nsIn K mainGlobals "len" = some none)
    (z_list : PySem.W.nsIn K mainGlobals "list" = some none)
    (z_max : PySem.W.nsIn K mainGlobals "max" = some none)
    (z_min : PySem.W.nsIn K mainGlobals "min" = some none)
    (z_range : PySem.W.nsIn K mainGlobals "range" = some none)
    (z_reversed : PySem.W.nsIn K mainGlobals "reversed" = some none)
    (z_tuple : PySem.W.nsIn K mainGlobals "tuple" = some none)
    (x1_InvalidShot : PySem.W.nsIn K mainGlobals "InvalidShot" = some (some (.ref C_InvalidShot))) (x2_InvalidShot : PySem.W.excIn K C_InvalidShot [.type "ValueError", .type "Exception", .type "BaseException", .type "object"] "ValueError.__new__" = true) (x3_InvalidShot : PySem.W.keepIn K (.ref C_InvalidShot) = true)
    (x4_InvalidShot : PySem.W.subIn K (.ref C_InvalidShot) (.type "BaseException") = some true) (x5_InvalidShot : PySem.W.typeIn K (.ref C_InvalidShot) = some (.type "type"))
    (x1_InvalidTable : PySem.W.nsIn K mainGlobals "InvalidTable" = some (some (.ref C_InvalidTable))) (x2_InvalidTable : PySem.W.excIn K C_InvalidTable [.type "ValueError", .type "Exception", .type "BaseException", .type "object"] "ValueError.__new__" = true) (x3_InvalidTable : PySem.W.keepIn K (.ref C_InvalidTable) = true)
    (x4_InvalidTable : PySem.W.subIn K (.ref C_InvalidTable) (.type "BaseException") = some true) (x5_InvalidTable : PySem.W.typeIn K (.ref C_InvalidTable) = some (.type "type"))
    (x1_InvalidTime : PySem.W.nsIn K mainGlobals "InvalidTime" = some (some (.ref C_InvalidTime))) (x2_InvalidTime : PySem.W.excIn K C_InvalidTime [.type "ValueError", .type "Exception", .type "BaseException", .type "object"] "ValueError.__new__" = true) (x3_InvalidTime : PySem.W.keepIn K (.ref C_InvalidTime) = true)
    (x4_InvalidTime : PySem.W.subIn K (.ref C_InvalidTime) (.type "BaseException") = some true) (x5_InvalidTime : PySem.W.typeIn K (.ref C_InvalidTime) = some (.type "type"))
    (x1_NotABall : PySem.W.nsIn K mainGlobals "NotABall" = some (some (.ref C_NotABall))) (x2_NotABall : PySem.W.excIn K C_NotABall [.type "ValueError", .type "Exception", .type "BaseException", .type "object"] "ValueError.__new__" = true) (x3_NotABall : PySem.W.keepIn K (.ref C_NotABall) = true)
    (x4_NotABall : PySem.W.subIn K (.ref C_NotABall) (.type "BaseException") = some true) (x5_NotABall : PySem.W.typeIn K (.ref C_NotABall) = some (.type "type"))
    (x1_OtherTable : PySem.W.nsIn K mainGlobals "OtherTable" = some (some (.ref C_OtherTable))) (x2_OtherTable : PySem.W.excIn K C_OtherTable [.type "ValueError", .type "Exception", .type "BaseException", .type "object"] "ValueError.__new__" = true) (x3_OtherTable : PySem.W.keepIn K (.ref C_OtherTable) = true)
    (x4_OtherTable : PySem.W.subIn K (.ref C_OtherTable) (.type "BaseException") = some true) (x5_OtherTable : PySem.W.typeIn K (.ref C_OtherTable) = some (.type "type"))
    (x1_ShotError : PySem.W.nsIn K mainGlobals "ShotError" = some (some (.ref C_ShotError))) (x4_ShotError : PySem.W.subIn K (.ref C_ShotError) (.type "BaseException") = some true) (x5_ShotError : PySem.W.typeIn K (.ref C_ShotError) = some (.type "type"))
    (e4_InvalidShot : PySem.W.hasDictIn K C_InvalidShot = true)
    (e4_InvalidTable : PySem.W.hasDictIn K C_InvalidTable = true)
    (e4_InvalidTime : PySem.W.hasDictIn K C_InvalidTime = true)
    (e4_NotABall : PySem.W.hasDictIn K C_NotABall = true)
    (e4_OtherTable : PySem.W.hasDictIn K C_OtherTable = true)
    (e4_ShotError : PySem.W.hasDictIn K C_ShotError = true)
    (e1_InvalidShot : PySem.W.findIn K (.ref C_InvalidShot) "__getattribute__" = some (some (.builtin "BaseException.__getattribute__"))) (e2_InvalidShot : PySem.W.findIn K (.ref C_InvalidShot) "__getattr__" = some none) (e3_InvalidShot : PySem.W.findIn K (.ref C_InvalidShot) "__class__" = some (some (.builtin "object.__class__"))) (e5_InvalidShot : PySem.W.mroIn K C_InvalidShot (.type "object") = some true)
    (e1_InvalidTable : PySem.W.findIn K (.ref C_InvalidTable) "__getattribute__" = some (some (.builtin "BaseException.__getattribute__"))) (e2_InvalidTable : PySem.W.findIn K (.ref C_InvalidTable) "__getattr__" = some none) (e3_InvalidTable : PySem.W.findIn K (.ref C_InvalidTable) "__class__" = some (some (.builtin "object.__class__"))) (e5_InvalidTable : PySem.W.mroIn K C_InvalidTable (.type "object") = some true)
    (e1_InvalidTime : PySem.W.findIn K (.ref C_InvalidTime) "__getattribute__" = some (some (.builtin "BaseException.__getattribute__"))) (e2_InvalidTime : PySem.W.findIn K (.ref C_InvalidTime) "__getattr__" = some none) (e3_InvalidTime : PySem.W.findIn K (.ref C_InvalidTime) "__class__" = some (some (.builtin "object.__class__"))) (e5_InvalidTime : PySem.W.mroIn K C_InvalidTime (.type "object") = some true)
    (e1_NotABall : PySem.W.findIn K (.ref C_NotABall) "__getattribute__" = some (some (.builtin "BaseException.__getattribute__"))) (e2_NotABall : PySem.W.findIn K (.ref C_NotABall) "__getattr__" = some none) (e3_NotABall : PySem.W.findIn K (.ref C_NotABall) "__class__" = some (some (.builtin "object.__class__"))) (e5_NotABall : PySem.W.mroIn K C_NotABall (.type "object") = some true)
    (e1_OtherTable : PySem.W.findIn K (.ref C_OtherTable) "__getattribute__" = some (some (.builtin "BaseException.__getattribute__"))) (e2_OtherTable : PySem.W.findIn K (.ref C_OtherTable) "__getattr__" = some none) (e3_OtherTable : PySem.W.findIn K (.ref C_OtherTable) "__class__" = some (some (.builtin "object.__class__"))) (e5_OtherTable : PySem.W.mroIn K C_OtherTable (.type "object") = some true)
    (hn_ : PySem.W.specialIn K (.builtin "object.__class__") "__get__" = some (some (.builtin "getset_descriptor.__get__"))) (ht_ : PySem.W.takesIn K (.builtin "object.__class__") = some true)
    (kt_InvalidShot_InvalidShot : PySem.W.kitOne K (.ref C_InvalidShot) (.ref C_InvalidShot) = some true)
    (kt_InvalidShot_InvalidTable : PySem.W.kitOne K (.ref C_InvalidTable) (.ref C_InvalidShot) = some false)
    (kt_InvalidShot_InvalidTime : PySem.W.kitOne K (.ref C_InvalidTime) (.ref C_InvalidShot) = some false)
    (kt_InvalidShot_NotABall : PySem.W.kitOne K (.ref C_NotABall) (.ref C_InvalidShot) = some false)
    (kt_InvalidShot_OtherTable : PySem.W.kitOne K (.ref C_OtherTable) (.ref C_InvalidShot) = some false)
    (kt_InvalidTable_InvalidShot : PySem.W.kitOne K (.ref C_InvalidShot) (.ref C_InvalidTable) = some false)
    (kt_InvalidTable_InvalidTable : PySem.W.kitOne K (.ref C_InvalidTable) (.ref C_InvalidTable) = some true)
    (kt_InvalidTable_InvalidTime : PySem.W.kitOne K (.ref C_InvalidTime) (.ref C_InvalidTable) = some false)
    (kt_InvalidTable_NotABall : PySem.W.kitOne K (.ref C_NotABall) (.ref C_InvalidTable) = some false)
    (kt_InvalidTable_OtherTable : PySem.W.kitOne K (.ref C_OtherTable) (.ref C_InvalidTable) = some false)
    (kt_InvalidTime_InvalidShot : PySem.W.kitOne K (.ref C_InvalidShot) (.ref C_InvalidTime) = some false)
    (kt_InvalidTime_InvalidTable : PySem.W.kitOne K (.ref C_InvalidTable) (.ref C_InvalidTime) = some false)
    (kt_InvalidTime_InvalidTime : PySem.W.kitOne K (.ref C_InvalidTime) (.ref C_InvalidTime) = some true)
    (kt_InvalidTime_NotABall : PySem.W.kitOne K (.ref C_NotABall) (.ref C_InvalidTime) = some false)
    (kt_InvalidTime_OtherTable : PySem.W.kitOne K (.ref C_OtherTable) (.ref C_InvalidTime) = some false)
    (kt_NotABall_InvalidShot : PySem.W.kitOne K (.ref C_InvalidShot) (.ref C_NotABall) = some false)
    (kt_NotABall_InvalidTable : PySem.W.kitOne K (.ref C_InvalidTable) (.ref C_NotABall) = some false)
    (kt_NotABall_InvalidTime : PySem.W.kitOne K (.ref C_InvalidTime) (.ref C_NotABall) = some false)
    (kt_NotABall_NotABall : PySem.W.kitOne K (.ref C_NotABall) (.ref C_NotABall) = some true)
    (kt_NotABall_OtherTable : PySem.W.kitOne K (.ref C_OtherTable) (.ref C_NotABall) = some false)
    (kt_OtherTable_InvalidShot : PySem.W.kitOne K (.ref C_InvalidShot) (.ref C_OtherTable) = some false)
    (kt_OtherTable_InvalidTable : PySem.W.kitOne K (.ref C_InvalidTable) (.ref C_OtherTable) = some false)
    (kt_OtherTable_InvalidTime : PySem.W.kitOne K (.ref C_InvalidTime) (.ref C_OtherTable) = some false)
    (kt_OtherTable_NotABall : PySem.W.kitOne K (.ref C_NotABall) (.ref C_OtherTable) = some false)
    (kt_OtherTable_OtherTable : PySem.W.kitOne K (.ref C_OtherTable) (.ref C_OtherTable) = some true)
    (kt_ValueError_InvalidShot : PySem.W.kitOne K (.ref C_InvalidShot) (.type "ValueError") = some true)
    (kt_ValueError_InvalidTable : PySem.W.kitOne K (.ref C_InvalidTable) (.type "ValueError") = some true)
    (kt_ValueError_InvalidTime : PySem.W.kitOne K (.ref C_InvalidTime) (.type "ValueError") = some true)
    (kt_ValueError_NotABall : PySem.W.kitOne K (.ref C_NotABall) (.type "ValueError") = some true)
    (kt_ValueError_OtherTable : PySem.W.kitOne K (.ref C_OtherTable) (.type "ValueError") = some true)
    (hh_ShotError_InvalidShot : PySem.W.subIn K (.ref C_InvalidShot) (.ref C_ShotError) = some true)
    (hh_ShotError_InvalidTable : PySem.W.subIn K (.ref C_InvalidTable) (.ref C_ShotError) = some true)
    (hh_ShotError_InvalidTime : PySem.W.subIn K (.ref C_InvalidTime) (.ref C_ShotError) = some true)
    (hh_ShotError_NotABall : PySem.W.subIn K (.ref C_NotABall) (.ref C_ShotError) = some true)
    (hh_ShotError_OtherTable : PySem.W.subIn K (.ref C_OtherTable) (.ref C_ShotError) = some true)
    : ∃ fd : FuncData, (∀ (s : Shared) (u : Value), BindsTo s fd ⟨[u], []⟩ [("script", u)]) ∧ ∀ base : Heap, K.In base → base.Ns mainGlobals mg → FnG l.prog w K mg base 11 fa fd ["script"] (spL K) := by
  have e := hfa.symm.trans (PySem.W.mg_of X G0 a37)
  cases e
  let CN : String → Option Addr := fun s => if s = "InvalidShot" then some C_InvalidShot else if s = "InvalidTable" then some C_InvalidTable else if s = "InvalidTime" then some C_InvalidTime else if s = "NotABall" then some C_NotABall else if s = "OtherTable" then some C_OtherTable else none
  have cnx : ∀ {p : String → Addr → Prop}, p "InvalidShot" C_InvalidShot → p "InvalidTable" C_InvalidTable → p "InvalidTime" C_InvalidTime → p "NotABall" C_NotABall → p "OtherTable" C_OtherTable → ∀ c A, CN c = some A → p c A := by
    intro p p_InvalidShot p_InvalidTable p_InvalidTime p_NotABall p_OtherTable c A h
    have h : (if c = "InvalidShot" then some C_InvalidShot else if c = "InvalidTable" then some C_InvalidTable else if c = "InvalidTime" then some C_InvalidTime else if c = "NotABall" then some C_NotABall else if c = "OtherTable" then some C_OtherTable else none) = some A := h
    by_cases q_InvalidShot : c = "InvalidShot"
    · subst q_InvalidShot; simp only [if_true, String.reduceEq, if_false] at h; cases h; exact p_InvalidShot
    rw [if_neg q_InvalidShot] at h
    by_cases q_InvalidTable : c = "InvalidTable"
    · subst q_InvalidTable; simp only [if_true, String.reduceEq, if_false] at h; cases h; exact p_InvalidTable
    rw [if_neg q_InvalidTable] at h
    by_cases q_InvalidTime : c = "InvalidTime"
    · subst q_InvalidTime; simp only [if_true, String.reduceEq, if_false] at h; cases h; exact p_InvalidTime
    rw [if_neg q_InvalidTime] at h
    by_cases q_NotABall : c = "NotABall"
    · subst q_NotABall; simp only [if_true, String.reduceEq, if_false] at h; cases h; exact p_NotABall
    rw [if_neg q_NotABall] at h
    by_cases q_OtherTable : c = "OtherTable"
    · subst q_OtherTable; simp only [if_true, String.reduceEq, if_false] at h; cases h; exact p_OtherTable
    rw [if_neg q_OtherTable] at h
    cases h
  have oc_Ball : ObjC K "Ball" C_Ball := ⟨o1_Ball, ⟨o2_Ball, o3_Ball, o4_Ball, o5_Ball⟩, o6_Ball, hn_, ht_, o7_Ball, fun k => match k with | .kInt => o8kInt_Ball | .kBool => o8kBool_Ball | .kStr => o8kStr_Ball | .kTup => o8kTup_Ball | .kLst => o8kLst_Ball | .kDict => o8kDict_Ball⟩
  have u_Ball : ∀ Cc, ObjC K "Ball" Cc → C_Ball = Cc := fun Cc h => oc_Ball.uniq h
  have g : G K mg CN := {
    ec := cnx (p := fun _ A => ExcC K A) ⟨e1_InvalidShot, e2_InvalidShot, x4_InvalidShot, e4_InvalidShot, e3_InvalidShot, hn_, ht_, e5_InvalidShot⟩ ⟨e1_InvalidTable, e2_InvalidTable, x4_InvalidTable, e4_InvalidTable, e3_InvalidTable, hn_, ht_, e5_InvalidTable⟩ ⟨e1_InvalidTime, e2_InvalidTime, x4_InvalidTime, e4_InvalidTime, e3_InvalidTime, hn_, ht_, e5_InvalidTime⟩ ⟨e1_NotABall, e2_NotABall, x4_NotABall, e4_NotABall, e3_NotABall, hn_, ht_, e5_NotABall⟩ ⟨e1_OtherTable, e2_OtherTable, x4_OtherTable, e4_OtherTable, e3_OtherTable, hn_, ht_, e5_OtherTable⟩,
    kt_InvalidShot := ⟨C_InvalidShot, PySem.W.mg_of X G0 x1_InvalidShot, cnx (p := fun c A => PySem.W.kitOne K (.ref A) (.ref C_InvalidShot) = some (isSub c "InvalidShot")) (by rw [show isSub "InvalidShot" "InvalidShot" = true by decide +kernel]; exact kt_InvalidShot_InvalidShot) (by rw [show isSub "InvalidTable" "InvalidShot" = false by decide +kernel]; exact kt_InvalidShot_InvalidTable) (by rw [show isSub "InvalidTime" "InvalidShot" = false by decide +kernel]; exact kt_InvalidShot_InvalidTime) (by rw [show isSub "NotABall" "InvalidShot" = false by decide +kernel]; exact kt_InvalidShot_NotABall) (by rw [show isSub "OtherTable" "InvalidShot" = false by decide +kernel]; exact kt_InvalidShot_OtherTable)⟩,
    kt_InvalidTable := ⟨C_InvalidTable, PySem.W.mg_of X G0 x1_InvalidTable, cnx (p := fun c A => PySem.W.kitOne K (.ref A) (.ref C_InvalidTable) = some (isSub c "InvalidTable")) (by rw [show isSub "InvalidShot" "InvalidTable" = false by decide +kernel]; exact kt_InvalidTable_InvalidShot) (by rw [show isSub "InvalidTable" "InvalidTable" = true by decide +kernel]; exact kt_InvalidTable_InvalidTable) (by rw [show isSub "InvalidTime" "InvalidTable" = false by decide +kernel]; exact kt_InvalidTable_InvalidTime) (by rw [show isSub "NotABall" "InvalidTable" = false by decide +kernel]; exact kt_InvalidTable_NotABall) (by rw [show isSub "OtherTable" "InvalidTable" = false by decide +kernel]; exact kt_InvalidTable_OtherTable)⟩,
    kt_InvalidTime := ⟨C_InvalidTime, PySem.W.mg_of X G0 x1_InvalidTime, cnx (p := fun c A => PySem.W.kitOne K (.ref A) (.ref C_InvalidTime) = some (isSub c "InvalidTime")) (by rw [show isSub "InvalidShot" "InvalidTime" = false by decide +kernel]; exact kt_InvalidTime_InvalidShot) (by rw [show isSub "InvalidTable" "InvalidTime" = false by decide +kernel]; exact kt_InvalidTime_InvalidTable) (by rw [show isSub "InvalidTime" "InvalidTime" = true by decide +kernel]; exact kt_InvalidTime_InvalidTime) (by rw [show isSub "NotABall" "InvalidTime" = false by decide +kernel]; exact kt_InvalidTime_NotABall) (by rw [show isSub "OtherTable" "InvalidTime" = false by decide +kernel]; exact kt_InvalidTime_OtherTable)⟩,
    kt_NotABall := ⟨C_NotABall, PySem.W.mg_of X G0 x1_NotABall, cnx (p := fun c A => PySem.W.kitOne K (.ref A) (.ref C_NotABall) = some (isSub c "NotABall")) (by rw [show isSub "InvalidShot" "NotABall" = false by decide +kernel]; exact kt_NotABall_InvalidShot) (by rw [show isSub "InvalidTable" "NotABall" = false by decide +kernel]; exact kt_NotABall_InvalidTable) (by rw [show isSub "InvalidTime" "NotABall" = false by decide +kernel]; exact kt_NotABall_InvalidTime) (by rw [show isSub "NotABall" "NotABall" = true by decide +kernel]; exact kt_NotABall_NotABall) (by rw [show isSub "OtherTable" "NotABall" = false by decide +kernel]; exact kt_NotABall_OtherTable)⟩,
    kt_OtherTable := ⟨C_OtherTable, PySem.W.mg_of X G0 x1_OtherTable, cnx (p := fun c A => PySem.W.kitOne K (.ref A) (.ref C_OtherTable) = some (isSub c "OtherTable")) (by rw [show isSub "InvalidShot" "OtherTable" = false by decide +kernel]; exact kt_OtherTable_InvalidShot) (by rw [show isSub "InvalidTable" "OtherTable" = false by decide +kernel]; exact kt_OtherTable_InvalidTable) (by rw [show isSub "InvalidTime" "OtherTable" = false by decide +kernel]; exact kt_OtherTable_InvalidTime) (by rw [show isSub "NotABall" "OtherTable" = false by decide +kernel]; exact kt_OtherTable_NotABall) (by rw [show isSub "OtherTable" "OtherTable" = true by decide +kernel]; exact kt_OtherTable_OtherTable)⟩,
    kb_ValueError := cnx (p := fun c A => PySem.W.kitOne K (.ref A) (.type "ValueError") = some (isSub c "ValueError")) (by rw [show isSub "InvalidShot" "ValueError" = true by decide +kernel]; exact kt_ValueError_InvalidShot) (by rw [show isSub "InvalidTable" "ValueError" = true by decide +kernel]; exact kt_ValueError_InvalidTable) (by rw [show isSub "InvalidTime" "ValueError" = true by decide +kernel]; exact kt_ValueError_InvalidTime) (by rw [show isSub "NotABall" "ValueError" = true by decide +kernel]; exact kt_ValueError_NotABall) (by rw [show isSub "OtherTable" "ValueError" = true by decide +kernel]; exact kt_ValueError_OtherTable),
    h_ShotError := ⟨_, PySem.W.mg_of X G0 x1_ShotError, cnx (p := fun c A => PySem.W.exmOne K (.ref A) (.ref C_ShotError) = some (isSub c "ShotError")) (by rw [show isSub "InvalidShot" "ShotError" = true by decide +kernel]; exact PySem.W.exm_ref x4_ShotError e4_ShotError x5_ShotError hh_ShotError_InvalidShot) (by rw [show isSub "InvalidTable" "ShotError" = true by decide +kernel]; exact PySem.W.exm_ref x4_ShotError e4_ShotError x5_ShotError hh_ShotError_InvalidTable) (by rw [show isSub "InvalidTime" "ShotError" = true by decide +kernel]; exact PySem.W.exm_ref x4_ShotError e4_ShotError x5_ShotError hh_ShotError_InvalidTime) (by rw [show isSub "NotABall" "ShotError" = true by decide +kernel]; exact PySem.W.exm_ref x4_ShotError e4_ShotError x5_ShotError hh_ShotError_NotABall) (by rw [show isSub "OtherTable" "ShotError" = true by decide +kernel]; exact PySem.W.exm_ref x4_ShotError e4_ShotError x5_ShotError hh_ShotError_OtherTable)⟩,
    sf_Ball := fun Cc h => (u_Ball Cc h) ▸ ob_Ball,
    nr_Ball_and := fun Cc h => (u_Ball Cc h) ▸ (show PySem.W.findIn K (.ref C_Ball) (dunderR "and") = some none from on_Ball_and),
    na_Ball__shot := fun Cc h => (u_Ball Cc h) ▸ oc_Ball__shot,
    na_Ball__table := fun Cc h => (u_Ball Cc h) ▸ oc_Ball__table,
    kc_Ball := ⟨C_Ball, PySem.W.mg_of X G0 o1_Ball, oc_Ball, ⟨if_pos (by simp), od_Ball_NoneType, od_Ball_bool, od_Ball_int, od_Ball_str, od_Ball_list, od_Ball_tuple, od_Ball_dict⟩⟩,
    b_ValueError := PySem.W.mg_none_of X G0 z_ValueError,
    b_abs := PySem.W.mg_none_of X G0 z_abs,
    b_all := PySem.W.mg_none_of X G0 z_all,
    b_bool := PySem.W.mg_none_of X G0 z_bool,
    b_gcd := PySem.W.mg_of X G0 z_gcd,
    b_int := PySem.W.mg_none_of X G0 z_int,
    b_isinstance := PySem.W.mg_none_of X G0 z_isinstance,
    b_lcm := PySem.W.mg_of X G0 z_lcm,
    b_len := PySem.W.mg_none_of X G0 z_len,
    b_list := PySem.W.mg_none_of X G0 z_list,
    b_max := PySem.W.mg_none_of X G0 z_max,
    b_min := PySem.W.mg_none_of X G0 z_min,
    b_range := PySem.W.mg_none_of X G0 z_range,
    b_reversed := PySem.W.mg_none_of X G0 z_reversed,
    b_tuple := PySem.W.mg_none_of X G0 z_tuple,
    x_InvalidShot := ⟨C_InvalidShot, by simp [CN], ⟨PySem.W.mg_of X G0 x1_InvalidShot, x2_InvalidShot, x3_InvalidShot, x4_InvalidShot, x5_InvalidShot⟩⟩,
    x_InvalidTable := ⟨C_InvalidTable, by simp [CN], ⟨PySem.W.mg_of X G0 x1_InvalidTable, x2_InvalidTable, x3_InvalidTable, x4_InvalidTable, x5_InvalidTable⟩⟩,
    x_InvalidTime := ⟨C_InvalidTime, by simp [CN], ⟨PySem.W.mg_of X G0 x1_InvalidTime, x2_InvalidTime, x3_InvalidTime, x4_InvalidTime, x5_InvalidTime⟩⟩,
    x_NotABall := ⟨C_NotABall, by simp [CN], ⟨PySem.W.mg_of X G0 x1_NotABall, x2_NotABall, x3_NotABall, x4_NotABall, x5_NotABall⟩⟩,
    x_OtherTable := ⟨C_OtherTable, by simp [CN], ⟨PySem.W.mg_of X G0 x1_OtherTable, x2_OtherTable, x3_OtherTable, x4_OtherTable, x5_OtherTable⟩⟩ }
  have F1 := fun_mk (st := s_is_whole) l1 c1 k1
  have b1 := F1.binds (ps := ["value"]) fun _ _ _ _ _ _ us hl => match us, hl with | [_], _ => rfl
  have F2 := fun_mk (st := s_are_whole) l2 c2 k2
  have b2 := F2.binds (ps := ["value", "many"]) fun _ _ _ _ _ _ us hl => match us, hl with | [_, _], _ => rfl
  have F3 := fun_mk (st := s_fraction_of) l3 c3 k3
  have b3 := F3.binds (ps := ["top", "bottom"]) fun _ _ _ _ _ _ us hl => match us, hl with | [_, _], _ => rfl
  have F4 := fun_mk (st := s__line_of) l4 c4 k4
  have b4 := F4.binds (ps := ["side", "start", "speed"]) fun _ _ _ _ _ _ us hl => match us, hl with | [_, _, _], _ => rfl
  have F5 := fun_mk (st := s_lines_of) l5 c5 k5
  have b5 := F5.binds (ps := ["table", "shot"]) fun _ _ _ _ _ _ us hl => match us, hl with | [_, _], _ => rfl
  have F6 := fun_mk (st := s__first_out) l6 c6 k6
  have b6 := F6.binds (ps := ["lower", "upper"]) fun _ _ _ _ _ _ us hl => match us, hl with | [_, _], _ => rfl
  have F7 := fun_mk (st := s_first_between) l7 c7 k7
  have b7 := F7.binds (ps := ["lower", "upper"]) fun _ _ _ _ _ _ us hl => match us, hl with | [_, _], _ => rfl
  have F8 := fun_mk (st := s_first_within) l8 c8 k8
  have b8 := F8.binds (ps := ["grow", "begin", "circle", "low", "high"]) fun _ _ _ _ _ _ us hl => match us, hl with | [_, _, _, _, _], _ => rfl
  have F9 := fun_mk (st := s_is_table) l9 c9 k9
  have b9 := F9.binds (ps := ["value"]) fun _ _ _ _ _ _ us hl => match us, hl with | [_], _ => rfl
  have F10 := fun_mk (st := s_check_table) l10 c10 k10
  have b10 := F10.binds (ps := ["table"]) fun _ _ _ _ _ _ us hl => match us, hl with | [_], _ => rfl
  have F11 := fun_mk (st := s_is_any_shot) l11 c11 k11
  have b11 := F11.binds (ps := ["value"]) fun _ _ _ _ _ _ us hl => match us, hl with | [_], _ => rfl
  have F12 := fun_mk (st := s_is_shot) l12 c12 k12
  have b12 := F12.binds (ps := ["table", "value"]) fun _ _ _ _ _ _ us hl => match us, hl with | [_, _], _ => rfl
  have F13 := fun_mk (st := s_is_fraction) l13 c13 k13
  have b13 := F13.binds (ps := ["value"]) fun _ _ _ _ _ _ us hl => match us, hl with | [_], _ => rfl
  have F14 := fun_mk (st := s_check_shot) l14 c14 k14
  have b14 := F14.binds (ps := ["table", "shot"]) fun _ _ _ _ _ _ us hl => match us, hl with | [_, _], _ => rfl
  have F15 := fun_mk (st := s_check_time) l15 c15 k15
  have b15 := F15.binds (ps := ["time"]) fun _ _ _ _ _ _ us hl => match us, hl with | [_], _ => rfl
  have F16 := fun_mk (st := s__check_all) l16 c16 k16
  have b16 := F16.binds (ps := ["table", "shot", "time"]) fun _ _ _ _ _ _ us hl => match us, hl with | [_, _, _], _ => rfl
  have F17 := fun_mk (st := s__fold) l17 c17 k17
  have b17 := F17.binds (ps := ["side", "number"]) fun _ _ _ _ _ _ us hl => match us, hl with | [_, _], _ => rfl
  have F18 := fun_mk (st := s__place) l18 c18 k18
  have b18 := F18.binds (ps := ["table", "shot", "time"]) fun _ _ _ _ _ _ us hl => match us, hl with | [_, _, _], _ => rfl
  have F19 := fun_mk (st := s_place_at) l19 c19 k19
  have b19 := F19.binds (ps := ["table", "shot", "time"]) fun _ _ _ _ _ _ us hl => match us, hl with | [_, _, _], _ => rfl
  have F20 := fun_mk (st := s__check_shots) l20 c20 k20
  have b20 := F20.binds (ps := ["table", "shot", "other"]) fun _ _ _ _ _ _ us hl => match us, hl with | [_, _, _], _ => rfl
  have F21 := fun_mk (st := s__both) l21 c21 k21
  have b21 := F21.binds (ps := ["one", "other"]) fun _ _ _ _ _ _ us hl => match us, hl with | [_, _], _ => rfl
  have F22 := fun_mk (st := s__gaps) l22 c22 k22
  have b22 := F22.binds (ps := ["table", "shot", "other"]) fun _ _ _ _ _ _ us hl => match us, hl with | [_, _, _], _ => rfl
  have F23 := fun_mk (st := s__same_numbers) l23 c23 k23
  have b23 := F23.binds (ps := ["circle", "pairs", "parts"]) fun _ _ _ _ _ _ us hl => match us, hl with | [_, _, _], _ => rfl
  have F24 := fun_mk (st := s__meetings) l24 c24 k24
  have b24 := F24.binds (ps := ["table", "shot", "other"]) fun _ _ _ _ _ _ us hl => match us, hl with | [_, _, _], _ => rfl
  have F25 := fun_mk (st := s_first_meeting) l25 c25 k25
  have b25 := F25.binds (ps := ["table", "shot", "other"]) fun _ _ _ _ _ _ us hl => match us, hl with | [_, _, _], _ => rfl
  have F26 := fun_mk (st := s__law_well) l26 c26 k26
  have b26 := F26.binds (ps := ["script", "at"]) fun _ _ _ _ _ _ us hl => match us, hl with | [_, _], _ => rfl
  have F27 := fun_mk (st := s__law_draw) l27 c27 k27
  have b27 := F27.binds (ps := ["well", "most"]) fun _ _ _ _ _ _ us hl => match us, hl with | [_, _], _ => rfl
  have F28 := fun_mk (st := s__law_desk) l28 c28 k28
  have b28 := F28.binds (ps := ["well", "most"]) fun _ _ _ _ _ _ us hl => match us, hl with | [_, _], _ => rfl
  have F29 := fun_mk (st := s__law_roll) l29 c29 k29
  have b29 := F29.binds (ps := ["well", "desk", "most"]) fun _ _ _ _ _ _ us hl => match us, hl with | [_, _, _], _ => rfl
  have F30 := fun_mk (st := s_Ball_and) l30 c30 k30
  have b30 := F30.binds (ps := ["self", "other"]) fun _ _ _ _ _ _ us hl => match us, hl with | [_, _], _ => rfl
  have F31 := fun_mk (st := s_Ball_call) l31 c31 k31
  have b31 := F31.binds (ps := ["self", "time"]) fun _ _ _ _ _ _ us hl => match us, hl with | [_, _], _ => rfl
  have F32 := fun_mk (st := s_Ball_init) l32 c32 k32
  have b32 := F32.binds (ps := ["self", "table", "shot"]) fun _ _ _ _ _ _ us hl => match us, hl with | [_, _, _], _ => rfl
  have F33 := fun_mk (st := s__law_told) l33 c33 k33
  have b33 := F33.binds (ps := ["way", "a", "x", "y"]) fun _ _ _ _ _ _ us hl => match us, hl with | [_, _, _, _], _ => rfl
  have F34 := fun_mk (st := s__law_case) l34 c34 k34
  have b34 := F34.binds (ps := ["well", "way", "a", "desk", "shot_here"]) fun _ _ _ _ _ _ us hl => match us, hl with | [_, _, _, _, _], _ => rfl
  have F35 := fun_mk (st := s_Ball_shot) l35 c35 k35
  have b35 := F35.binds (ps := ["self"]) fun _ _ _ _ _ _ us hl => match us, hl with | [_], _ => rfl
  have F36 := fun_mk (st := s_Ball_table) l36 c36 k36
  have b36 := F36.binds (ps := ["self"]) fun _ _ _ _ _ _ us hl => match us, hl with | [_], _ => rfl
  have F37 := fun_mk (st := s_law) l37 c37 k37
  refine ⟨PySem.W.fnOf "law" "law" (defArgs s_law) (defBody s_law) (defScope s_law) .none kV37 dc37 pm37 an37 cd37 ct37, fun s v => .of_eq rfl, fun base _ _ => ?_⟩
  have o_is_whole := ok_is_whole F1 g (P := l.prog) (w := w) (base := base)
  have c_is_whole : CalP l.prog w K mg base CN 1 "is_whole" D_is_whole := ⟨_, _, _, o_is_whole, PySem.W.mg_of X G0 a1, k1, b1⟩
  have o_are_whole := ok_are_whole F2 g c_is_whole (P := l.prog) (w := w) (base := base)
  have c_are_whole : CalP l.prog w K mg base CN 2 "are_whole" D_are_whole := ⟨_, _, _, o_are_whole, PySem.W.mg_of X G0 a2, k2, b2⟩
  have o_fraction_of := ok_fraction_of F3 g (P := l.prog) (w := w) (base := base)
  have c_fraction_of : CalP l.prog w K mg base CN 1 "fraction_of" D_fraction_of := ⟨_, _, _, o_fraction_of, PySem.W.mg_of X G0 a3, k3, b3⟩
  have o__line_of := ok__line_of F4 g (P := l.prog) (w := w) (base := base)
  have c__line_of : CalP l.prog w K mg base CN 1 "_line_of" D__line_of := ⟨_, _, _, o__line_of, PySem.W.mg_of X G0 a4, k4, b4⟩
  have o_lines_of := ok_lines_of F5 g c__line_of (P := l.prog) (w := w) (base := base)
  have c_lines_of : CalP l.prog w K mg base CN 2 "lines_of" D_lines_of := ⟨_, _, _, o_lines_of, PySem.W.mg_of X G0 a5, k5, b5⟩
  have o__first_out := ok__first_out F6 g (P := l.prog) (w := w) (base := base)
  have c__first_out : CalP l.prog w K mg base CN 1 "_first_out" D__first_out := ⟨_, _, _, o__first_out, PySem.W.mg_of X G0 a6, k6, b6⟩
  have o_first_between := ok_first_between F7 g c__first_out (P := l.prog) (w := w) (base := base)
  have c_first_between : CalP l.prog w K mg base CN 2 "first_between" D_first_between := ⟨_, _, _, o_first_between, PySem.W.mg_of X G0 a7, k7, b7⟩
  have o_first_within := ok_first_within F8 g c_first_between (P := l.prog) (w := w) (base := base)
  have c_first_within : CalP l.prog w K mg base CN 3 "first_within" D_first_within := ⟨_, _, _, o_first_within, PySem.W.mg_of X G0 a8, k8, b8⟩
  have o_is_table := ok_is_table F9 g c_are_whole (P := l.prog) (w := w) (base := base)
  have c_is_table : CalP l.prog w K mg base CN 3 "is_table" D_is_table := ⟨_, _, _, o_is_table, PySem.W.mg_of X G0 a9, k9, b9⟩
  have o_check_table := ok_check_table F10 g c_is_table (P := l.prog) (w := w) (base := base)
  have c_check_table : CalP l.prog w K mg base CN 4 "check_table" D_check_table := ⟨_, _, _, o_check_table, PySem.W.mg_of X G0 a10, k10, b10⟩
  have o_is_any_shot := ok_is_any_shot F11 g c_are_whole (P := l.prog) (w := w) (base := base)
  have c_is_any_shot : CalP l.prog w K mg base CN 3 "is_any_shot" D_is_any_shot := ⟨_, _, _, o_is_any_shot, PySem.W.mg_of X G0 a11, k11, b11⟩
  have o_is_shot := ok_is_shot F12 g c_check_table c_is_any_shot (P := l.prog) (w := w) (base := base)
  have c_is_shot : CalP l.prog w K mg base CN 5 "is_shot" D_is_shot := ⟨_, _, _, o_is_shot, PySem.W.mg_of X G0 a12, k12, b12⟩
  have o_is_fraction := ok_is_fraction F13 g c_are_whole (P := l.prog) (w := w) (base := base)
  have c_is_fraction : CalP l.prog w K mg base CN 3 "is_fraction" D_is_fraction := ⟨_, _, _, o_is_fraction, PySem.W.mg_of X G0 a13, k13, b13⟩
  have o_check_shot := ok_check_shot F14 g c_is_shot (P := l.prog) (w := w) (base := base)
  have c_check_shot : CalP l.prog w K mg base CN 6 "check_shot" D_check_shot := ⟨_, _, _, o_check_shot, PySem.W.mg_of X G0 a14, k14, b14⟩
  have o_check_time := ok_check_time F15 g c_is_fraction (P := l.prog) (w := w) (base := base)
  have c_check_time : CalP l.prog w K mg base CN 4 "check_time" D_check_time := ⟨_, _, _, o_check_time, PySem.W.mg_of X G0 a15, k15, b15⟩
  have o__check_all := ok__check_all F16 g c_check_shot c_check_time (P := l.prog) (w := w) (base := base)
  have c__check_all : CalP l.prog w K mg base CN 7 "_check_all" D__check_all := ⟨_, _, _, o__check_all, PySem.W.mg_of X G0 a16, k16, b16⟩
  have o__fold := ok__fold F17 g (P := l.prog) (w := w) (base := base)
  have c__fold : CalP l.prog w K mg base CN 1 "_fold" D__fold := ⟨_, _, _, o__fold, PySem.W.mg_of X G0 a17, k17, b17⟩
  have o__place := ok__place F18 g c__fold c_fraction_of c_lines_of (P := l.prog) (w := w) (base := base)
  have c__place : CalP l.prog w K mg base CN 3 "_place" D__place := ⟨_, _, _, o__place, PySem.W.mg_of X G0 a18, k18, b18⟩
  have o_place_at := ok_place_at F19 g c__check_all c__place (P := l.prog) (w := w) (base := base)
  have c_place_at : CalP l.prog w K mg base CN 8 "place_at" D_place_at := ⟨_, _, _, o_place_at, PySem.W.mg_of X G0 a19, k19, b19⟩
  have o__check_shots := ok__check_shots F20 g c_check_shot (P := l.prog) (w := w) (base := base)
  have c__check_shots : CalP l.prog w K mg base CN 7 "_check_shots" D__check_shots := ⟨_, _, _, o__check_shots, PySem.W.mg_of X G0 a20, k20, b20⟩
  have o__both := ok__both F21 g c_first_within (P := l.prog) (w := w) (base := base)
  have c__both : CalP l.prog w K mg base CN 4 "_both" D__both := ⟨_, _, _, o__both, PySem.W.mg_of X G0 a21, k21, b21⟩
  have o__gaps := ok__gaps F22 g (P := l.prog) (w := w) (base := base)
  have c__gaps : CalP l.prog w K mg base CN 1 "_gaps" D__gaps := ⟨_, _, _, o__gaps, PySem.W.mg_of X G0 a22, k22, b22⟩
  have o__same_numbers := ok__same_numbers F23 g (P := l.prog) (w := w) (base := base)
  have c__same_numbers : CalP l.prog w K mg base CN 1 "_same_numbers" D__same_numbers := ⟨_, _, _, o__same_numbers, PySem.W.mg_of X G0 a23, k23, b23⟩
  have o__meetings := ok__meetings F24 g c__both c__gaps c__same_numbers (P := l.prog) (w := w) (base := base)
  have c__meetings : CalP l.prog w K mg base CN 5 "_meetings" D__meetings := ⟨_, _, _, o__meetings, PySem.W.mg_of X G0 a24, k24, b24⟩
  have o_first_meeting := ok_first_meeting F25 g c__check_shots c__meetings c_fraction_of (P := l.prog) (w := w) (base := base)
  have c_first_meeting : CalP l.prog w K mg base CN 8 "first_meeting" D_first_meeting := ⟨_, _, _, o_first_meeting, PySem.W.mg_of X G0 a25, k25, b25⟩
  have o__law_well := ok_well F26 g.b_int g.b_len g.b_max g.b_abs (P := l.prog) (w := w) (mg := mg) (base := base)
  have c__law_well : CalL l.prog w K mg base 1 "_law_well" := ⟨_, _, _, o__law_well, PySem.W.mg_of X G0 a26, k26, b26⟩
  have o__law_draw := ok_draw F27 g.b_int (P := l.prog) (w := w) (mg := mg) (base := base)
  have c__law_draw : CalW l.prog w K mg base 1 "_law_draw" dDraw := ⟨_, _, _, o__law_draw, PySem.W.mg_of X G0 a27, k27, b27⟩
  have o__law_desk := ok__law_desk F28 g c__law_draw (P := l.prog) (w := w) (base := base)
  have c__law_desk : CalW l.prog w K mg base 2 "_law_desk" D__law_desk := ⟨_, _, _, o__law_desk, PySem.W.mg_of X G0 a28, k28, b28⟩
  have o__law_roll := ok__law_roll F29 g c__law_draw (P := l.prog) (w := w) (base := base)
  have c__law_roll : CalW l.prog w K mg base 2 "_law_roll" D__law_roll := ⟨_, _, _, o__law_roll, PySem.W.mg_of X G0 a29, k29, b29⟩
  have o_Ball_and := ok_Ball_and F30 g c_first_meeting (P := l.prog) (w := w) (base := base)
  have c_Ball_and : CalM l.prog w K mg base CN 9 "Ball" "__and__" D_Ball_and := ⟨_, _, _, _, o_Ball_and, oc_Ball, a30, n30, b30⟩
  have o_Ball_call := ok_Ball_call F31 g c_place_at (P := l.prog) (w := w) (base := base)
  have kc_Ball_call_time : CalCK l.prog w K mg base CN 9 "Ball" D_Ball_call ["time"] (gSel 1 1 [.p 0, .k 0]) := ⟨⟨_, _, _, _, o_Ball_call, oc_Ball, ⟨a31, n31, fi31⟩, kbinds_of (by decide) fun s us ws h1 h2 => match us, ws, h1, h2 with | [_], [_], _, _ => .of_eq rfl⟩, ord_sel _ _ _⟩
  have c_Ball_call : CalC l.prog w K mg base CN 9 "Ball" D_Ball_call := ⟨_, _, _, _, o_Ball_call, oc_Ball, ⟨a31, n31, fi31⟩, b31⟩
  have o_Ball_init := ok_Ball_init F32 g c_check_shot (P := l.prog) (w := w) (base := base)
  have kc_Ball_init_shot_table : CalIK l.prog w K mg base CN 7 "Ball" D_Ball_init ["shot", "table"] (fun {α : Type} (ws : List α) => pick ([] : List α) ws [.k 1, .k 0]) := ⟨⟨_, _, _, _, (fun {α : Type} => gSel 1 2 [.p 0, .k 1, .k 0] (α := α)), o_Ball_init, PySem.W.mg_of X G0 o1_Ball, oc_Ball, ⟨o9_Ball, a32, n32, oa_Ball⟩, kbinds_of (by decide) fun s us ws h1 h2 => match us, ws, h1, h2 with | [_], [_, _], _, _ => .of_eq rfl, fun {α : Type} (v : α) (ws : List α) h => match ws, h with | [_, _], _ => rfl⟩, fun {α β : Type} (R : α → β → Prop) {as : List α} {bs : List β} (h : Paired R as bs) => pick_paired R h⟩
  have c_Ball_init : CalI l.prog w K mg base CN 7 "Ball" D_Ball_init := ⟨_, _, _, _, o_Ball_init, PySem.W.mg_of X G0 o1_Ball, oc_Ball, ⟨o9_Ball, a32, n32, oa_Ball⟩, b32⟩
  have o__law_told := ok__law_told F33 g c_Ball_and c_Ball_call c_Ball_init kc_Ball_init_shot_table kc_Ball_call_time (P := l.prog) (w := w) (base := base)
  have c__law_told : CalP l.prog w K mg base CN 10 "_law_told" D__law_told := ⟨_, _, _, o__law_told, PySem.W.mg_of X G0 a33, k33, b33⟩
  have o__law_case := ok__law_case F34 g c_Ball_init c__law_draw (P := l.prog) (w := w) (base := base)
  have c__law_case : CalW l.prog w K mg base 9 "_law_case" D__law_case := ⟨_, _, _, o__law_case, PySem.W.mg_of X G0 a34, k34, b34⟩
  have o_Ball_shot := ok_Ball_shot F35 g (P := l.prog) (w := w) (base := base)
  have c_Ball_shot : CalPr l.prog w K mg base CN 1 "Ball" "shot" D_Ball_shot := ⟨_, _, _, _, _, o_Ball_shot, oc_Ball, ⟨u35, v35, w35, _, a35⟩, b35⟩
  have o_Ball_table := ok_Ball_table F36 g (P := l.prog) (w := w) (base := base)
  have c_Ball_table : CalPr l.prog w K mg base CN 1 "Ball" "table" D_Ball_table := ⟨_, _, _, _, _, o_Ball_table, oc_Ball, ⟨u36, v36, w36, _, a36⟩, b36⟩
  exact ok_law F37 g c_Ball_init c_Ball_shot c_Ball_table c__law_case c__law_desk c__law_roll c__law_told c__law_well
end LW
open PySem PySem.W PyProof.Rows
set_option maxHeartbeats 0 in
theorem PySem.Challenge.cw_cushionshots_k35_errors_of_balls_holds : PySem.Challenge.rw_cushionshots_k35_errors_of_balls.Holds := by
  w_on; o_law; k_head; (case hw => w_witness2)
  k_fill
  refine DL.end_law (l := PySem.Challenge.rw_cushionshots_k35_errors_of_balls) (k := 11) (x := "script") rfl rfl ⟨⟨rfl, by decide, by decide⟩, rfl⟩ (fun w h Y => PySem.W.kIn_of Y) ?F
  case F =>
    intro w mg fa h KX G hmg
    refine' LW.all_mk KX G hmg ?o1_Ball ?o2_Ball ?o3_Ball ?o4_Ball ?o5_Ball ?o6_Ball ?o7_Ball ?o9_Ball ?oa_Ball ?ob_Ball ?o8kInt_Ball ?o8kBool_Ball ?o8kStr_Ball ?o8kTup_Ball ?o8kLst_Ball ?o8kDict_Ball ?on_Ball_and ?oc_Ball__shot ?oc_Ball__table ?od_Ball_NoneType ?od_Ball_bool ?od_Ball_int ?od_Ball_str ?od_Ball_list ?od_Ball_tuple ?od_Ball_dict ?a1 ?l1 ?c1 ?k1 ?a2 ?l2 ?c2 ?k2 ?a3 ?l3 ?c3 ?k3 ?a4 ?l4 ?c4 ?k4 ?a5 ?l5 ?c5 ?k5 ?a6 ?l6 ?c6 ?k6 ?a7 ?l7 ?c7 ?k7 ?a8 ?l8 ?c8 ?k8 ?a9 ?l9 ?c9 ?k9 ?a10 ?l10 ?c10 ?k10 ?a11 ?l11 ?c11 ?k11 ?a12 ?l12 ?c12 ?k12 ?a13 ?l13 ?c13 ?k13 ?a14 ?l14 ?c14 ?k14 ?a15 ?l15 ?c15 ?k15 ?a16 ?l16 ?c16 ?k16 ?a17 ?l17 ?c17 ?k17 ?a18 ?l18 ?c18 ?k18 ?a19 ?l19 ?c19 ?k19 ?a20 ?l20 ?c20 ?k20 ?a21 ?l21 ?c21 ?k21 ?a22 ?l22 ?c22 ?k22 ?a23 ?l23 ?c23 ?k23 ?a24 ?l24 ?c24 ?k24 ?a25 ?l25 ?c25 ?k25 ?a26 ?l26 ?c26 ?k26 ?a27 ?l27 ?c27 ?k27 ?a28 ?l28 ?c28 ?k28 ?a29 ?l29 ?c29 ?k29 ?a30 ?n30 ?l30 ?c30 ?k30 ?a31 ?n31 ?l31 ?c31 ?k31 ?fi31 ?a32 ?n32 ?l32 ?c32 ?k32 ?a33 ?l33 ?c33 ?k33 ?a34 ?l34 ?c34 ?k34 ?u35 ?v35 ?w35 ?a35 ?l35 ?c35 ?k35 ?u36 ?v36 ?w36 ?a36 ?l36 ?c36 ?k36 ?a37 ?l37 ?c37 ?k37 ?z_ValueError ?z_abs ?z_all ?z_bool ?z_gcd ?z_int ?z_isinstance ?z_lcm ?z_len ?z_list ?z_max ?z_min ?z_range ?z_reversed ?z_tuple ?x1_InvalidShot ?x2_InvalidShot ?x3_InvalidShot ?x4_InvalidShot ?x5_InvalidShot ?x1_InvalidTable ?x2_InvalidTable ?x3_InvalidTable ?x4_InvalidTable ?x5_InvalidTable ?x1_InvalidTime ?x2_InvalidTime ?x3_InvalidTime ?x4_InvalidTime ?x5_InvalidTime ?x1_NotABall ?x2_NotABall ?x3_NotABall ?x4_NotABall ?x5_NotABall ?x1_OtherTable ?x2_OtherTable ?x3_OtherTable ?x4_OtherTable ?x5_OtherTable ?x1_ShotError ?x4_ShotError ?x5_ShotError ?e4_InvalidShot ?e4_InvalidTable ?e4_InvalidTime ?e4_NotABall ?e4_OtherTable ?e4_ShotError ?e1_InvalidShot ?e2_InvalidShot ?e3_InvalidShot ?e5_InvalidShot ?e1_InvalidTable ?e2_InvalidTable ?e3_InvalidTable ?e5_InvalidTable ?e1_InvalidTime ?e2_InvalidTime ?e3_InvalidTime ?e5_InvalidTime ?e1_NotABall ?e2_NotABall ?e3_NotABall ?e5_NotABall ?e1_OtherTable ?e2_OtherTable ?e3_OtherTable ?e5_OtherTable ?hn_ ?ht_ ?kt_InvalidShot_InvalidShot ?kt_InvalidShot_InvalidTable ?kt_InvalidShot_InvalidTime ?kt_InvalidShot_NotABall ?kt_InvalidShot_OtherTable ?kt_InvalidTable_InvalidShot ?kt_InvalidTable_InvalidTable ?kt_InvalidTable_InvalidTime ?kt_InvalidTable_NotABall ?kt_InvalidTable_OtherTable ?kt_InvalidTime_InvalidShot ?kt_InvalidTime_InvalidTable ?kt_InvalidTime_InvalidTime ?kt_InvalidTime_NotABall ?kt_InvalidTime_OtherTable ?kt_NotABall_InvalidShot ?kt_NotABall_InvalidTable ?kt_NotABall_InvalidTime ?kt_NotABall_NotABall ?kt_NotABall_OtherTable ?kt_OtherTable_InvalidShot ?kt_OtherTable_InvalidTable ?kt_OtherTable_InvalidTime ?kt_OtherTable_NotABall ?kt_OtherTable_OtherTable ?kt_ValueError_InvalidShot ?kt_ValueError_InvalidTable ?kt_ValueError_InvalidTime ?kt_ValueError_NotABall ?kt_ValueError_OtherTable ?hh_ShotError_InvalidShot ?hh_ShotError_InvalidTable ?hh_ShotError_InvalidTime ?hh_ShotError_NotABall ?hh_ShotError_OtherTable
    (case o1_Ball => k_is)
    (case o2_Ball => k_is)
    (case o3_Ball => k_is)
    (case o4_Ball => k_is)
    (case o5_Ball => k_is)
    (case o6_Ball => k_is)
    (case o7_Ball => k_is)
    (case o9_Ball => k_is)
    (case oa_Ball => k_is)
    (case ob_Ball => k_is)
    (case o8kInt_Ball => kit_is)
    (case o8kBool_Ball => kit_is)
    (case o8kStr_Ball => kit_is)
    (case o8kTup_Ball => kit_is)
    (case o8kLst_Ball => kit_is)
    (case o8kDict_Ball => kit_is)
    (case on_Ball_and => k_is)
    (case oc_Ball__shot => k_is)
    (case oc_Ball__table => k_is)
    (case od_Ball_NoneType => kit_is)
    (case od_Ball_bool => kit_is)
    (case od_Ball_int => kit_is)
    (case od_Ball_str => kit_is)
    (case od_Ball_list => kit_is)
    (case od_Ball_tuple => kit_is)
    (case od_Ball_dict => kit_is)
    (case a1 => k_is)
    (case l1 => k_is)
    (case c1 => k_is)
    (case k1 => k_is)
    (case a2 => k_is)
    (case l2 => k_is)
    (case c2 => k_is)
    (case k2 => k_is)
    (case a3 => k_is)
    (case l3 => k_is)
    (case c3 => k_is)
    (case k3 => k_is)
    (case a4 => k_is)
    (case l4 => k_is)
    (case c4 => k_is)
    (case k4 => k_is)
    (case a5 => k_is)
    (case l5 => k_is)
    (case c5 => k_is)
    (case k5 => k_is)
    (case a6 => k_is)
    (case l6 => k_is)
    (case c6 => k_is)
    (case k6 => k_is)
    (case a7 => k_is)
    (case l7 => k_is)
    (case c7 => k_is)
    (case k7 => k_is)
    (case a8 => k_is)
    (case l8 => k_is)
    (case c8 => k_is)
    (case k8 => k_is)
    (case a9 => k_is)
    (case l9 => k_is)
    (case c9 => k_is)
    (case k9 => k_is)
    (case a10 => k_is)
    (case l10 => k_is)
    (case c10 => k_is)
    (case k10 => k_is)
    (case a11 => k_is)
    (case l11 => k_is)
    (case c11 => k_is)
    (case k11 => k_is)
    (case a12 => k_is)
    (case l12 => k_is)
    (case c12 => k_is)
    (case k12 => k_is)
    (case a13 => k_is)
    (case l13 => k_is)
    (case c13 => k_is)
    (case k13 => k_is)
    (case a14 => k_is)
    (case l14 => k_is)
    (case c14 => k_is)
    (case k14 => k_is)
    (case a15 => k_is)
    (case l15 => k_is)
    (case c15 => k_is)
    (case k15 => k_is)
    (case a16 => k_is)
    (case l16 => k_is)
    (case c16 => k_is)
    (case k16 => k_is)
    (case a17 => k_is)
    (case l17 => k_is)
    (case c17 => k_is)
    (case k17 => k_is)
    (case a18 => k_is)
    (case l18 => k_is)
    (case c18 => k_is)
    (case k18 => k_is)
    (case a19 => k_is)
    (case l19 => k_is)
    (case c19 => k_is)
    (case k19 => k_is)
    (case a20 => k_is)
    (case l20 => k_is)
    (case c20 => k_is)
    (case k20 => k_is)
    (case a21 => k_is)
    (case l21 => k_is)
    (case c21 => k_is)
    (case k21 => k_is)
    (case a22 => k_is)
    (case l22 => k_is)
    (case c22 => k_is)
    (case k22 => k_is)
    (case a23 => k_is)
    (case l23 => k_is)
    (case c23 => k_is)
    (case k23 => k_is)
    (case a24 => k_is)
    (case l24 => k_is)
    (case c24 => k_is)
    (case k24 => k_is)
    (case a25 => k_is)
    (case l25 => k_is)
    (case c25 => k_is)
    (case k25 => k_is)
    (case a26 => k_is)
    (case l26 => k_is)
    (case c26 => k_is)
    (case k26 => k_is)
    (case a27 => k_is)
    (case l27 => k_is)
    (case c27 => k_is)
    (case k27 => k_is)
    (case a28 => k_is)
    (case l28 => k_is)
    (case c28 => k_is)
    (case k28 => k_is)
    (case a29 => k_is)
    (case l29 => k_is)
    (case c29 => k_is)
    (case k29 => k_is)
    (case a30 => k_is)
    (case n30 => k_is)
    (case l30 => k_is)
    (case c30 => k_is)
    (case k30 => k_is)
    (case a31 => k_is)
    (case n31 => k_is)
    (case l31 => k_is)
    (case c31 => k_is)
    (case k31 => k_is)
    (case fi31 => k_is)
    (case a32 => k_is)
    (case n32 => k_is)
    (case l32 => k_is)
    (case c32 => k_is)
    (case k32 => k_is)
    (case a33 => k_is)
    (case l33 => k_is)
    (case c33 => k_is)
    (case k33 => k_is)
    (case a34 => k_is)
    (case l34 => k_is)
    (case c34 => k_is)
    (case k34 => k_is)
    (case u35 => k_is)
    (case v35 => k_is)
    (case w35 => k_is)
    (case a35 => k_is)
    (case l35 => k_is)
    (case c35 => k_is)
    (case k35 => k_is)
    (case u36 => k_is)
    (case v36 => k_is)
    (case w36 => k_is)
    (case a36 => k_is)
    (case l36 => k_is)
    (case c36 => k_is)
    (case k36 => k_is)
    (case a37 => k_is)
    (case l37 => k_is)
    (case c37 => k_is)
    (case k37 => k_is)
    (case z_ValueError => k_is)
    (case z_abs => k_is)
    (case z_all => k_is)
    (case z_bool => k_is)
    (case z_gcd => k_is)
    (case z_int => k_is)
    (case z_isinstance => k_is)
    (case z_lcm => k_is)
    (case z_len => k_is)
    (case z_list => k_is)
    (case z_max => k_is)
    (case z_min => k_is)
    (case z_range => k_is)
    (case z_reversed => k_is)
    (case z_tuple => k_is)
    (case x1_InvalidShot => k_is)
    (case x2_InvalidShot => k_exc)
    (case x3_InvalidShot => k_is)
    (case x4_InvalidShot => k_is)
    (case x5_InvalidShot => k_is)
    (case x1_InvalidTable => k_is)
    (case x2_InvalidTable => k_exc)
    (case x3_InvalidTable => k_is)
    (case x4_InvalidTable => k_is)
    (case x5_InvalidTable => k_is)
    (case x1_InvalidTime => k_is)
    (case x2_InvalidTime => k_exc)
    (case x3_InvalidTime => k_is)
    (case x4_InvalidTime => k_is)
    (case x5_InvalidTime => k_is)
    (case x1_NotABall => k_is)
    (case x2_NotABall => k_exc)
    (case x3_NotABall => k_is)
    (case x4_NotABall => k_is)
    (case x5_NotABall => k_is)
    (case x1_OtherTable => k_is)
    (case x2_OtherTable => k_exc)
    (case x3_OtherTable => k_is)
    (case x4_OtherTable => k_is)
    (case x5_OtherTable => k_is)
    (case x1_ShotError => k_is)
    (case x4_ShotError => k_is)
    (case x5_ShotError => k_is)
    (case e4_InvalidShot => k_is)
    (case e4_InvalidTable => k_is)
    (case e4_InvalidTime => k_is)
    (case e4_NotABall => k_is)
    (case e4_OtherTable => k_is)
    (case e4_ShotError => k_is)
    (case e1_InvalidShot => k_is)
    (case e2_InvalidShot => k_is)
    (case e3_InvalidShot => k_is)
    (case e5_InvalidShot => k_is)
    (case e1_InvalidTable => k_is)
    (case e2_InvalidTable => k_is)
    (case e3_InvalidTable => k_is)
    (case e5_InvalidTable => k_is)
    (case e1_InvalidTime => k_is)
    (case e2_InvalidTime => k_is)
    (case e3_InvalidTime => k_is)
    (case e5_InvalidTime => k_is)
    (case e1_NotABall => k_is)
    (case e2_NotABall => k_is)
    (case e3_NotABall => k_is)
    (case e5_NotABall => k_is)
    (case e1_OtherTable => k_is)
    (case e2_OtherTable => k_is)
    (case e3_OtherTable => k_is)
    (case e5_OtherTable => k_is)
    (case hn_ => k_is)
    (case ht_ => k_is)
    (case kt_InvalidShot_InvalidShot => kit_is)
    (case kt_InvalidShot_InvalidTable => kit_is)
    (case kt_InvalidShot_InvalidTime => kit_is)
    (case kt_InvalidShot_NotABall => kit_is)
    (case kt_InvalidShot_OtherTable => kit_is)
    (case kt_InvalidTable_InvalidShot => kit_is)
    (case kt_InvalidTable_InvalidTable => kit_is)
    (case kt_InvalidTable_InvalidTime => kit_is)
    (case kt_InvalidTable_NotABall => kit_is)
    (case kt_InvalidTable_OtherTable => kit_is)
    (case kt_InvalidTime_InvalidShot => kit_is)
    (case kt_InvalidTime_InvalidTable => kit_is)
    (case kt_InvalidTime_InvalidTime => kit_is)
    (case kt_InvalidTime_NotABall => kit_is)
    (case kt_InvalidTime_OtherTable => kit_is)
    (case kt_NotABall_InvalidShot => kit_is)
    (case kt_NotABall_InvalidTable => kit_is)
    (case kt_NotABall_InvalidTime => kit_is)
    (case kt_NotABall_NotABall => kit_is)
    (case kt_NotABall_OtherTable => kit_is)
    (case kt_OtherTable_InvalidShot => kit_is)
    (case kt_OtherTable_InvalidTable => kit_is)
    (case kt_OtherTable_InvalidTime => kit_is)
    (case kt_OtherTable_NotABall => kit_is)
    (case kt_OtherTable_OtherTable => kit_is)
    (case kt_ValueError_InvalidShot => kit_is)
    (case kt_ValueError_InvalidTable => kit_is)
    (case kt_ValueError_InvalidTime => kit_is)
    (case kt_ValueError_NotABall => kit_is)
    (case kt_ValueError_OtherTable => kit_is)
    (case hh_ShotError_InvalidShot => k_is)
    (case hh_ShotError_InvalidTable => k_is)
    (case hh_ShotError_InvalidTime => k_is)
    (case hh_ShotError_NotABall => k_is)
    (case hh_ShotError_OtherTable => k_is)
