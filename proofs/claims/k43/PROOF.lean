import PyProof.Rows.All
import Wide.All
import OpenK.AllK
import Wide.FinOn
import PyProof.EqLayable
import PyProof.EqAt
import PyProof.EqKinds
import PyProof.TupleCall
import HandS.ForExc
import HandS.Comp
import HandS.Iter
import HandS.Text
import HandS.Walk
import HandS.Wide
import HandS.IsInst
import HandS.Gcd
import HandS.TupAny
import HandS.Zip
import HandS.Rev
import HandS.ExcIs
import HandS.ExcInit
import KE.KExcIs
import PyProof.Conv_int
import HandS.Dict
import PyProof.ReprReads
import PyProof.CallFns
import HandS.Style
import HandS.EndBits
import KE.KRevSl
import HandS.TupLe
import HandS.Conv
import HandS.SetFor
import KE.KTupSum
import KE.KMathG
import HandS.SortKw
import KE.DatumOrd
import HandS.Strs
import KE.GoesEnum
import KE.GoesZip
import HandS.SortInts
import KE.DatumIndex
import KE.DatumMore
import HandS.SortRule
import HandS.Deep
import HandS.List
import HandS.Replace
import HandS.StrMore
import OpenK.KMeth
import HandS.SlotsOwn
import HandS.Property
import KE.KOpsOwn
import KE.KCallOwn
import HandS.Star
import HandS.NamedTupSort
import PyProof.InstEq
import HandS.Nested
import HandS.ClsMeth
import KE.KSuper
import KE.KExcSuper
import HandS.ExcValue
import PySem.Challenge.RW_cushionshots_k43_error_classes
set_option Elab.async false
set_option linter.all false
set_option maxRecDepth 100000
set_option maxHeartbeats 4000000
namespace DL
open PySem
/-- what a slot holds: nothing known | frozen data | a list that nobody else holds | the law's well, with a budget of draws | the script | a caught error, at a -/
inductive S where
  | no | va (d : PyData) | own (ds : List PyData) | well (n : Nat) | scr (ns : List Int) | exc (a : Addr)
  /-- an instance of the class c that nobody else holds, its attributes -/
  | ins (c : Str) (es : List PyData)
abbrev DSt := List S
/-- a frozen instance of the class c: its attributes, a name and a value each -/
abbrev objD (c : Str) (es : List PyData) : PyData := .dict [(.none, .tuple (.str c :: es))]
/-- an attribute -/
def fget (n : Str) : List PyData → Option PyData
  | .tuple [.str m, d] :: r => if n = m then some d else fget n r
  | _ => none
def fput (n : Str) (v : PyData) : List PyData → List PyData
  | .tuple [.str m, d] :: r => if m = n then .tuple [.str m, v] :: r else .tuple [.str m, d] :: fput n v r
  | _ => [.tuple [.str n, v]]
/-- the three numbers of a well that stands for n more draws -/
structure WellOk (n : Nat) (a b c : Int) : Prop where
  a0 : 0 ≤ a
  a1 : a.natAbs < 2 ^ 1100000
  b0 : 0 ≤ b
  b1 : b < 2 ^ 150
  c0 : 0 ≤ c
  c1 : c + n < 2 ^ 64
def sget : DSt → Nat → S
  | [], _ => .no
  | s :: _, 0 => s
  | _ :: r, n + 1 => sget r n
def sset : DSt → Nat → S → DSt
  | [], _, _ => []
  | _ :: r, 0, s => s :: r
  | x :: r, n + 1, s => x :: sset r n s
/-- the slots is forgotten -/
def swipe : DSt → List Nat → DSt
  | sd, [] => sd
  | sd, i :: is => sset (swipe sd is) i .no
/-- the slots is put back from s0 -/
def sback (s0 : DSt) : DSt → List Nat → DSt
  | sd, [] => sd
  | sd, i :: is => sset (sback s0 sd is) i (sget s0 i)
abbrev ME := DSt → (PyData → DSt → Prop) → Prop
abbrev MT := DSt → (Bool → DSt → Prop) → Prop
abbrev MA := DSt → (List PyData → DSt → Prop) → Prop
abbrev MR := DSt → (S → DSt → Prop) → Prop
abbrev MI := DSt → (List PyData → DSt → Prop) → Prop
abbrev MG := PyData → DSt → (DSt → Prop) → Prop
abbrev MGs := List PyData → DSt → (DSt → Prop) → Prop
/-- what is wished of a raise: the class's name, the state -/
abbrev WD := String → DSt → Prop
structure DE where
  nx : DSt → Prop
  rt : S → DSt → Prop
  bk : DSt → Prop := fun _ => False
  ct : DSt → Prop := fun _ => False
abbrev MS := DE → DSt → Prop
/-- a def's promise: no well | with the well as its first argument -/
abbrev PSpec := List PyData → (S → Prop) → (String → Prop) → Prop
abbrev WSpec := Nat → List PyData → (S → Nat → Prop) → Prop
def fz : S → Option PyData
  | .va d => some d
  | .own ds => some (.list ds)
  | _ => none
def mC (d : PyData) : ME := fun sd Q => Q d sd
def mVar (i : Nat) : ME := fun sd Q => match sget sd i with
  | .va d => Q d sd
  | .own ds => Q (.list ds) (sset sd i (.va (.list ds)))
  | _ => False
def mOp2 (f : PyData → PyData → Option PyData) (ma mb : ME) : ME := fun sd Q => ma sd fun a s1 => mb s1 fun b s2 => ∃ r, f a b = some r ∧ Q r s2
def mOp1 (f : PyData → Option PyData) (ma : ME) : ME := fun sd Q => ma sd fun a s1 => ∃ r, f a = some r ∧ Q r s1
def mAnd (ma mb : ME) : ME := fun sd Q => ma sd fun a s1 => ∃ c, a = .bool c ∧ if c = true then mb s1 Q else Q (.bool false) s1
def mOr (ma mb : ME) : ME := fun sd Q => ma sd fun a s1 => ∃ c, a = .bool c ∧ if c = true then Q (.bool true) s1 else mb s1 Q
def mNot (ma : ME) : ME := fun sd Q => ma sd fun a s1 => ∃ c, a = .bool c ∧ Q (.bool (!c)) s1
def mIfE (mt : MT) (ma mb : ME) : ME := fun sd Q => mt sd fun c s1 => if c = true then ma s1 Q else mb s1 Q
/-- a < b < c: f a b, then g b c -/
def mChain (f g : PyData → PyData → Option PyData) (ma mb mc : ME) : ME := fun sd Q => ma sd fun a s1 => mb s1 fun b s2 => ∃ c, f a b = some (.bool c) ∧ if c = true then mc s2 fun d s3 => ∃ r, g b d = some r ∧ Q r s3 else Q (.bool false) s2
def mNil : MA := fun sd Q => Q [] sd
def mCons (me : ME) (ma : MA) : MA := fun sd Q => me sd fun d s1 => ma s1 fun ds s2 => Q (d :: ds) s2
def mTup (ma : MA) : ME := fun sd Q => ma sd fun ds s1 => ds.length ≤ 100000 ∧ Q (.tuple ds) s1
def mLst (ma : MA) : ME := fun sd Q => ma sd fun ds s1 => ds.length ≤ 100000 ∧ Q (.list ds) s1
def mCallB (f : List PyData → Option PyData) (ma : MA) : ME := fun sd Q => ma sd fun ds s1 => ∃ r, f ds = some r ∧ Q r s1
def mDict0 : ME := fun sd Q => Q (.dict []) sd
/-- a slice: parts given or left out -/
def mPart (me : ME) : DSt → (Option Int → DSt → Prop) → Prop := fun sd Q => me sd fun d s1 => ∃ i, d = .int i ∧ Q (some i) s1
def mNoPart : DSt → (Option Int → DSt → Prop) → Prop := fun sd Q => Q none sd
def mSl (f : PyData → Option Int → Option Int → Option PyData) (me : ME) (ml mh : DSt → (Option Int → DSt → Prop) → Prop) : ME :=
  fun sd Q => me sd fun d s1 => ml s1 fun l s2 => mh s2 fun h s3 => ∃ r, f d l h = some r ∧ Q r s3
/-- a call of an own def -/
def mCall (spec : PSpec) (W : WD) (ma : MA) : ME := fun sd Q => ma sd fun ds s1 => spec ds (fun r => ∃ d, fz r = some d ∧ Q d s1) (fun c => W c s1)
/-- .. by keywords: the arguments as they are given, then put into the def's order -/
def mCallK (spec : PSpec) (W : WD) (g : List PyData → List PyData → List PyData) (ma mk : MA) : ME :=
  fun sd Q => ma sd fun ds s1 => mk s1 fun es s2 => spec (g ds es) (fun r => ∃ d, fz r = some d ∧ Q d s2) (fun c => W c s2)
/-- .. with the well in slot i as its first argument -/
def mCallW (spec : WSpec) (i : Nat) (ma : MA) : ME := fun sd Q => (∃ n, sget sd i = .well n) ∧ ma sd fun ds s1 => ∃ n, sget s1 i = .well n ∧ spec n ds fun r n' => ∃ d, fz r = some d ∧ Q d (sset s1 i (.well n'))
/-- len of a list that is still owned -/
def mLenOwn (i : Nat) : ME := fun sd Q => ∃ ds, sget sd i = .own ds ∧ Q (.int (ds.length : Int)) sd
/-- len of the script; an item of it; the well that is made from it -/
def mLenScr (i : Nat) : ME := fun sd Q => ∃ ns, sget sd i = .scr ns ∧ Q (.int (ns.length : Int)) sd
def mT (me : ME) : MT := fun sd Q => me sd fun d s1 => ∃ c, d = .bool c ∧ Q c s1
def mTAnd (t u : MT) : MT := fun sd Q => t sd fun c s1 => if c = true then u s1 Q else Q false s1
def mTOr (t u : MT) : MT := fun sd Q => t sd fun c s1 => if c = true then Q true s1 else u s1 Q
def mTNot (t : MT) : MT := fun sd Q => t sd fun c s1 => Q (!c) s1
def mTYes : MT := fun sd Q => Q true sd
def mrOf (me : ME) : MR := fun sd Q => me sd fun d s1 => Q (.va d) s1
def mrLst (ma : MA) : MR := fun sd Q => ma sd fun ds s1 => ds.length ≤ 100000 ∧ Q (.own ds) s1
def mrCall (spec : PSpec) (W : WD) (ma : MA) : MR := fun sd Q => ma sd fun ds s1 => spec ds (fun r => Q r s1) (fun c => W c s1)
def mgName (i : Nat) : MG := fun d sd Q => Q (sset sd i (.va d))
def mgNil : MGs := fun ds sd Q => ds = [] ∧ Q sd
def mgCons (g : MG) (gs : MGs) : MGs := fun ds sd Q => ∃ d r, ds = d :: r ∧ g d sd fun s1 => gs r s1 Q
def items : PyData → Option (List PyData)
  | .tuple ds => some ds
  | .list ds => some ds
  | _ => none
def mgTup (n : Nat) (gs : MGs) : MG := fun d sd Q => ∃ ds, items d = some ds ∧ ds.length = n ∧ gs ds sd Q
def miSeq (me : ME) : MI := fun sd Q => me sd fun d s1 => ∃ ds, items d = some ds ∧ Q ds s1
def rangeL (lo : Int) (n : Nat) : List PyData := (List.range n).map fun i : Nat => .int (lo + (i : Int))
def miRng1 (ma : MA) : MI := fun sd Q => ma sd fun ds s1 => ∃ j : Int, ds = [.int j] ∧ -(2 ^ 62) ≤ j ∧ j < 2 ^ 62 ∧ Q (rangeL 0 j.toNat) s1
def miRng2 (ma : MA) : MI := fun sd Q => ma sd fun ds s1 => ∃ i j : Int, ds = [.int i, .int j] ∧ (-(2 ^ 62) ≤ i ∧ i < 2 ^ 62 ∧ -(2 ^ 62) ≤ j ∧ j < 2 ^ 62) ∧ Q (rangeL i (j - i).toNat) s1
def signsD (z : Str) : List PyData := z.cps.toList.map fun c => .str ⟨#[c]⟩
def miStr (me : ME) : MI := fun sd Q => me sd fun d s1 => ∃ z, d = .str z ∧ Q (signsD z) s1
def enumL : Nat → List PyData → List PyData
  | _, [] => []
  | k, d :: ds => .tuple [.int (k : Int), d] :: enumL (k + 1) ds
def miEnum (ma : MA) : MI := fun sd Q => ma sd fun ds s1 => ∃ xs, ds = [.list xs] ∧ Q (enumL 0 xs) s1
def zipL : List PyData → List PyData → List PyData
  | x :: xs, y :: ys => .tuple [x, y] :: zipL xs ys
  | _, _ => []
def miZip (ma : MA) : MI := fun sd Q => ma sd fun ds s1 => ∃ xs ys, (ds = [.list xs, .list ys] ∨ ds = [.tuple xs, .tuple ys]) ∧ Q (zipL xs ys) s1
def miRev (me : ME) : MI := fun sd Q => me sd fun d s1 => ∃ ds, items d = some ds ∧ Q ds.reverse s1
def lcL (mg : MG) (mt : MT) (me : ME) (vs : List Nat) (Q : List PyData → DSt → Prop) : List PyData → DSt → List PyData → Prop
  | [], s, acc => Q acc s
  | d :: ds, s, acc => mg d (swipe s vs) fun s1 => mt s1 fun b s2 => if b = true then me s2 fun y s3 => acc.length < 100000 ∧ lcL mg mt me vs Q ds s3 (acc ++ [y]) else lcL mg mt me vs Q ds s2 acc
def unOwn (s : DSt) (vs : List Nat) : Bool := vs.all fun j => match sget s j with
  | .own _ => false
  | .well _ => false
  | .ins _ _ => false
  | _ => true
def mLc (mi : MI) (mg : MG) (mt : MT) (me : ME) (vs : List Nat) : ME := fun sd Q => mi sd fun ds s => unOwn s vs = true ∧ lcL mg mt me vs (fun out s' => Q (.list out) (sback s s' vs)) ds s []
def mrLc (mi : MI) (mg : MG) (mt : MT) (me : ME) (vs : List Nat) : MR := fun sd Q => mi sd fun ds s => unOwn s vs = true ∧ lcL mg mt me vs (fun out s' => Q (.own out) (sback s s' vs)) ds s []
def mNext : MS := fun D sd => D.nx sd
def mBreak : MS := fun D sd => D.bk sd
def mCont : MS := fun D sd => D.ct sd
def mSeq (a b : MS) : MS := fun D sd => a { D with nx := b D } sd
def mAsg (me : ME) (mg : MG) : MS := fun D sd => me sd fun d s1 => mg d s1 D.nx
def mAsgR (i : Nat) (mr : MR) : MS := fun D sd => mr sd fun r s1 => D.nx (sset s1 i r)
/-- a, b = x, y: the values in their order, then the slots -/
def mrs : List MR → DSt → (List S → DSt → Prop) → Prop
  | [], sd, Q => Q [] sd
  | m :: ms, sd, Q => m sd fun r s1 => mrs ms s1 fun rs s2 => Q (r :: rs) s2
def ssets : DSt → List Nat → List S → DSt
  | sd, i :: is, r :: rs => ssets (sset sd i r) is rs
  | sd, _, _ => sd
def mAsgM (is : List Nat) (ms : List MR) : MS := fun D sd => mrs ms sd fun rs s1 => rs.length = is.length ∧ D.nx (ssets s1 is rs)
def mIf (t : MT) (a b : MS) : MS := fun D sd => t sd fun c s1 => if c = true then a D s1 else b D s1
def mRet (mr : MR) : MS := fun D sd => mr sd D.rt
def mRetOwn (i : Nat) : MR := fun sd Q => match sget sd i with
  | .own ds => Q (.own ds) sd
  | .well n => Q (.well n) sd
  | _ => False
def mRetN : MS := fun D sd => D.rt (.va .none) sd
def mDrop (me : ME) : MS := fun D sd => me sd fun _ s1 => D.nx s1
def mApp (i : Nat) (me : ME) : MS := fun D sd => (∃ ds, sget sd i = .own ds) ∧ me sd fun d s1 => ∃ ds, sget s1 i = .own ds ∧ ds.length < 100000 ∧ D.nx (sset s1 i (.own (ds ++ [d])))
def forL (mg : MG) (body : MS) (D : DE) : List PyData → DSt → Prop
  | [], s => D.nx s
  | d :: ds, s => mg d s fun s1 => body { D with nx := forL mg body D ds, ct := forL mg body D ds, bk := D.nx } s1
def mFor (mi : MI) (mg : MG) (body : MS) : MS := fun D sd => mi sd fun ds s => forL mg body D ds s
def whileN (t : MT) (body : MS) (D : DE) : Nat → DSt → Prop
  | 0, _ => False
  | n + 1, s => t s fun b s1 => if b = true then body { D with nx := whileN t body D n, ct := whileN t body D n, bk := D.nx } s1 else D.nx s1
def mWhile (t : MT) (body : MS) : MS := fun D sd => ∃ n, whileN t body D n sd
def mRaise (c : String) (W : WD) : MS := fun _ sd => W c sd
def small (a b : Int) : Bool := decide (a.natAbs.log2 + b.natAbs.log2 < 1000000)
def opAdd : PyData → PyData → Option PyData
  | .int a, .int b => some (.int (a + b))
  | .str a, .str b => if a.length + b.length ≤ 100000 then some (.str (a ++ b)) else none
  | .list a, .list b => if a.length + b.length ≤ 100000 then some (.list (a ++ b)) else none
  | .tuple a, .tuple b => if a.length + b.length ≤ 100000 then some (.tuple (a ++ b)) else none
  | _, _ => none
def opSub : PyData → PyData → Option PyData
  | .int a, .int b => some (.int (a - b))
  | _, _ => none
def opMul : PyData → PyData → Option PyData
  | .int a, .int b => if small a b = true then some (.int (a * b)) else none
  | .list a, .int k => if 0 ≤ k ∧ k ≤ 1000 ∧ a.length ≤ 1000 then some (.list (List.replicate k.toNat a).flatten) else none
  | _, _ => none
def opMod : PyData → PyData → Option PyData
  | .int a, .int b => if 0 < b then some (.int (a % b)) else none
  | _, _ => none
def opFdiv : PyData → PyData → Option PyData
  | .int a, .int b => if 0 < b ∧ b.natAbs.log2 < 9000 then some (.int (a / b)) else none
  | _, _ => none
def cmpI (p : Int → Int → Bool) : PyData → PyData → Option PyData
  | .int a, .int b => some (.bool (p a b))
  | _, _ => none
def opLt := cmpI fun a b => decide (a < b)
def opLe := cmpI fun a b => decide (a ≤ b)
def opGt := cmpI fun a b => decide (b < a)
def opGe := cmpI fun a b => decide (b ≤ a)
def strs? : PyData → PyData → Option (Str × Str)
  | .str x, .str y => some (x, y)
  | _, _ => none
def opEq (a b : PyData) : Option PyData := if (SeqAt.shaped a && SeqAt.shaped b) = true then some (.bool (PyData.eqv a b)) else (strs? a b).map fun p => .bool (decide (p.1 = p.2))
def opNe (a b : PyData) : Option PyData := if (SeqAt.shaped a && SeqAt.shaped b) = true then some (.bool (!PyData.eqv a b)) else (strs? a b).map fun p => .bool (!decide (p.1 = p.2))
def isN : PyData → Bool
  | .none => true
  | _ => false
/-- x is None, x is not None -/
def opIsN2 (a : PyData) : PyData → Option PyData
  | .none => some (.bool (isN a))
  | _ => none
def opNotN2 (a : PyData) : PyData → Option PyData
  | .none => some (.bool (!isN a))
  | _ => none
/-- x is True, where x is a bool -/
def opIsB : PyData → PyData → Option PyData
  | .bool a, .bool b => some (.bool (decide (a = b)))
  | _, _ => none
def opNotB : PyData → PyData → Option PyData
  | .bool a, .bool b => some (.bool (!decide (a = b)))
  | _, _ => none
def opPow : PyData → PyData → Option PyData
  | .int a, .int b => if 0 ≤ b ∧ b ≤ 100 ∧ a.natAbs < 2 ^ 10000 then some (.int (a ^ b.toNat)) else none
  | _, _ => none
def flatD : PyData → Bool
  | .none | .bool _ | .int _ | .str _ => true
  | _ => false
/-- x in a list or a tuple of flat things -/
def opInS (neg : Bool) (a b : PyData) : Option PyData := (items b).bind fun ds => if (flatD a && ds.all flatD) = true then some (.bool (if neg then !ds.any (fun d => PyData.eqv d a) else ds.any fun d => PyData.eqv d a)) else none
/-- .. or one sign in a text -/
def sign? (z : Str) : Option Nat := match z.cps.toList with
  | [c] => some c
  | _ => none
theorem sign_of {z : Str} {c : Nat} (h : sign? z = some c) : z = ⟨#[c]⟩ := by
  unfold sign? at h
  split at h
  · rename_i c' e
    cases h
    obtain ⟨⟨l⟩⟩ := z
    have e' : l = [c] := e
    rw [e']
  · cases h
def opIn : PyData → PyData → Option PyData
  | .str c, .str z => (sign? c).map fun c => .bool (decide (c ∈ z.cps.toList))
  | a, b => opInS false a b
def opNotIn : PyData → PyData → Option PyData
  | .str c, .str z => (sign? c).map fun c => .bool (!decide (c ∈ z.cps.toList))
  | a, b => opInS true a b
def opNeg : PyData → Option PyData
  | .int a => some (.int (-a))
  | _ => none
def ixN (n : Nat) (i : Int) : Option Nat := if 0 ≤ i then (if i < n then some i.toNat else none) else if -(n : Int) ≤ i then some (i + n).toNat else none
def atI {α : Type} (xs : List α) (i : Int) : Option α := (ixN xs.length i).bind fun j => xs[j]?
def opIx : PyData → PyData → Option PyData
  | .list xs, .int i => atI xs i
  | .tuple xs, .int i => atI xs i
  | .str z, .int i => if z.length ≤ 100000 then (atI z.cps.toList i).map fun c => .str ⟨#[c]⟩ else none
  | _, _ => none
def sIx (n d : Nat) : Option Int → Nat
  | .none => d
  | .some v => if v < 0 then (v + (n : Int)).toNat else min v.toNat n
def cutL {α : Type} (xs : List α) (lo hi : Option Int) : List α := (xs.drop (sIx xs.length 0 lo)).take (sIx xs.length xs.length hi - sIx xs.length 0 lo)
def opSl (d : PyData) (lo hi : Option Int) : Option PyData := match d with
  | .list xs => some (.list (cutL xs lo hi))
  | .tuple xs => some (.tuple (cutL xs lo hi))
  | .str z => if z.length ≤ 100000 then some (.str ⟨(cutL z.cps.toList lo hi).toArray⟩) else none
  | _ => none
/-- x[::-1] -/
def opRev : PyData → Option PyData
  | .list xs => some (.list xs.reverse)
  | .tuple xs => some (.tuple xs.reverse)
  | _ => none
def bLen : List PyData → Option PyData
  | [.list xs] => some (.int (xs.length : Int))
  | [.tuple xs] => some (.int (xs.length : Int))
  | [.str z] => if z.length ≤ 100000 then some (.int (z.length : Int)) else none
  | _ => none
def bAbs : List PyData → Option PyData
  | [.int i] => some (.int (if i < 0 then -i else i))
  | _ => none
def bMax : List PyData → Option PyData
  | [.int i, .int j] => some (.int (if j > i then j else i))
  | _ => none
def bMin : List PyData → Option PyData
  | [.int i, .int j] => some (.int (if j < i then j else i))
  | _ => none
def bInt : List PyData → Option PyData
  | [.int i] => some (.int i)
  | _ => none
def bGcd : List PyData → Option PyData
  | [.int i, .int j] => some (.int ((Nat.gcd i.natAbs j.natAbs : Nat) : Int))
  | _ => none
def bools : List PyData → Option (List Bool)
  | [] => some []
  | .bool b :: r => (bools r).map (b :: ·)
  | _ :: _ => none
def bAll : List PyData → Option PyData
  | [.list xs] => (bools xs).map fun bs => .bool (bs.all id)
  | _ => none
def bAny : List PyData → Option PyData
  | [.list xs] => (bools xs).map fun bs => .bool (bs.any id)
  | _ => none
def bList : List PyData → Option PyData
  | [.list xs] => some (.list xs)
  | [.tuple xs] => some (.list xs)
  | _ => none
/-- the kinds that isinstance asks for -/
inductive Ki where | kInt | kBool | kStr | kTup | kLst | kDict
  deriving DecidableEq
def isK : Ki → PyData → Bool
  | .kInt, .int _ => true
  | .kInt, .bool _ => true
  | .kBool, .bool _ => true
  | .kStr, .str _ => true
  | .kTup, .tuple _ => true
  | .kLst, .list _ => true
  | .kDict, .dict ((.none, _) :: _) => false
  | .kDict, .dict _ => true
  | _, _ => false
def bIsi (ks : List Ki) : PyData → Option PyData := fun d => some (.bool (ks.any fun k => isK k d))
def slots0 (n : Nat) (ds : List PyData) : DSt := ds.map S.va ++ List.replicate (n - ds.length) .no
def endP (Q : S → Prop) : DE := { nx := fun _ => Q (.va .none), rt := fun r _ => Q r }
def slotsW (N n : Nat) (ds : List PyData) : DSt := .well n :: slots0 (N - 1) ds
def endW (Q : S → Nat → Prop) : DE := { nx := fun sd => ∃ n, sget sd 0 = .well n ∧ Q (.va .none) n, rt := fun r sd => ∃ n, sget sd 0 = .well n ∧ Q r n }
def endL : DE := { nx := fun _ => False, rt := fun r _ => r = .va (.bool true) }
/-- the well that is made from the script in slot i -/
def mrWell (i : Nat) (me : ME) : MR := fun sd Q => me sd fun d s1 => ∃ ns k, sget s1 i = .scr ns ∧ d = .int k ∧ 0 ≤ k ∧ k < 2 ^ 20 ∧ Q (.well (2 ^ 60)) s1
def wF : WD := fun _ _ => False
end DL
namespace DL
open PySem PySem.Spec PyProof.Rows L2
def keyD : Key → PyData
  | .inl i => .int i
  | .inr x => .str x
def kName : Ki → String
  | .kInt => "int" | .kBool => "bool" | .kStr => "str" | .kTup => "tuple" | .kLst => "list" | .kDict => "dict"
/-- C is the class c of the program, with plain instances -/
structure ObjC (K : PySem.W.Frag) (c : Str) (C : Addr) : Prop where
  ns : PySem.W.nsIn K mainGlobals c = some (some (.ref C))
  cl : Cls K C
  ha : PySem.W.findIn K (.ref C) "__class__" = some (some (.builtin "object.__class__"))
  hn : PySem.W.specialIn K (.builtin "object.__class__") "__get__" = some (some (.builtin "getset_descriptor.__get__"))
  htk : PySem.W.takesIn K (.builtin "object.__class__") = some true
  hm : PySem.W.mroIn K C (.type "object") = some true
  kit : ∀ k : Ki, PySem.W.kitOne K (.ref C) (.type (kName k)) = some false
theorem ObjC.uniq {K : PySem.W.Frag} {c : Str} {C D : Addr} (a : ObjC K c C) (b : ObjC K c D) : C = D := by
  have := a.ns.symm.trans b.ns
  cases this
  rfl
/-- the program's own error classes -/
def errNames : List Str := ["ShotError", "InvalidTable", "InvalidShot", "InvalidSide", "InvalidTime", "InvalidNumber", "InvalidIndex", "InvalidCushion", "InvalidSpot", "InvalidBox", "InvalidStretch", "InvalidStretches", "InvalidPockets", "InvalidCushions", "InvalidShots", "InvalidBall", "InvalidText", "InvalidChange",
  "AlwaysTogether", "NotABall", "OtherTable", "NothingToUndo", "BallsMeet", "TooMany"]
/-- C is the own error class c -/
structure ObjE (K : PySem.W.Frag) (c : Str) (C : Addr) : Prop where
  nm : c ∈ errNames
  ns : PySem.W.nsIn K mainGlobals c = some (some (.ref C))
  ec : L2.ExcC K C
  cl : (PySem.W.clsIn K C).isSome = true
  kit : ∀ k : Ki, PySem.W.kitOne K (.ref C) (.type (kName k)) = some false
mutual
inductive Rp (K : PySem.W.Frag) (F : Hp) : V → PyData → Prop
  | non : Rp K F .non .none
  | bl (b : Bool) : Rp K F (.bl b) (.bool b)
  | int (i : Int) : Rp K F (.int i) (.int i)
  | str (x : Str) : Rp K F (.str x) (.str x)
  | lst {a : Addr} {xs : List V} {ds : List PyData} : F a = some (.lst xs) → RpA K F xs ds → Rp K F (.ref a) (.list ds)
  | tup {a : Addr} {xs : List V} {ds : List PyData} : SqT K F a xs → RpA K F xs ds → Rp K F (.ref a) (.tuple ds)
  | dct {a : Addr} {kvs : List (Key × V)} {es : List (PyData × PyData)} : F a = some (.dK kvs) → RpD K F kvs es → Rp K F (.ref a) (.dict es)
  | ins {a C dx : Addr} {c : Str} {fs : List (Str × V)} {es : List PyData} : F a = some (.ins C dx fs) → ObjC K c C → RpF K F fs es → Rp K F (.ref a) (.dict [(.none, .tuple (.str c :: es))])
  | ex0 {a C : Addr} {c : Str} : F a = some (L2.exo a C none) → ObjE K c C → Rp K F (.ref a) (.dict [(.none, .list [.str c])])
  | exF {a C d : Addr} {c : Str} {fs : List (Str × V)} {es : List PyData} : F a = some (L2.exo a C (some d)) → F d = some (L2.exd d fs) → ObjE K c C → RpF K F fs es → Rp K F (.ref a) (.dict [(.none, .list (.str c :: es))])
inductive RpF (K : PySem.W.Frag) (F : Hp) : List (Str × V) → List PyData → Prop
  | nil : RpF K F [] []
  | cons {n : Str} {v : V} {fs : List (Str × V)} {d : PyData} {es : List PyData} : Rp K F v d → RpF K F fs es → RpF K F ((n, v) :: fs) (.tuple [.str n, d] :: es)
inductive RpA (K : PySem.W.Frag) (F : Hp) : List V → List PyData → Prop
  | nil : RpA K F [] []
  | cons {v : V} {vs : List V} {d : PyData} {ds : List PyData} : Rp K F v d → RpA K F vs ds → RpA K F (v :: vs) (d :: ds)
inductive RpD (K : PySem.W.Frag) (F : Hp) : List (Key × V) → List (PyData × PyData) → Prop
  | nil : RpD K F [] []
  | cons {k : Key} {v : V} {kvs : List (Key × V)} {d : PyData} {es : List (PyData × PyData)} : Rp K F v d → RpD K F kvs es → RpD K F ((k, v) :: kvs) ((keyD k, d) :: es)
end
theorem same_rd {H H' : Hp} {a : Addr} {u : HO} (e : Same H H') (h : Rd H a u) : Rd H' a u := by
  rcases h with h | ⟨o, h⟩
  · exact .inl (e _ _ h)
  · exact .inr ⟨o, e _ _ h⟩
theorem same_t {K : PySem.W.Frag} {H H' : Hp} {a : Addr} {xs : List V} (e : Same H H') (h : SqT K H a xs) : SqT K H' a xs := by
  rcases h with (h | ⟨o, h⟩) | h
  · exact .inl (.inl (e _ _ h))
  · exact .inl (.inr ⟨o, e _ _ h⟩)
  · exact .inr h
section
variable {K : PySem.W.Frag} {F F' H H' H1 : Hp} {v : V} {vs : List V} {d : PyData} {ds : List PyData}
mutual
theorem Rp.mono (e : Same F F') : ∀ {d : PyData} {v : V}, Rp K F v d → Rp K F' v d
  | .none, _, .non => .non
  | .bool _, _, .bl b => .bl b
  | .int _, _, .int i => .int i
  | .str _, _, .str x => .str x
  | .list _, _, .lst h r => .lst (e _ _ h) (RpA.mono e r)
  | .tuple _, _, .tup h r => .tup (same_t e h) (RpA.mono e r)
  | .dict _, _, .dct h r => .dct (e _ _ h) (RpD.mono e r)
  | .dict _, _, .ins h o r => .ins (e _ _ h) o (RpF.mono e r)
  | .dict _, _, .ex0 h o => .ex0 (e _ _ h) o
  | .dict _, _, .exF h g o r => .exF (e _ _ h) (e _ _ g) o (RpF.mono e r)
theorem RpF.mono (e : Same F F') : ∀ {es : List PyData} {fs : List (Str × V)}, RpF K F fs es → RpF K F' fs es
  | _, _, .nil => .nil
  | _, _, .cons h r => .cons (Rp.mono e h) (RpF.mono e r)
theorem RpA.mono (e : Same F F') : ∀ {ds : List PyData} {vs : List V}, RpA K F vs ds → RpA K F' vs ds
  | [], _, .nil => .nil
  | _ :: _, _, .cons h r => .cons (Rp.mono e h) (RpA.mono e r)
theorem RpD.mono (e : Same F F') : ∀ {es : List (PyData × PyData)} {kvs : List (Key × V)}, RpD K F kvs es → RpD K F' kvs es
  | [], _, .nil => .nil
  | _ :: _, _, .cons h r => .cons (Rp.mono e h) (RpD.mono e r)
end
mutual
theorem Rp.dp (e : Same F H) : ∀ {d : PyData} {v : V}, d.canLay0 = true → Rp K F v d → Dp K H v d
  | .none, _, _, .non => .non
  | .bool _, _, _, .bl b => .bl b
  | .int _, _, _, .int i => .int i
  | .str _, _, _, .str x => .str x
  | .list _, _, c, .lst h r => .lst (.inl (.inl (e _ _ h))) (RpA.dp e (by simpa [PyData.canLay0] using c) r)
  | .tuple _, _, c, .tup h r => .tup (same_t e h) (RpA.dp e (by simpa [PyData.canLay0] using c) r)
theorem RpA.dp (e : Same F H) : ∀ {ds : List PyData} {vs : List V}, PyData.canLayAll0 ds = true → RpA K F vs ds → DpAll K H vs ds
  | [], _, _, .nil => .nil
  | _ :: _, _, c, .cons h r => .cons (Rp.dp e (by have := c; simp only [PyData.canLayAll0, Bool.and_eq_true] at this; exact this.1) h) (RpA.dp e (by have := c; simp only [PyData.canLayAll0, Bool.and_eq_true] at this; exact this.2) r)
end
theorem RpA.length : ∀ {vs : List V} {ds : List PyData}, RpA K F vs ds → vs.length = ds.length
  | _, _, .nil => rfl
  | _, _, .cons _ r => by simp [RpA.length r]
theorem RpA.get : ∀ {vs : List V} {ds : List PyData} {i : Nat} {d : PyData}, RpA K F vs ds → ds[i]? = some d → ∃ v, vs[i]? = some v ∧ Rp K F v d
  | _, _, _, _, .nil, h => by simp at h
  | _, _, 0, _, .cons h _, e => by simp at e; subst e; exact ⟨_, rfl, h⟩
  | _, _, i + 1, _, .cons _ r, e => by
    obtain ⟨v, h1, h2⟩ := RpA.get (i := i) r (by simpa using e)
    exact ⟨v, by simpa using h1, h2⟩
theorem RpA.append : ∀ {vs ws : List V} {ds es : List PyData}, RpA K F vs ds → RpA K F ws es → RpA K F (vs ++ ws) (ds ++ es)
  | _, _, _, _, .nil, s => s
  | _, _, _, _, .cons h r, s => .cons h (RpA.append r s)
theorem RpA.take : ∀ {vs : List V} {ds : List PyData} (n : Nat), RpA K F vs ds → RpA K F (vs.take n) (ds.take n)
  | _, _, 0, _ => .nil
  | _, _, _ + 1, .nil => .nil
  | _, _, n + 1, .cons h r => .cons h (RpA.take n r)
theorem RpA.drop : ∀ {vs : List V} {ds : List PyData} (n : Nat), RpA K F vs ds → RpA K F (vs.drop n) (ds.drop n)
  | _, _, 0, r => r
  | _, _, _ + 1, .nil => .nil
  | _, _, n + 1, .cons _ r => RpA.drop n r
theorem RpA.snoc (h : RpA K F vs ds) (q : Rp K F v d) : RpA K F (vs ++ [v]) (ds ++ [d]) := h.append (.cons q .nil)
theorem RpA.reverse : ∀ {vs : List V} {ds : List PyData}, RpA K F vs ds → RpA K F vs.reverse ds.reverse
  | _, _, .nil => .nil
  | _, _, .cons h r => by simp only [List.reverse_cons]; exact (RpA.reverse r).snoc h
end
def gv (σ : L2.St) (i : Nat) : Option V := (σ[i]?).join
theorem gv_some {σ : L2.St} {i : Nat} {v : V} : gv σ i = some v ↔ σ[i]? = some (some v) := by
  unfold gv
  cases h : σ[i]? with
  | none => simp
  | some x => simp
theorem gv_set {σ : L2.St} {i : Nat} {x : Option V} (h : i < σ.length) : gv (σ.set i x) i = x := by
  unfold gv; rw [List.getElem?_set_self h]; rfl
theorem gv_set_ne {σ : L2.St} {i j : Nat} {x : Option V} (h : j ≠ i) : gv (σ.set i x) j = gv σ j := by
  unfold gv; rw [List.getElem?_set_ne (Ne.symm h)]
theorem sset_length : ∀ {sd : DSt} {i : Nat} {s : S}, (sset sd i s).length = sd.length
  | [], _, _ => rfl
  | _ :: _, 0, _ => rfl
  | _ :: r, i + 1, s => by simp [sset, sset_length]
theorem sget_sset : ∀ {sd : DSt} {i : Nat} {s : S}, i < sd.length → sget (sset sd i s) i = s
  | [], _, _, h => by simp at h
  | _ :: _, 0, _, _ => rfl
  | _ :: r, i + 1, s, h => by simp only [sset, sget]; exact sget_sset (by simpa using h)
theorem sget_sset_ne : ∀ {sd : DSt} {i j : Nat} {s : S}, j ≠ i → sget (sset sd i s) j = sget sd j
  | [], _, _, _, _ => rfl
  | _ :: _, 0, 0, _, h => absurd rfl h
  | _ :: _, 0, j + 1, _, _ => rfl
  | _ :: _, i + 1, 0, _, _ => rfl
  | _ :: r, i + 1, j + 1, s, h => by simp only [sset, sget]; exact sget_sset_ne (by omega)
theorem sget_out : ∀ {sd : DSt} {i : Nat}, sd.length ≤ i → sget sd i = .no
  | [], _, _ => rfl
  | _ :: _, 0, h => by simp at h
  | _ :: r, i + 1, h => by simp only [sget]; exact sget_out (by simpa using h)
/-- a def's entry: the frozen heap, the heap, the addresses that were handed over to be changed -/
structure Ct where
  F0 : Hp
  H0 : Hp
  B : Addr → Prop
  isW : Bool
def SlotOk (K : PySem.W.Frag) (C : Ct) (F H : Hp) (x : Option V) : S → Prop
  | .no => True
  | .va d => ∃ v, x = some v ∧ Rp K F v d
  | .own ds => ∃ p vs, x = some (.ref p) ∧ H p = some (.lst vs) ∧ F p = none ∧ C.H0 p = none ∧ RpA K F vs ds
  | .scr ns => ∃ p, x = some (.ref p) ∧ SqL K F p (ns.map V.int)
  | .exc a => x = some (.ref a)
  | .ins c es => ∃ p Cc dx fs, x = some (.ref p) ∧ H p = some (.ins Cc dx fs) ∧ F p = none ∧ ((C.isW = true ∧ C.B p) ∨ (C.isW = false ∧ C.H0 p = none)) ∧ ObjC K c Cc ∧ RpF K F fs es
  | .well n => ∃ p a b c, x = some (.ref p) ∧ H p = some (.lst [.int a, .int b, .int c]) ∧ F p = none ∧ ((C.isW = true ∧ C.B p) ∨ (C.isW = false ∧ C.H0 p = none)) ∧ WellOk n a b c
def isOwn : S → Bool
  | .own _ => true
  | .well _ => true
  | .ins _ _ => true
  | _ => false
def Owned (σ : L2.St) (sd : DSt) (a : Addr) : Prop := ∃ i, isOwn (sget sd i) = true ∧ gv σ i = some (.ref a)
structure Rs (K : PySem.W.Frag) (C : Ct) (F H : Hp) (σ : L2.St) (sd : DSt) : Prop where
  len : σ.length = sd.length
  grow : Same C.F0 F
  ext : Same F H
  new : ∀ a o, F a = some o → C.F0 a = some o ∨ C.H0 a = none
  keep : ∀ a o, C.H0 a = some o → ¬ C.B a → H a = some o
  still : ∀ a, H a = none → C.H0 a = none
  slot : ∀ i, SlotOk K C F H (gv σ i) (sget sd i)
  sep : ∀ i j p, i ≠ j → isOwn (sget sd i) = true → isOwn (sget sd j) = true → gv σ i = some (.ref p) → gv σ j ≠ some (.ref p)
/-- what an expression does to the state -/
structure Stp (σ : L2.St) (sd : DSt) (F H F' H' : Hp) (sd' : DSt) : Prop where
  fr : Same F F'
  kp : ∀ a o, H a = some o → ¬ Owned σ sd a → H' a = some o
  ow : ∀ a, Owned σ sd' a → Owned σ sd a
  nw : ∀ a o, F' a = some o → F a = some o ∨ H a = none ∨ Owned σ sd a
  st : ∀ a, H' a = none → H a = none
section
variable {K : PySem.W.Frag} {C : Ct} {F F1 F2 F' H H1 H2 H' : Hp} {σ : L2.St} {sd sd1 sd2 sd' : DSt} {p : Addr} {o : HO}
theorem Stp.refl : Stp σ sd F H F H sd := ⟨Same.refl _, fun _ _ h _ => h, fun _ h => h, fun _ _ h => .inl h, fun _ h => h⟩
theorem Stp.trans (a : Stp σ sd F H F1 H1 sd1) (b : Stp σ sd1 F1 H1 F2 H2 sd2) : Stp σ sd F H F2 H2 sd2 where
  fr := a.fr.trans b.fr
  kp := fun x o h n => b.kp x o (a.kp x o h n) fun z => n (a.ow x z)
  ow := fun x h => a.ow x (b.ow x h)
  nw := fun x o h => by
    rcases b.nw x o h with h | h | h
    · exact a.nw x o h
    · exact .inr (.inl (a.st x h))
    · exact .inr (.inr (a.ow x h))
  st := fun x h => a.st x (b.st x h)
/-- nothing, or one new object, known to all -/
inductive Al (F H : Hp) : Hp → Hp → Prop
  | id : Al F H F H
  | new {p : Addr} {o : HO} (h : H p = none) : Al F H (upd F p o) (upd H p o)
theorem same_new (h : H p = none) : Same H (upd H p o) := fun b x e => by
  rw [upd_ne (ne_of_none e h)]; exact e
theorem SlotOk.grow {x : Option V} {s : S} (e : Same F F') (k : ∀ q o, isOwn s = true → x = some (.ref q) → H q = some o → F q = none → H' q = some o ∧ F' q = none) (h : SlotOk K C F H x s) : SlotOk K C F' H' x s := by
  cases s with
  | no => trivial
  | va d => obtain ⟨v, e1, r⟩ := h; exact ⟨v, e1, r.mono e⟩
  | own ds =>
    obtain ⟨q, vs, e1, e2, e3, e4, r⟩ := h
    obtain ⟨k1, k2⟩ := k q _ rfl e1 e2 e3
    exact ⟨q, vs, e1, k1, k2, e4, r.mono e⟩
  | scr ns => obtain ⟨q, e1, e2⟩ := h; exact ⟨q, e1, e.seq e2⟩
  | exc a => exact h
  | ins c es =>
    obtain ⟨q, Cc, dx, fs, e1, e2, e3, e4, oc, r⟩ := h
    obtain ⟨k1, k2⟩ := k q _ rfl e1 e2 e3
    exact ⟨q, Cc, dx, fs, e1, k1, k2, e4, oc, r.mono e⟩
  | well n =>
    obtain ⟨q, a, b, c, e1, e2, e3, e4, r⟩ := h
    obtain ⟨k1, k2⟩ := k q _ rfl e1 e2 e3
    exact ⟨q, a, b, c, e1, k1, k2, e4, r⟩
theorem Rs.free (R : Rs K C F H σ sd) (h : H p = none) : F p = none := by
  cases e : F p with
  | none => rfl
  | some x => rw [R.ext _ _ e] at h; cases h
theorem Rs.alloc (R : Rs K C F H σ sd) (h : H p = none) : Rs K C (upd F p o) (upd H p o) σ sd where
  len := R.len
  grow := R.grow.trans (same_new (R.free h))
  ext := fun a x e => by
    by_cases z : a = p
    · subst z; rw [upd_same] at e ⊢; exact e
    · rw [upd_ne z] at e ⊢; exact R.ext a x e
  new := fun a x e => by
    by_cases z : a = p
    · subst z; exact .inr (R.still a h)
    · rw [upd_ne z] at e; exact R.new a x e
  keep := fun a x e n => same_new h a x (R.keep a x e n)
  still := fun a e => by
    by_cases z : a = p
    · subst z; exact R.still a h
    · rw [upd_ne z] at e; exact R.still a e
  slot := fun i => (R.slot i).grow (same_new (R.free h)) fun q x _ _ e n => ⟨same_new h q x e, by rw [upd_ne (ne_of_none e h)]; exact n⟩
  sep := R.sep
/-- a new object that nobody will look at -/
theorem Rs.allocH (R : Rs K C F H σ sd) (h : H p = none) : Rs K C F (upd H p o) σ sd where
  len := R.len
  grow := R.grow
  ext := fun a x e => same_new h a x (R.ext a x e)
  new := R.new
  keep := fun a x e n => same_new h a x (R.keep a x e n)
  still := fun a e => by
    by_cases z : a = p
    · subst z; exact R.still a h
    · rw [upd_ne z] at e; exact R.still a e
  slot := fun i => (R.slot i).grow (Same.refl _) fun q x _ _ e n => ⟨same_new h q x e, n⟩
  sep := R.sep
theorem Rs.al (R : Rs K C F H σ sd) (a : Al F H F' H') : Rs K C F' H' σ sd := by
  cases a with
  | id => exact R
  | new h => exact R.alloc h
theorem Stp.al (R : Rs K C F H σ sd) (a : Al F H F' H') : Stp σ sd F H F' H' sd := by
  cases a with
  | id => exact .refl
  | @new p o h =>
    refine ⟨same_new (R.free h), fun x o e _ => same_new h x o e, fun _ h => h, fun x o e => ?_, fun x e => ?_⟩
    · by_cases z : x = p
      · subst z; exact .inr (.inl h)
      · rw [upd_ne z] at e; exact .inl e
    · by_cases z : x = p
      · subst z; exact h
      · rw [upd_ne z] at e; exact e
theorem Rs.lt_of_own (R : Rs K C F H σ sd) {i : Nat} (h : sget sd i ≠ .no) : i < sd.length := by
  apply Classical.byContradiction
  intro z
  exact h (sget_out (by omega))
/-- a slot gets frozen data -/
theorem Rs.setva (R : Rs K C F H σ sd) {i : Nat} {v : V} {d : PyData} (r : Rp K F v d) : Rs K C F H (σ.set i (some v)) (sset sd i (.va d)) where
  len := by rw [List.length_set, sset_length]; exact R.len
  grow := R.grow
  ext := R.ext
  new := R.new
  keep := R.keep
  still := R.still
  slot := fun j => by
    by_cases hj : j = i
    · subst hj
      by_cases hl : j < sd.length
      · rw [sget_sset hl, gv_set (by rw [R.len]; exact hl)]
        exact ⟨v, rfl, r⟩
      · rw [sget_out (by rw [sset_length]; omega)]; trivial
    · rw [sget_sset_ne hj, gv_set_ne hj]; exact R.slot j
  sep := fun j k q hjk o1 o2 e1 => by
    have n1 : j ≠ i := fun z => by
      subst z
      by_cases hl : j < sd.length
      · rw [sget_sset hl] at o1; cases o1
      · rw [sget_out (by rw [sset_length]; omega)] at o1; cases o1
    have n2 : k ≠ i := fun z => by
      subst z
      by_cases hl : k < sd.length
      · rw [sget_sset hl] at o2; cases o2
      · rw [sget_out (by rw [sset_length]; omega)] at o2; cases o2
    rw [sget_sset_ne n1] at o1
    rw [sget_sset_ne n2] at o2
    rw [gv_set_ne n1] at e1
    rw [gv_set_ne n2]
    exact R.sep j k q hjk o1 o2 e1
/-- a slot is forgotten -/
theorem Rs.setno (R : Rs K C F H σ sd) {i : Nat} {x : Option V} : Rs K C F H (σ.set i x) (sset sd i .no) where
  len := by rw [List.length_set, sset_length]; exact R.len
  grow := R.grow
  ext := R.ext
  new := R.new
  keep := R.keep
  still := R.still
  slot := fun j => by
    by_cases hj : j = i
    · subst hj
      by_cases hl : j < sd.length
      · rw [sget_sset hl]; trivial
      · rw [sget_out (by rw [sset_length]; omega)]; trivial
    · rw [sget_sset_ne hj, gv_set_ne hj]; exact R.slot j
  sep := fun j k q hjk o1 o2 e1 => by
    have n1 : j ≠ i := fun z => by
      subst z
      by_cases hl : j < sd.length
      · rw [sget_sset hl] at o1; cases o1
      · rw [sget_out (by rw [sset_length]; omega)] at o1; cases o1
    have n2 : k ≠ i := fun z => by
      subst z
      by_cases hl : k < sd.length
      · rw [sget_sset hl] at o2; cases o2
      · rw [sget_out (by rw [sset_length]; omega)] at o2; cases o2
    rw [sget_sset_ne n1] at o1
    rw [sget_sset_ne n2] at o2
    rw [gv_set_ne n1] at e1
    rw [gv_set_ne n2]
    exact R.sep j k q hjk o1 o2 e1
/-- a result: frozen, or a list (a well) that nobody else holds -/
def RvOk (K : PySem.W.Frag) (C : Ct) (F H : Hp) (v : V) : S → Prop := SlotOk K C F H (some v)
/-- .. and not one of the slots' -/
def Fre (σ : L2.St) (sd : DSt) (v : V) (r : S) : Prop := isOwn r = true → ∀ q, v = .ref q → ¬ Owned σ sd q
theorem Rs.setr (R : Rs K C F H σ sd) {i : Nat} {v : V} {r : S} (h : RvOk K C F H v r) (n : Fre σ sd v r) : Rs K C F H (σ.set i (some v)) (sset sd i r) where
  len := by rw [List.length_set, sset_length]; exact R.len
  grow := R.grow
  ext := R.ext
  new := R.new
  keep := R.keep
  still := R.still
  slot := fun j => by
    by_cases hj : j = i
    · subst hj
      by_cases hl : j < sd.length
      · rw [sget_sset hl, gv_set (by rw [R.len]; exact hl)]
        exact h
      · rw [sget_out (by rw [sset_length]; omega)]; trivial
    · rw [sget_sset_ne hj, gv_set_ne hj]; exact R.slot j
  sep := fun j k q hjk o1 o2 e1 e2 => by
    have at_i : ∀ m, m = i → isOwn (sget (sset sd i r) m) = true → gv (σ.set i (some v)) m = some (.ref q) → isOwn r = true ∧ v = .ref q := fun m z o e => by
      subst z
      by_cases hl : m < sd.length
      · rw [sget_sset hl] at o
        rw [gv_set (by rw [R.len]; exact hl)] at e
        exact ⟨o, Option.some.inj e⟩
      · rw [sget_out (by rw [sset_length]; omega)] at o; cases o
    by_cases hj : j = i
    · obtain ⟨a1, a2⟩ := at_i j hj o1 e1
      have hk : k ≠ i := fun z => hjk (hj.trans z.symm)
      rw [sget_sset_ne hk] at o2
      rw [gv_set_ne hk] at e2
      exact n a1 q a2 ⟨k, o2, e2⟩
    · rw [sget_sset_ne hj] at o1
      rw [gv_set_ne hj] at e1
      by_cases hk : k = i
      · obtain ⟨a1, a2⟩ := at_i k hk o2 e2
        exact n a1 q a2 ⟨j, o1, e1⟩
      · rw [sget_sset_ne hk] at o2
        rw [gv_set_ne hk] at e2
        exact R.sep j k q hjk o1 o2 e1 e2
/-- an owned list is handed to all -/
theorem Rs.freeze (R : Rs K C F H σ sd) {i : Nat} {ds : List PyData} (h : sget sd i = .own ds) :
    ∃ v F', gv σ i = some v ∧ Rs K C F' H σ (sset sd i (.va (.list ds))) ∧ Stp σ sd F H F' H (sset sd i (.va (.list ds))) ∧ Rp K F' v (.list ds) := by
  have hi := R.slot i
  rw [h] at hi
  obtain ⟨p, vs, e1, e2, e3, e4, r⟩ := hi
  have hl : i < sd.length := R.lt_of_own (by rw [h]; intro z; cases z)
  have sF : Same F (upd F p (.lst vs)) := same_new e3
  have rp : Rp K (upd F p (.lst vs)) (.ref p) (.list ds) := .lst upd_same (r.mono sF)
  have own_i : Owned σ sd p := ⟨i, by rw [h]; rfl, e1⟩
  refine ⟨.ref p, upd F p (.lst vs), e1, ?_, ?_, rp⟩
  · refine ⟨by rw [sset_length]; exact R.len, R.grow.trans sF, fun a x e => ?_, fun a x e => ?_, R.keep, R.still, fun j => ?_, fun j k q hjk o1 o2 z1 => ?_⟩
    · by_cases z : a = p
      · subst z; rw [upd_same] at e; cases e; exact e2
      · rw [upd_ne z] at e; exact R.ext a x e
    · by_cases z : a = p
      · subst z; exact .inr e4
      · rw [upd_ne z] at e; exact R.new a x e
    · by_cases hj : j = i
      · subst hj; rw [sget_sset hl, e1]; exact ⟨_, rfl, rp⟩
      · rw [sget_sset_ne hj]
        refine (R.slot j).grow sF fun q x ho eq eh en => ⟨eh, ?_⟩
        have : q ≠ p := fun z => by
          subst z
          exact R.sep i j q (Ne.symm hj) (by rw [h]; rfl) ho e1 eq
        rw [upd_ne this]; exact en
    · have n1 : j ≠ i := fun z => by subst z; rw [sget_sset hl] at o1; cases o1
      have n2 : k ≠ i := fun z => by subst z; rw [sget_sset hl] at o2; cases o2
      rw [sget_sset_ne n1] at o1
      rw [sget_sset_ne n2] at o2
      exact R.sep j k q hjk o1 o2 z1
  · refine ⟨sF, fun a x e _ => e, fun a z => ?_, fun a x e => ?_, fun a e => e⟩
    · obtain ⟨j, o, e⟩ := z
      have n1 : j ≠ i := fun z => by subst z; rw [sget_sset hl] at o; cases o
      rw [sget_sset_ne n1] at o
      exact ⟨j, o, e⟩
    · by_cases z : a = p
      · subst z; exact .inr (.inr own_i)
      · rw [upd_ne z] at e; exact .inl e
end
section
variable (K : PySem.W.Frag) (C : Ct)
def tD (m : ME) : TE := fun σ H Q => ∃ F sd Qd, Rs K C F H σ sd ∧ m sd Qd ∧ ∀ v H' F' d sd', Rs K C F' H' σ sd' → Stp σ sd F H F' H' sd' → Rp K F' v d → Qd d sd' → Q v H'
def tDR (m : MR) : TE := fun σ H Q => ∃ F sd Qd, Rs K C F H σ sd ∧ m sd Qd ∧ ∀ v H' F' r sd', Rs K C F' H' σ sd' → Stp σ sd F H F' H' sd' → RvOk K C F' H' v r → Fre σ sd' v r → (isOwn r = true → ∀ q, v = .ref q → H q = none) → Qd r sd' → Q v H'
def tDT (m : MT) : TT := fun σ H Q => ∃ F sd Qd, Rs K C F H σ sd ∧ m sd Qd ∧ ∀ b H' F' sd', Rs K C F' H' σ sd' → Stp σ sd F H F' H' sd' → Qd b sd' → Q b H'
def tDA (m : MA) : TA := fun σ H Q => ∃ F sd Qd, Rs K C F H σ sd ∧ m sd Qd ∧ ∀ vs H' F' ds sd', Rs K C F' H' σ sd' → Stp σ sd F H F' H' sd' → RpA K F' vs ds → Qd ds sd' → Q vs H'
def tDG (m : MG) : TG := fun v σ H Q => ∃ F sd d Qd, Rs K C F H σ sd ∧ Rp K F v d ∧ m d sd Qd ∧ ∀ σ' sd', Rs K C F H σ' sd' → Qd sd' → Q σ' H
def tDGs (m : MGs) : TGs := fun vs σ H Q => ∃ F sd ds Qd, Rs K C F H σ sd ∧ RpA K F vs ds ∧ m ds sd Qd ∧ ∀ σ' sd', Rs K C F H σ' sd' → Qd sd' → Q σ' H
/-- what is wished of a raise -/
def wD (CN : String → Option Addr) (W : WD) : WX := fun cls d σ H => ∃ c a F sd, CN c = some a ∧ cls = .ref a ∧ d = none ∧ Rs K C F H σ sd ∧ W c sd
/-- what follows, from the frozen heap F0 on: the readings of D are those of Dd -/
structure EndOk (F0 : Hp) (Dd : DE) (D : Ends) : Prop where
  nx : ∀ F H σ sd, Same F0 F → Rs K C F H σ sd → Dd.nx sd → D.nx σ H
  rt : ∀ F H σ sd v r, Same F0 F → Rs K C F H σ sd → RvOk K C F H v r → (isOwn r = true → ∀ q, v = .ref q → C.H0 q = none) → Dd.rt r sd → D.rt v H
  bk : ∀ F H σ sd, Same F0 F → Rs K C F H σ sd → Dd.bk sd → D.bk σ H
  ct : ∀ F H σ sd, Same F0 F → Rs K C F H σ sd → Dd.ct sd → D.ct σ H
def tDS (m : MS) : TS := fun D σ H => ∃ F sd Dd, Rs K C F H σ sd ∧ EndOk K C F Dd D ∧ m Dd sd
/-- an iterator that gives the data ds, one by one -/
structure Wk (J : It) (F0 : Hp) (ds : List PyData) : Prop where
  ex : ∃ (G : Hp → Prop) (Y : Nat → Hp → V → Hp → Prop), Walk J ds.length G Y ∧ (∀ H, Same F0 H → G H) ∧
    ∀ i H x H' F, i < ds.length → Same F0 F → Same F H → Y i H x H' → ∃ F' d, Al F H F' H' ∧ ds[i]? = some d ∧ Rp K F' x d
def tDI (m : MI) : TI := fun σ H R => ∃ F sd Qd, Rs K C F H σ sd ∧ m sd Qd ∧ ∀ J H' F' ds sd', Rs K C F' H' σ sd' → Stp σ sd F H F' H' sd' → Wk K J F' ds → Qd ds sd' → R J H'
end
theorem EndOk.mono {K : PySem.W.Frag} {C : Ct} {F F' : Hp} {Dd : DE} {D : Ends} (E : EndOk K C F Dd D) (s : Same F F') : EndOk K C F' Dd D :=
  ⟨fun F1 H σ sd e => E.nx F1 H σ sd (s.trans e), fun F1 H σ sd v r e => E.rt F1 H σ sd v r (s.trans e), fun F1 H σ sd e => E.bk F1 H σ sd (s.trans e), fun F1 H σ sd e => E.ct F1 H σ sd (s.trans e)⟩
end DL
namespace DL
open PySem PySem.Spec PyProof.Rows L2
section
variable {X : Cx}
theorem pe_imp {e : Expr} {t t' : TE} (h : PE X e t) (i : ∀ σ H Q, t' σ H Q → t σ H Q) : PE X e t' := ⟨fun pins s σ H Q I q => h.run pins s σ H Q I (i _ _ _ q)⟩
theorem pt_imp {e : Expr} {t t' : TT} (h : PT X e t) (i : ∀ σ H Q, t' σ H Q → t σ H Q) : PT X e t' := ⟨fun pins s σ H Q I q => h.run pins s σ H Q I (i _ _ _ q)⟩
theorem pw_imp {e : Expr} {t t' : TT} (h : PW X e t) (i : ∀ σ H Q, t' σ H Q → t σ H Q) : PW X e t' := ⟨fun wh pins s σ H Q I q => h.run wh pins s σ H Q I (i _ _ _ q)⟩
theorem pa_imp {e : List Expr} {t t' : TA} (h : PA X e t) (i : ∀ σ H Q, t' σ H Q → t σ H Q) : PA X e t' := ⟨fun pos pins s σ H Q I q => h.run pos pins s σ H Q I (i _ _ _ q)⟩
theorem pk_imp {e : List Keyword} {t t' : TA} (h : PK X e t) (i : ∀ σ H Q, t' σ H Q → t σ H Q) : PK X e t' := ⟨fun pos pins s σ H Q I q => h.run pos pins s σ H Q I (i _ _ _ q)⟩
theorem pg_imp {e : Expr} {t t' : TG} (h : PG X e t) (i : ∀ v σ H Q, t' v σ H Q → t v σ H Q) : PG X e t' := ⟨fun pins s σ H v u Q I r q => h.run pins s σ H v u Q I r (i _ _ _ _ q)⟩
theorem pgs_imp {e : List Expr} {t t' : TGs} (h : PGs X e t) (i : ∀ v σ H Q, t' v σ H Q → t v σ H Q) : PGs X e t' := ⟨fun pins s σ H v u Q I r q => h.run pins s σ H v u Q I r (i _ _ _ _ q)⟩
theorem pi_imp {tg e : Expr} {t t' : TI} (h : PI X tg e t) (i : ∀ σ H Q, t' σ H Q → t σ H Q) : PI X tg e t' := ⟨fun pins s σ H Q I q => h.run pins s σ H Q I (i _ _ _ q)⟩
theorem ps_imp {e : Stmt} {t t' : TS} (h : PS X e t) (i : ∀ D σ H, t' D σ H → t D σ H) : PS X e t' := ⟨fun pins s σ H D I q => h.run pins s σ H D I (i _ _ _ q)⟩
theorem pss_imp {e : List Stmt} {t t' : TS} (h : PSs X e t) (i : ∀ D σ H, t' D σ H → t D σ H) : PSs X e t' := ⟨fun pins s σ H D I q => h.run pins s σ H D I (i _ _ _ q)⟩
theorem pg_or {e : Expr} {t t' : TG} (h : PG X e t) (h' : PG X e t') : PG X e (fun v σ H Q => t v σ H Q ∨ t' v σ H Q) :=
  ⟨fun pins s σ H v u Q I r q => q.elim (h.run pins s σ H v u Q I r) (h'.run pins s σ H v u Q I r)⟩
end
section
variable {K : PySem.W.Frag} {C : Ct} {F F' H H' : Hp} {σ : L2.St} {sd sd' : DSt} {X : Cx}
theorem td_var {i : Nat} : ∀ σ H Q, tD K C (mVar i) σ H Q → tVar i σ H Q := by
  rintro σ H Q ⟨F, sd, Qd, R, h, k⟩
  unfold mVar at h
  have hs := R.slot i
  cases e : sget sd i with
  | no => rw [e] at h; exact h.elim
  | va d =>
    rw [e] at h hs
    obtain ⟨v, e1, r⟩ := hs
    exact ⟨v, gv_some.mp e1, k v H F d sd R .refl r h⟩
  | own ds =>
    rw [e] at h
    obtain ⟨v, F', e1, R', S, r⟩ := R.freeze e
    exact ⟨v, gv_some.mp e1, k v H F' _ _ R' S r h⟩
  | well n => rw [e] at h; exact h.elim
  | scr n => rw [e] at h; exact h.elim
  | exc n => rw [e] at h; exact h.elim
  | ins c es => rw [e] at h; exact h.elim
theorem pd_var {i : Nat} {x : Str} {pos : Pos} (hN : X.N[i]? = some x) (hv : Vis X.env.scope x) (hd : (x == ("__debug__" : Str)) = false := by decide) (hcd : (x == ("__classdict__" : Str)) = false := by decide) :
    PE X (.Name x pos) (tD X.K C (mVar i)) := pe_imp (pe_var hN hv hd hcd) td_var
theorem td_c {v : V} {d : PyData} (r : ∀ F, Rp K F v d) : ∀ σ H Q, tD K C (mC d) σ H Q → tC v σ H Q := by
  rintro σ H Q ⟨F, sd, Qd, R, h, k⟩
  exact k v H F d sd R .refl (r F) h
theorem pd_int {i : Int} {j} {pos : Pos} : PE X (.Constant (.int i) j pos) (tD X.K C (mC (.int i))) := pe_imp pe_int (td_c fun _ => .int i)
theorem pd_bl {b : Bool} {j} {pos : Pos} : PE X (.Constant (.bool b) j pos) (tD X.K C (mC (.bool b))) := pe_imp pe_bl (td_c fun _ => .bl b)
theorem pd_non {j} {pos : Pos} : PE X (.Constant .none j pos) (tD X.K C (mC .none)) := pe_imp pe_non (td_c fun _ => .non)
theorem pd_str {x : Str} {j} {pos : Pos} : PE X (.Constant (.str x) j pos) (tD X.K C (mC (.str x))) := pe_imp pe_str (td_c fun _ => .str x)
/-- a module's constant -/
theorem pd_glob {x : Str} {v : V} {u : Value} {d : PyData} {pos : Pos} (hm : X.mg x = some u) (r : RelV v u) (q : ∀ F, Rp X.K F v d) (hg : Gl X x := by rfl) (hd : (x == ("__debug__" : Str)) = false := by decide) :
    PE X (.Name x pos) (tD X.K C (mC d)) := pe_imp (pe_glob hg hm r hd) (td_c q)
/-- what r asks of two values, told by f on data -/
def RL2 (K : PySem.W.Frag) (r : R2) (f : PyData → PyData → Option PyData) : Prop :=
  ∀ (F H : Hp) (x y : V) (a b z : PyData) (Q : VK), Same F H → (∀ p, H p = none → F p = none) → Rp K F x a → Rp K F y b → f a b = some z → (∀ v F' H', Al F H F' H' → Rp K F' v z → Q v H') → r x y H Q
theorem td_op2 {r : R2} {f : PyData → PyData → Option PyData} {ma mb : ME} (L : RL2 K r f) : ∀ σ H Q, tD K C (mOp2 f ma mb) σ H Q → tOp r (tD K C ma) (tD K C mb) σ H Q := by
  rintro σ H Q ⟨F, sd, Qd, R, h, k⟩
  refine ⟨F, sd, _, R, h, fun x H1 F1 a sd1 R1 S1 rx h1 => ⟨F1, sd1, _, R1, h1, fun y H2 F2 b sd2 R2 S2 ry h2 => ?_⟩⟩
  obtain ⟨z, e, q⟩ := h2
  exact L F2 H2 x y a b z Q R2.ext (fun p => R2.free) (rx.mono S2.fr) ry e fun v F' H' al rz => k v H' F' z sd2 (R2.al al) ((S1.trans S2).trans (.al R2 al)) rz q
theorem pd_op {op} {r : R2} {f : PyData → PyData → Option PyData} {ma mb : ME} {a b : Expr} {pos : Pos} (ho : OpR X (binaryOp op) r) (L : RL2 X.K r f) (ha : PE X a (tD X.K C ma)) (hb : PE X b (tD X.K C mb)) :
    PE X (.BinOp a op b pos) (tD X.K C (mOp2 f ma mb)) := pe_imp (pe_op ho ha hb) (td_op2 L)
theorem pd_cmp {op} {r : R2} {f : PyData → PyData → Option PyData} {ma mb : ME} {a b : Expr} {pos : Pos} (ho : OpR X (compareOp op) r) (L : RL2 X.K r f) (ha : PE X a (tD X.K C ma)) (hb : PE X b (tD X.K C mb)) (hm : behindInMarks op b = false) :
    PE X (.Compare a [op] [b] pos) (tD X.K C (mOp2 f ma mb)) := pe_imp (pe_cmpR ho ha hb hm) (td_op2 L)
theorem td_test {te : TE} {m : ME} (h : ∀ σ H Q, tD K C m σ H Q → te σ H Q) : ∀ σ H Q, tDT K C (mT m) σ H Q → tTest te σ H Q := by
  rintro σ H Q ⟨F, sd, Qd, R, h1, k⟩
  refine h σ H _ ⟨F, sd, _, R, h1, fun v H' F' d sd' R' S r q => ?_⟩
  obtain ⟨c, rfl, q⟩ := q
  cases r
  exact ⟨c, rfl, k c H' F' sd' R' S q⟩
theorem td_tB {te : TE} {m : ME} (h : ∀ σ H Q, tD K C m σ H Q → te σ H Q) : ∀ σ H Q, tDT K C (mT m) σ H Q → tB te σ H Q := by
  rintro σ H Q ⟨F, sd, Qd, R, h1, k⟩
  refine h σ H _ ⟨F, sd, _, R, h1, fun v H' F' d sd' R' S r q => ?_⟩
  obtain ⟨c, rfl, q⟩ := q
  cases r
  exact ⟨c, rfl, k c H' F' sd' R' S q⟩
theorem pdt_cmp {op} {r : R2} {f : PyData → PyData → Option PyData} {ma mb : ME} {a b : Expr} {pos : Pos} (ho : OpR X (compareOp op) r) (L : RL2 X.K r f) (ha : PE X a (tD X.K C ma)) (hb : PE X b (tD X.K C mb)) (hm : behindInMarks op b = false) :
    PT X (.Compare a [op] [b] pos) (tDT X.K C (mT (mOp2 f ma mb))) := pt_imp (pt_cmpR ho ha hb hm) (td_test (td_op2 L))
theorem pdt_val {e : Expr} {m : ME} (h : PE X e (tD X.K C m)) (he : ∀ whole, isTrue e X.env whole = (do let v ← whole; standAt e.pos; holding [v] (truthy v)) := by intro _; rfl) : PT X e (tDT X.K C (mT m)) :=
  pt_imp (pt_val h he) (td_tB fun _ _ _ q => q)
theorem pdt_not {e : Expr} {t : MT} {pos : Pos} (h : PT X e (tDT X.K C t)) : PT X (.UnaryOp .Not e pos) (tDT X.K C (mTNot t)) := pt_imp (pt_not h) (by
  rintro σ H Q ⟨F, sd, Qd, R, h1, k⟩
  exact ⟨F, sd, _, R, h1, fun b H' F' sd' R' S q => k (!b) H' F' sd' R' S q⟩)
theorem pdw_and1 {a : Expr} {t : MT} {pos : Pos} (h : PT X a (tDT X.K C t)) : PW X (.BoolOp .And [a] pos) (tDT X.K C t) := pw_and1 h
theorem pdw_or1 {a : Expr} {t : MT} {pos : Pos} (h : PT X a (tDT X.K C t)) : PW X (.BoolOp .Or [a] pos) (tDT X.K C t) := pw_or1 h
theorem pdw_and {a b : Expr} {rest : List Expr} {t u : MT} {pos : Pos} (ha : PT X a (tDT X.K C t)) (hb : PW X (.BoolOp .And (b :: rest) pos) (tDT X.K C u)) : PW X (.BoolOp .And (a :: b :: rest) pos) (tDT X.K C (mTAnd t u)) := pw_imp (pw_and ha hb) (by
  rintro σ H Q ⟨F, sd, Qd, R, h1, k⟩
  refine ⟨F, sd, _, R, h1, fun b H' F' sd' R' S q => ?_⟩
  cases b with
  | true => exact ⟨F', sd', Qd, R', q, fun b2 H2 F2 sd2 R2 S2 q2 => k b2 H2 F2 sd2 R2 (S.trans S2) q2⟩
  | false => exact k false H' F' sd' R' S q)
theorem pdw_or {a b : Expr} {rest : List Expr} {t u : MT} {pos : Pos} (ha : PT X a (tDT X.K C t)) (hb : PW X (.BoolOp .Or (b :: rest) pos) (tDT X.K C u)) : PW X (.BoolOp .Or (a :: b :: rest) pos) (tDT X.K C (mTOr t u)) := pw_imp (pw_or ha hb) (by
  rintro σ H Q ⟨F, sd, Qd, R, h1, k⟩
  refine ⟨F, sd, _, R, h1, fun b H' F' sd' R' S q => ?_⟩
  cases b with
  | true => exact k true H' F' sd' R' S q
  | false => exact ⟨F', sd', Qd, R', q, fun b2 H2 F2 sd2 R2 S2 q2 => k b2 H2 F2 sd2 R2 (S.trans S2) q2⟩)
theorem pd_and {a b : Expr} {rest : List Expr} {ma mb : ME} {pos : Pos} (ha : PE X a (tD X.K C ma)) (hb : PE X (.BoolOp .And (b :: rest) pos) (tD X.K C mb)) : PE X (.BoolOp .And (a :: b :: rest) pos) (tD X.K C (mAnd ma mb)) := pe_imp (pe_and ha hb) (by
  rintro σ H Q ⟨F, sd, Qd, R, h1, k⟩
  refine ⟨F, sd, _, R, h1, fun v H' F' d sd' R' S r q => ?_⟩
  obtain ⟨c, rfl, q⟩ := q
  cases r
  refine ⟨c, rfl, ?_⟩
  cases c with
  | true => exact ⟨F', sd', Qd, R', q, fun b2 H2 F2 d2 sd2 R2 S2 r2 q2 => k b2 H2 F2 d2 sd2 R2 (S.trans S2) r2 q2⟩
  | false => exact k (.bl false) H' F' _ sd' R' S (.bl false) q)
theorem pd_or {a b : Expr} {rest : List Expr} {ma mb : ME} {pos : Pos} (ha : PE X a (tD X.K C ma)) (hb : PE X (.BoolOp .Or (b :: rest) pos) (tD X.K C mb)) : PE X (.BoolOp .Or (a :: b :: rest) pos) (tD X.K C (mOr ma mb)) := pe_imp (pe_or ha hb) (by
  rintro σ H Q ⟨F, sd, Qd, R, h1, k⟩
  refine ⟨F, sd, _, R, h1, fun v H' F' d sd' R' S r q => ?_⟩
  obtain ⟨c, rfl, q⟩ := q
  cases r
  refine ⟨c, rfl, ?_⟩
  cases c with
  | true => exact k (.bl true) H' F' _ sd' R' S (.bl true) q
  | false => exact ⟨F', sd', Qd, R', q, fun b2 H2 F2 d2 sd2 R2 S2 r2 q2 => k b2 H2 F2 d2 sd2 R2 (S.trans S2) r2 q2⟩)
theorem pd_not {a : Expr} {ma : ME} {pos : Pos} (ha : PE X a (tD X.K C ma)) : PE X (.UnaryOp .Not a pos) (tD X.K C (mNot ma)) := pe_imp (pe_not ha) (by
  rintro σ H Q ⟨F, sd, Qd, R, h1, k⟩
  refine ⟨F, sd, _, R, h1, fun v H' F' d sd' R' S r q => ?_⟩
  obtain ⟨c, rfl, q⟩ := q
  cases r
  exact ⟨c, rfl, k (.bl (!c)) H' F' _ sd' R' S (.bl _) q⟩)
theorem pd_one {op} {a : Expr} {m : ME} {pos : Pos} (h : PE X a (tD X.K C m)) : PE X (.BoolOp op [a] pos) (tD X.K C m) := pe_one h
theorem pd_ifE {c a b : Expr} {t : MT} {ma mb : ME} {pos : Pos} (hc : PT X c (tDT X.K C t)) (ha : PE X a (tD X.K C ma)) (hb : PE X b (tD X.K C mb)) : PE X (.IfExp c a b pos) (tD X.K C (mIfE t ma mb)) := pe_imp (pe_ifExp hc ha hb) (by
  rintro σ H Q ⟨F, sd, Qd, R, h1, k⟩
  refine ⟨F, sd, _, R, h1, fun b H' F' sd' R' S q => ?_⟩
  cases b with
  | true => exact ⟨F', sd', Qd, R', q, fun b2 H2 F2 d2 sd2 R2 S2 r2 q2 => k b2 H2 F2 d2 sd2 R2 (S.trans S2) r2 q2⟩
  | false => exact ⟨F', sd', Qd, R', q, fun b2 H2 F2 d2 sd2 R2 S2 r2 q2 => k b2 H2 F2 d2 sd2 R2 (S.trans S2) r2 q2⟩)
theorem pd_chain {op op'} {r r' : R2} {f g : PyData → PyData → Option PyData} {a b c : Expr} {ma mb mc : ME} {pos : Pos} (ho : OpR X (compareOp op) r) (ho' : OpR X (compareOp op') r') (L : RL2 X.K r f) (L' : RL2 X.K r' g)
    (ha : PE X a (tD X.K C ma)) (hb : PE X b (tD X.K C mb)) (hc : PE X c (tD X.K C mc)) (hu : ∀ {a b : PyData} {z : PyData}, f a b = some z → ∃ k, z = .bool k) (t : PE X (.Compare a [op, op'] [b, c] pos) (tChain r r' (tD X.K C ma) (tD X.K C mb) (tD X.K C mc))) :
    PE X (.Compare a [op, op'] [b, c] pos) (tD X.K C (mChain f g ma mb mc)) := pe_imp t (by
  rintro σ H Q ⟨F, sd, Qd, R, h, k⟩
  refine ⟨F, sd, _, R, h, fun x H1 F1 a sd1 R1 S1 rx h1 => ⟨F1, sd1, _, R1, h1, fun y H2 F2 b sd2 R2 S2 ry h2 => ?_⟩⟩
  obtain ⟨cc, e, q⟩ := h2
  refine L F2 H2 x y a b (.bool cc) _ R2.ext (fun p => R2.free) (rx.mono S2.fr) ry e fun v F' H' al rz => ?_
  cases rz
  refine ⟨cc, rfl, ?_⟩
  have S' := (S1.trans S2).trans (.al R2 al)
  cases cc with
  | true =>
    refine ⟨F', sd2, _, R2.al al, q, fun w H3 F3 d sd3 R3 S3 rw_ h3 => ?_⟩
    obtain ⟨z2, e2, q2⟩ := h3
    refine L' F3 H3 y w b d z2 _ R3.ext (fun p => R3.free) (ry.mono ((Stp.al R2 al).fr.trans S3.fr)) rw_ e2 fun v F4 H4 al2 rz2 => k v H4 F4 z2 sd3 (R3.al al2) ((S'.trans S3).trans (.al R3 al2)) rz2 q2
  | false => exact k (.bl false) H' F' _ sd2 (R2.al al) S' (.bl false) q)
/-- one place -/
def RL1 (K : PySem.W.Frag) (r : V → Hp → VK → Prop) (f : PyData → Option PyData) : Prop :=
  ∀ (F H : Hp) (x : V) (a z : PyData) (Q : VK), Same F H → (∀ p, H p = none → F p = none) → Rp K F x a → f a = some z → (∀ v F' H', Al F H F' H' → Rp K F' v z → Q v H') → r x H Q
theorem pd_un {op} {r : V → Hp → VK → Prop} {f : PyData → Option PyData} {ma : ME} {a : Expr} {pos : Pos} (ho : UnR X (unaryOp op) r) (L : RL1 X.K r f) (ha : PE X a (tD X.K C ma)) : PE X (.UnaryOp op a pos) (tD X.K C (mOp1 f ma)) := pe_imp (pe_un ho ha) (by
  rintro σ H Q ⟨F, sd, Qd, R, h, k⟩
  refine ⟨F, sd, _, R, h, fun x H1 F1 a sd1 R1 S1 rx h1 => ?_⟩
  obtain ⟨z, e, q⟩ := h1
  exact L F1 H1 x a z Q R1.ext (fun p => R1.free) rx e fun v F' H' al rz => k v H' F' z sd1 (R1.al al) (S1.trans (.al R1 al)) rz q)
theorem pd_ix {a b : Expr} {r : R2} {f : PyData → PyData → Option PyData} {ma mb : ME} {pos : Pos} (hr : IxR X r) (L : RL2 X.K r f) (ha : PE X a (tD X.K C ma)) (hb : PE X b (tD X.K C mb)) (hs : PlainIx b := by exact fun _ _ => rfl) :
    PE X (.Subscript a b pos) (tD X.K C (mOp2 f ma mb)) := pe_imp (pe_ix hr ha hb hs) (td_op2 L)
theorem pda_nil : PA X [] (tDA X.K C mNil) := pa_imp pa_nil (by
  rintro σ H Q ⟨F, sd, Qd, R, h, k⟩
  exact k [] H F [] sd R .refl .nil h)
theorem td_cons {me : ME} {ma : MA} : ∀ σ H Q, tDA K C (mCons me ma) σ H Q → tCons (tD K C me) (tDA K C ma) σ H Q := by
  rintro σ H Q ⟨F, sd, Qd, R, h, k⟩
  exact ⟨F, sd, _, R, h, fun x H1 F1 a sd1 R1 S1 rx h1 => ⟨F1, sd1, _, R1, h1, fun ys H2 F2 ds sd2 R2 S2 ry h2 => k (x :: ys) H2 F2 (a :: ds) sd2 R2 (S1.trans S2) (.cons (rx.mono S2.fr) ry) h2⟩⟩
theorem pda_cons {e : Expr} {es : List Expr} {me : ME} {ma : MA} (he : PE X e (tD X.K C me)) (hr : PA X es (tDA X.K C ma)) (hs : starEach (e :: es) X.env = (false, eval e X.env) :: starEach es X.env := by rfl) : PA X (e :: es) (tDA X.K C (mCons me ma)) :=
  pa_imp (pa_cons he hr hs) td_cons
theorem pdk_nil : PK X [] (tDA X.K C mNil) := pk_imp pk_nil (by
  rintro σ H Q ⟨F, sd, Qd, R, h, k⟩
  exact k [] H F [] sd R .refl .nil h)
theorem pdk_cons {nm : Option Str} {e : Expr} {kpos : Pos} {es : List Keyword} {me : ME} {ma : MA} (he : PE X e (tD X.K C me)) (hr : PK X es (tDA X.K C ma)) : PK X (⟨nm, e, kpos⟩ :: es) (tDA X.K C (mCons me ma)) :=
  pk_imp (pk_cons he hr) td_cons
theorem pd_tup {es : List Expr} {x1} {ma : MA} {pos : Pos} (h : PA X es (tDA X.K C ma)) : PE X (.Tuple es x1 pos) (tD X.K C (mTup ma)) := pe_imp (pe_tup h) (by
  rintro σ H Q ⟨F, sd, Qd, R, h, k⟩
  refine ⟨F, sd, _, R, h, fun vs H1 F1 ds sd1 R1 S1 rs q => ⟨?_, fun p hp => ?_⟩⟩
  · rw [rs.length]; exact Nat.le_trans q.1 (by decide)
  · exact k (.ref p) _ (upd F1 p (.tup vs)) _ sd1 (R1.al (.new hp)) (S1.trans (.al R1 (.new hp))) (.tup (.inl (.inl upd_same)) (rs.mono (same_new (R1.free hp)))) q.2)
theorem td_lst {ma : MA} : ∀ σ H Q, tDR K C (mrLst ma) σ H Q → tLst (tDA K C ma) σ H Q := by
  rintro σ H Q ⟨F, sd, Qd, R, h, k⟩
  refine ⟨F, sd, _, R, h, fun vs H1 F1 ds sd1 R1 S1 rs q => ⟨?_, fun p hp => ?_⟩⟩
  · rw [rs.length]; exact Nat.le_trans q.1 (by decide)
  · have R2 := R1.allocH (o := .lst vs) hp
    refine k (.ref p) _ F1 (.own ds) sd1 R2 (S1.trans ⟨Same.refl _, fun a o e _ => same_new hp a o e, fun _ z => z, fun _ _ e => .inl e, fun a e => ?_⟩) ⟨p, vs, rfl, upd_same, R1.free hp, R1.still p hp, rs⟩ (fun _ q' e => ?_) (fun _ q' e => ?_) q.2
    · by_cases z : a = p
      · subst z; exact hp
      · rw [upd_ne z] at e; exact e
    · cases e
      rintro ⟨i, o, e⟩
      have hs := R1.slot i
      cases es : sget sd1 i with
      | no => rw [es] at o; cases o
      | va d => rw [es] at o; cases o
      | scr d => rw [es] at o; cases o
      | exc d => rw [es] at o; cases o
      | ins c fs => rw [es] at hs; obtain ⟨q2, _, _, _, e1, e2, _⟩ := hs; rw [e] at e1; cases e1; rw [hp] at e2; cases e2
      | own ds' => rw [es] at hs; obtain ⟨q2, vs2, e1, e2, _⟩ := hs; rw [e] at e1; cases e1; rw [hp] at e2; cases e2
      | well n => rw [es] at hs; obtain ⟨q2, _, _, _, e1, e2, _⟩ := hs; rw [e] at e1; cases e1; rw [hp] at e2; cases e2
    · cases e
      have := S1.st p hp
      exact this
theorem td_lstV {ma : MA} : ∀ σ H Q, tD K C (mLst ma) σ H Q → tLst (tDA K C ma) σ H Q := by
  rintro σ H Q ⟨F, sd, Qd, R, h, k⟩
  refine ⟨F, sd, _, R, h, fun vs H1 F1 ds sd1 R1 S1 rs q => ⟨?_, fun p hp => ?_⟩⟩
  · rw [rs.length]; exact Nat.le_trans q.1 (by decide)
  · exact k (.ref p) _ (upd F1 p (.lst vs)) _ sd1 (R1.al (.new hp)) (S1.trans (.al R1 (.new hp))) (.lst upd_same (rs.mono (same_new (R1.free hp)))) q.2
theorem pd_lst {es : List Expr} {ma : MA} {pos : Pos} (h : PA X es (tDA X.K C ma)) : PE X (.List es pos) (tD X.K C (mLst ma)) := pe_imp (pe_lst h) td_lstV
theorem pdr_lst {es : List Expr} {ma : MA} {pos : Pos} (h : PA X es (tDA X.K C ma)) : PE X (.List es pos) (tDR X.K C (mrLst ma)) := pe_imp (pe_lst h) td_lst
theorem pdr_of {e : Expr} {m : ME} (h : PE X e (tD X.K C m)) : PE X e (tDR X.K C (mrOf m)) := pe_imp h (by
  rintro σ H Q ⟨F, sd, Qd, R, h, k⟩
  exact ⟨F, sd, _, R, h, fun v H' F' d sd' R' S r q => k v H' F' (.va d) sd' R' S ⟨v, rfl, r⟩ (fun z => nomatch z) (fun z => nomatch z) q⟩)
def RLC (K : PySem.W.Frag) (r : List V → Hp → VK → Prop) (f : List PyData → Option PyData) : Prop :=
  ∀ (F H : Hp) (xs : List V) (as : List PyData) (z : PyData) (Q : VK), Same F H → (∀ p, H p = none → F p = none) → RpA K F xs as → f as = some z → (∀ v F' H', Al F H F' H' → Rp K F' v z → Q v H') → r xs H Q
theorem td_cb {r : List V → Hp → VK → Prop} {f : List PyData → Option PyData} {ma : MA} (L : RLC K r f) : ∀ σ H Q, tD K C (mCallB f ma) σ H Q → tCB r (tDA K C ma) σ H Q := by
  rintro σ H Q ⟨F, sd, Qd, R, h, k⟩
  refine ⟨F, sd, _, R, h, fun xs H1 F1 as sd1 R1 S1 rx h1 => ?_⟩
  obtain ⟨z, e, q⟩ := h1
  exact L F1 H1 xs as z Q R1.ext (fun p => R1.free) rx e fun v F' H' al rz => k v H' F' z sd1 (R1.al al) (S1.trans (.al R1 al)) rz q
theorem pd_callB {id : String} {x : Str} {p pos : Pos} {e : Expr} {es : List Expr} {r : List V → Hp → VK → Prop} {f : List PyData → Option PyData} {ma : MA} (hc : CallR X (.builtin id) r) (L : RLC X.K r f) (hm : X.mg x = none) (hv : bootBuiltins x = some (.builtin id))
    (ha : PA X (e :: es) (tDA X.K C ma)) (hg : Gl X x := by rfl) (hn : x ≠ "__name__" := by decide) (hdb : (x == ("__debug__" : Str)) = false := by decide)
    (he : starEach (e :: es) X.env = (false, eval e X.env) :: starEach es X.env := by rfl) (hpl : (backTo pos (starEach es X.env)).any (·.1) = false := by rfl) : PE X (.Call (.Name x p) (e :: es) [] pos) (tD X.K C (mCallB f ma)) :=
  pe_imp (pe_callB hc hg hm hv ha hn hdb he hpl) (td_cb L)
theorem pd_callTy {T : String} {x : Str} {p pos : Pos} {e : Expr} {es : List Expr} {r : List V → Hp → VK → Prop} {f : List PyData → Option PyData} {ma : MA} (hc : CallR X (.type T) r) (L : RLC X.K r f) (hm : X.mg x = none) (hv : bootBuiltins x = some (.type T))
    (ha : PA X (e :: es) (tDA X.K C ma)) (hg : Gl X x := by rfl) (hn : x ≠ "__name__" := by decide) (hdb : (x == ("__debug__" : Str)) = false := by decide)
    (he : starEach (e :: es) X.env = (false, eval e X.env) :: starEach es X.env := by rfl) (hpl : (backTo pos (starEach es X.env)).any (·.1) = false := by rfl) : PE X (.Call (.Name x p) (e :: es) [] pos) (tD X.K C (mCallB f ma)) :=
  pe_imp (pe_callTy hc hg hm hv ha hn hdb he hpl) (td_cb L)
/-- a builtin that is a module's name (math.gcd) -/
theorem pd_slice {e : Expr} {lo hi : Option Expr} {p2 pos : Pos} {r : V → Option Int → Option Int → Hp → VK → Prop} {f : PyData → Option Int → Option Int → Option PyData} {me : ME} {ml mh : DSt → (Option Int → DSt → Prop) → Prop} {tl th : TO}
    (L : ∀ (F H : Hp) (x : V) (a z : PyData) (lo hi : Option Int) (Q : VK), Same F H → (∀ p, H p = none → F p = none) → Rp X.K F x a → f a lo hi = some z → (∀ v F' H', Al F H F' H' → Rp X.K F' v z → Q v H') → r x lo hi H Q)
    (hl : ∀ σ H Q F sd Qd, Rs X.K C F H σ sd → ml sd Qd → (∀ o H' F' sd', Rs X.K C F' H' σ sd' → Stp σ sd F H F' H' sd' → Qd o sd' → Q o H') → tl σ H Q)
    (hh : ∀ σ H Q F sd Qd, Rs X.K C F H σ sd → mh sd Qd → (∀ o H' F' sd', Rs X.K C F' H' σ sd' → Stp σ sd F H F' H' sd' → Qd o sd' → Q o H') → th σ H Q)
    (t : PE X (.Subscript e (.Slice lo hi none p2) pos) (tSl r (tD X.K C me) tl th)) : PE X (.Subscript e (.Slice lo hi none p2) pos) (tD X.K C (mSl f me ml mh)) := pe_imp t (by
  rintro σ H Q ⟨F, sd, Qd, R, h, k⟩
  refine ⟨F, sd, _, R, h, fun x H1 F1 a sd1 R1 S1 rx h1 => ?_⟩
  refine hl σ H1 _ F1 sd1 _ R1 h1 fun l H2 F2 sd2 R2 S2 h2 => ?_
  refine hh σ H2 _ F2 sd2 _ R2 h2 fun u H3 F3 sd3 R3 S3 h3 => ?_
  obtain ⟨z, e, q⟩ := h3
  exact L F3 H3 x a z l u Q R3.ext (fun p => R3.free) (rx.mono (S2.fr.trans S3.fr)) e fun v F' H' al rz => k v H' F' z sd3 (R3.al al) (((S1.trans S2).trans S3).trans (.al R3 al)) rz q)
end
end DL
namespace DL
open PySem PySem.Spec PyProof.Rows L2
theorem opR_or {X : Cx} {f : Value → Value → Sem Value} {r r' : R2} (h : OpR X f r) (h' : OpR X f r') : OpR X f (fun x y H Q => r x y H Q ∨ r' x y H Q) :=
  fun pins s σ H x y v u Q I rx ry q => q.elim (h pins s σ H x y v u Q I rx ry) (h' pins s σ H x y v u Q I rx ry)
theorem callR_or {X : Cx} {f : Value} {r r' : List V → Hp → VK → Prop} (h : CallR X f r) (h' : CallR X f r') : CallR X f (fun xs H Q => r xs H Q ∨ r' xs H Q) :=
  fun pins s σ H xs us Q I rx q => q.elim (h pins s σ H xs us Q I rx) (h' pins s σ H xs us Q I rx)
theorem slR_or {X : Cx} {r r' : V → Option Int → Option Int → Hp → VK → Prop} (h : SlR X r) (h' : SlR X r') : SlR X (fun x lo hi H Q => r x lo hi H Q ∨ r' x lo hi H Q) := SlR.or h h'
theorem line_of {n : Nat} (h : n ≤ 100000) : n ≤ sizeLine := Nat.le_trans h (by decide)
theorem line_lt {n : Nat} (h : n < 100000) : n < sizeLine := Nat.lt_of_lt_of_le h (by decide)
section
variable {K : PySem.W.Frag} {X : Cx}
abbrev rAdd (K : PySem.W.Frag) : R2 := fun x y H Q => (((rI0 fun i j => V.int (i + j)) x y H Q ∨ (∃ i j, x = .str i ∧ y = .str j ∧ i.length + j.length ≤ sizeLine ∧ Q (.str (i ++ j)) H)) ∨ rCat x y H Q) ∨ rCatA K x y H Q
theorem or_add : OpR X (binaryOp .Add) (rAdd X.K) := opR_or (opR_or (opR_or op_add op_add_str) op_cat) op_catA
theorem rl_add : RL2 K (rAdd K) opAdd := by
  intro F H x y a b z Q e _ rx ry h k
  unfold opAdd at h
  split at h
  · cases rx; cases ry; cases h
    exact .inl (.inl (.inl ⟨_, _, rfl, rfl, k _ F H .id (.int _)⟩))
  · cases rx; cases ry
    split at h
    · cases h
      rename_i hl
      exact .inl (.inl (.inr ⟨_, _, rfl, rfl, line_of hl, k _ F H .id (.str _)⟩))
    · cases h
  · split at h
    · rename_i hl
      cases h
      cases rx with
      | lst h1 r1 =>
        cases ry with
        | lst h2 r2 =>
          refine .inl (.inr ⟨_, _, _, _, rfl, rfl, e _ _ h1, e _ _ h2, ?_, fun p hp => ?_⟩)
          · rw [r1.length, r2.length]; exact line_of hl
          · have hF : F p = none := by
              cases q : F p with
              | none => rfl
              | some o => rw [e _ _ q] at hp; cases hp
            exact k _ _ _ (.new hp) (.lst upd_same ((r1.append r2).mono (same_new hF)))
    · cases h
  · split at h
    · rename_i hl
      cases h
      cases rx with
      | tup h1 r1 =>
        cases ry with
        | tup h2 r2 =>
          refine .inr ⟨_, _, _, _, rfl, rfl, same_t e h1, same_t e h2, ?_, fun z => ?_, fun z1 z2 => ?_, fun z1 z2 p hp => ?_⟩
          · rw [r1.length, r2.length]; exact line_of hl
          · subst z
            cases r1
            exact k _ F H .id (.tup h2 r2)
          · subst z2
            cases r2
            rw [List.append_nil] at k
            exact k _ F H .id (.tup h1 r1)
          · have hF : F p = none := by
              cases q : F p with
              | none => rfl
              | some o => rw [e _ _ q] at hp; cases hp
            exact k _ _ _ (.new hp) (.tup (.inl (.inl upd_same)) ((r1.append r2).mono (same_new hF)))
    · cases h
  · cases h
theorem free_of {F H : Hp} {p : Addr} (e : Same F H) (hp : H p = none) : F p = none := by
  cases q : F p with
  | none => rfl
  | some o => rw [e _ _ q] at hp; cases hp
theorem rl_sub : RL2 K (rI0 fun i j => V.int (i - j)) opSub := by
  intro F H x y a b z Q e _ rx ry h k
  unfold opSub at h
  split at h
  · cases rx; cases ry; cases h
    exact ⟨_, _, rfl, rfl, k _ F H .id (.int _)⟩
  · cases h
abbrev rMul : R2 := fun x y H Q => rI CMulW (fun i j => V.int (i * j)) x y H Q ∨ rRep x y H Q
theorem or_mul : OpR X (binaryOp .Mult) rMul := opR_or op_mulW op_rep
theorem rpA_rep {F : Hp} {vs : List V} {ds : List PyData} (r : RpA K F vs ds) : ∀ n : Nat, RpA K F (List.replicate n vs).flatten (List.replicate n ds).flatten
  | 0 => .nil
  | n + 1 => by
    rw [List.replicate_succ, List.replicate_succ, List.flatten_cons, List.flatten_cons]
    exact r.append (rpA_rep r n)
theorem rl_mul : RL2 K rMul opMul := by
  intro F H x y a b z Q e _ rx ry h k
  unfold opMul at h
  split at h
  · cases rx; cases ry
    split at h
    · rename_i hs
      cases h
      exact .inl ⟨_, _, rfl, rfl, (by unfold CMulW; exact of_decide_eq_true hs), k _ F H .id (.int _)⟩
    · cases h
  · rename_i a' k'
    split at h
    · rename_i hs
      cases h
      cases ry
      cases rx with
      | lst h1 r1 =>
        refine .inr ⟨_, _, _, rfl, rfl, e _ _ h1, by omega, by omega, ?_, fun p hp => ?_⟩
        · rw [r1.length]
          have h1 : a'.length * k'.toNat ≤ 1000 * 1000 := Nat.mul_le_mul hs.2.2 (by omega)
          exact Nat.le_trans h1 (by decide)
        · exact k _ _ _ (.new hp) (.lst upd_same ((rpA_rep r1 _).mono (same_new (free_of e hp))))
    · cases h
  · cases h
theorem rl_mod : RL2 K (rI (fun _ j => 0 < j) fun i j => V.int (i % j)) opMod := by
  intro F H x y a b z Q e _ rx ry h k
  unfold opMod at h
  split at h
  · cases rx; cases ry
    split at h
    · rename_i hs
      cases h
      exact ⟨_, _, rfl, rfl, hs, k _ F H .id (.int _)⟩
    · cases h
  · cases h
theorem rl_fdiv : RL2 K (rI CDivW fun i j => V.int (i / j)) opFdiv := by
  intro F H x y a b z Q e _ rx ry h k
  unfold opFdiv at h
  split at h
  · cases rx; cases ry
    split at h
    · rename_i hs
      cases h
      exact ⟨_, _, rfl, rfl, hs, k _ F H .id (.int _)⟩
    · cases h
  · cases h
/-- ** by a small exponent -/
def CPowW (i j : Int) : Prop := 0 ≤ j ∧ j ≤ 100 ∧ i.natAbs < 2 ^ 10000
theorem op_powW : OpR X (binaryOp .Pow) (rI CPowW fun i j => .int (i ^ j.toNat)) := by
  intro pins s σ H x y v u Q I rx ry h
  obtain ⟨i, j, rfl, rfl, hc, q⟩ := h
  obtain ⟨t, rfl⟩ := rx
  obtain ⟨t', rfl⟩ := ry
  refine PyProof.Rows.pow_int hc.1 ?_ ⟨.int _, H, I.tok _, ⟨_, rfl⟩, q⟩
  have hb : Builtin.Int.intBits i ≤ 10000 := by
    unfold Builtin.Int.intBits
    split
    · exact Nat.zero_le _
    · have := PySem.Flt.log2_lt_of (by decide : 0 < 10000) hc.2.2
      omega
  have h1 := hc.1
  have h2 := hc.2.1
  have h3 : (Builtin.Int.intBits i : Int) ≤ 10000 := by exact_mod_cast hb
  have h4 : (Builtin.Int.intBits i : Int) * j ≤ 10000 * 100 := Int.mul_le_mul h3 h2 h1 (by decide)
  have h5 : (10000 * 100 : Int) ≤ 2 ^ 27 := by decide
  omega
theorem rl_pow : RL2 K (rI CPowW fun i j => V.int (i ^ j.toNat)) opPow := by
  intro F H x y a b z Q e _ rx ry h k
  unfold opPow at h
  split at h
  · cases rx; cases ry
    split at h
    · rename_i hs
      cases h
      exact ⟨_, _, rfl, rfl, hs, k _ F H .id (.int _)⟩
    · cases h
  · cases h
theorem rl_cmpI {p : Int → Int → Bool} : RL2 K (rI0 fun i j => V.bl (p i j)) (cmpI p) := by
  intro F H x y a b z Q e _ rx ry h k
  unfold cmpI at h
  split at h
  · cases rx; cases ry; cases h
    exact ⟨_, _, rfl, rfl, k _ F H .id (.bl _)⟩
  · cases h
theorem strs_of {a b : PyData} {p : Str × Str} (h : strs? a b = some p) : a = .str p.1 ∧ b = .str p.2 := by
  unfold strs? at h
  split at h
  · cases h; exact ⟨rfl, rfl⟩
  · cases h
theorem or_eqD (hu : X.A.units + 64 < cLine) : OpR X (compareOp .Eq) (fun x y H Q => rEqD X.K x y H Q ∨ rEq x y H Q) := opR_or (op_eqD hu) op_eq
theorem or_neD (hu : X.A.units + 64 < cLine) : OpR X (compareOp .NotEq) (fun x y H Q => rNeD X.K x y H Q ∨ rNe x y H Q) := opR_or (op_neD hu) op_ne
theorem dec_v {x y : Str} : decide (V.str x = V.str y) = decide (x = y) := by
  by_cases h : x = y <;> simp [h]
theorem rl_eq : RL2 K (fun x y H Q => rEqD K x y H Q ∨ rEq x y H Q) opEq := by
  intro F H x y a b z Q e _ rx ry h k
  unfold opEq at h
  split at h
  · rename_i hs
    cases h
    rw [Bool.and_eq_true] at hs
    exact .inl ⟨a, b, rx.dp e (SeqAt.canLay_of_shaped hs.1), ry.dp e (SeqAt.canLay_of_shaped hs.2), hs.1, hs.2, k _ F H .id (.bl _)⟩
  · obtain ⟨p, hp, h⟩ := Option.map_eq_some_iff.mp h
    obtain ⟨rfl, rfl⟩ := strs_of hp
    cases h
    cases rx; cases ry
    refine .inr ⟨rfl, ?_⟩
    rw [dec_v]
    exact k _ F H .id (.bl _)
theorem rl_ne : RL2 K (fun x y H Q => rNeD K x y H Q ∨ rNe x y H Q) opNe := by
  intro F H x y a b z Q e _ rx ry h k
  unfold opNe at h
  split at h
  · rename_i hs
    cases h
    rw [Bool.and_eq_true] at hs
    exact .inl ⟨a, b, rx.dp e (SeqAt.canLay_of_shaped hs.1), ry.dp e (SeqAt.canLay_of_shaped hs.2), hs.1, hs.2, k _ F H .id (.bl _)⟩
  · obtain ⟨p, hp, h⟩ := Option.map_eq_some_iff.mp h
    obtain ⟨rfl, rfl⟩ := strs_of hp
    cases h
    cases rx; cases ry
    refine .inr ⟨rfl, ?_⟩
    rw [dec_v]
    exact k _ F H .id (.bl _)
theorem isN_of {F : Hp} {x : V} {a : PyData} (r : Rp K F x a) : decide (x = .non) = isN a := by
  cases r <;> rfl
abbrev rIsNone : R2 := fun x y H Q => y = .non ∧ Q (.bl (decide (x = .non))) H
abbrev rNotNone : R2 := fun x y H Q => y = .non ∧ Q (.bl (!decide (x = .non))) H
theorem rl_isN : RL2 K rIsNone opIsN2 := by
  intro F H x y a b z Q e _ rx ry h k
  unfold opIsN2 at h
  split at h
  · cases ry; cases h
    refine ⟨rfl, ?_⟩
    rw [isN_of rx]
    exact k _ F H .id (.bl _)
  · cases h
theorem rl_notN : RL2 K rNotNone opNotN2 := by
  intro F H x y a b z Q e _ rx ry h k
  unfold opNotN2 at h
  split at h
  · cases ry; cases h
    refine ⟨rfl, ?_⟩
    rw [isN_of rx]
    exact k _ F H .id (.bl _)
  · cases h
theorem rl_isB : RL2 K (fun x y H Q => ∃ a b, x = V.bl a ∧ y = V.bl b ∧ Q (.bl (decide (a = b))) H) opIsB := by
  intro F H x y a b z Q e _ rx ry h k
  unfold opIsB at h
  split at h
  · cases rx; cases ry; cases h
    exact ⟨_, _, rfl, rfl, k _ F H .id (.bl _)⟩
  · cases h
theorem rl_notB : RL2 K (fun x y H Q => ∃ a b, x = V.bl a ∧ y = V.bl b ∧ Q (.bl (!decide (a = b))) H) opNotB := by
  intro F H x y a b z Q e _ rx ry h k
  unfold opNotB at h
  split at h
  · cases rx; cases ry; cases h
    exact ⟨_, _, rfl, rfl, k _ F H .id (.bl _)⟩
  · cases h
theorem rl_neg : RL1 K (rU fun i => V.int (-i)) opNeg := by
  intro F H x a z Q e _ rx h k
  unfold opNeg at h
  split at h
  · cases rx; cases h
    exact ⟨_, rfl, k _ F H .id (.int _)⟩
  · cases h
theorem atI_rpA {F : Hp} {vs : List V} {ds : List PyData} {i : Int} {d : PyData} (r : RpA K F vs ds) (h : DL.atI ds i = some d) : ∃ v, L2.atI vs i = some v ∧ Rp K F v d := by
  unfold DL.atI at h
  unfold L2.atI
  rw [r.length]
  show ∃ v, ((DL.ixN ds.length i).bind fun j => vs[j]?) = some v ∧ _
  cases e : DL.ixN ds.length i with
  | none => rw [e] at h; cases h
  | some j => rw [e] at h; exact r.get h
theorem rl_ix : RL2 K (rIx K) opIx := by
  intro F H x y a b z Q e _ rx ry h k
  unfold opIx at h
  split at h
  · cases ry
    cases rx with
    | lst h1 r1 =>
      obtain ⟨v, e1, r⟩ := atI_rpA r1 h
      exact .inl ⟨_, _, _, v, rfl, rfl, .inl (.inl (e _ _ h1)), e1, k v F H .id r⟩
  · cases ry
    cases rx with
    | tup h1 r1 =>
      obtain ⟨v, e1, r⟩ := atI_rpA r1 h
      exact .inr (.inl ⟨_, _, _, v, rfl, rfl, same_t e h1, e1, k v F H .id r⟩)
  · cases ry; cases rx
    split at h
    · rename_i z' i' hl
      cases e1 : DL.atI z'.cps.toList i' with
      | none => rw [e1] at h; cases h
      | some c =>
        rw [e1] at h
        cases h
        exact .inr (.inr ⟨_, _, c, rfl, rfl, line_of hl, e1, k _ F H .id (.str _)⟩)
    · cases h
  · cases h
theorem eqV_rp {F : Hp} {x y : V} {a b : PyData} (rx : Rp K F x a) (ry : Rp K F y b) (ha : flatD a = true) (hb : flatD b = true) : eqV x y = PyData.eqv a b := by
  cases rx <;> first | (cases ha; done) | (cases ry <;> first | (cases hb; done) | (simp only [eqV, PyData.eqv]))
theorem flatV_rp {F : Hp} {x : V} {a : PyData} (rx : Rp K F x a) (ha : flatD a = true) : flatV x = true := by
  cases rx <;> first | rfl | (cases ha; done)
theorem inV_rpA {F : Hp} {x : V} {a : PyData} (rx : Rp K F x a) (ha : flatD a = true) : ∀ {vs : List V} {ds : List PyData}, RpA K F vs ds → ds.all flatD = true → inV x vs = ds.any (fun d => PyData.eqv d a) ∧ vs.all flatV = true
  | _, _, .nil, _ => ⟨rfl, rfl⟩
  | v :: vs, d :: ds, .cons h r, hf => by
    rw [List.all_cons, Bool.and_eq_true] at hf
    obtain ⟨i1, i2⟩ := inV_rpA rx ha r hf.2
    refine ⟨?_, ?_⟩
    · show (eqV v x || inV x vs) = _
      rw [List.any_cons, eqV_rp h rx hf.1 ha, i1]
    · rw [List.all_cons, flatV_rp h hf.1, i2]; rfl
theorem rl_inG {neg : Bool} : RL2 K (rIn K neg) (opInS neg) := by
  intro F H x y a b z Q e _ rx ry h k
  unfold opInS at h
  cases hb : items b with
  | none => rw [hb] at h; cases h
  | some ds =>
    rw [hb] at h
    simp only [Option.bind_some] at h
    split at h
    · rename_i hs
      cases h
      rw [Bool.and_eq_true] at hs
      cases ry with
      | lst h1 r1 =>
        cases hb
        obtain ⟨i1, i2⟩ := inV_rpA rx hs.1 r1 hs.2
        refine ⟨_, _, rfl, .inl (.inl (.inl (e _ _ h1))), flatV_rp rx hs.1, i2, ?_⟩
        rw [i1]
        cases neg <;> exact k _ F H .id (.bl _)
      | tup h1 r1 =>
        cases hb
        obtain ⟨i1, i2⟩ := inV_rpA rx hs.1 r1 hs.2
        refine ⟨_, _, rfl, .inr (same_t e h1), flatV_rp rx hs.1, i2, ?_⟩
        rw [i1]
        cases neg <;> exact k _ F H .id (.bl _)
      | _ => cases hb
    · cases h
abbrev rInX (K : PySem.W.Frag) : R2 := fun x y H Q => rIn K false x y H Q ∨ (∃ (c : Nat) (z : Str), x = .str ⟨#[c]⟩ ∧ y = .str z ∧ Q (.bl (decide (c ∈ z.cps.toList))) H)
abbrev rNotInX (K : PySem.W.Frag) : R2 := fun x y H Q => rIn K true x y H Q ∨ (∃ (c : Nat) (z : Str), x = .str ⟨#[c]⟩ ∧ y = .str z ∧ Q (.bl (!decide (c ∈ z.cps.toList))) H)
theorem or_in : OpR X (compareOp .In) (rInX X.K) := opR_or op_in_seq op_in_sign
theorem or_notIn : OpR X (compareOp .NotIn) (rNotInX X.K) := opR_or op_notIn_seq op_notIn_sign
theorem rl_in : RL2 K (rInX K) opIn := by
  intro F H x y a b z Q e f rx ry h k
  unfold opIn at h
  split at h
  · cases rx; cases ry
    rename_i w1 w2
    cases hc : sign? w1 with
    | none => rw [hc] at h; cases h
    | some c =>
      rw [hc] at h
      cases h
      exact .inr ⟨c, w2, by rw [sign_of hc], rfl, k _ F H .id (.bl _)⟩
  · exact .inl (rl_inG F H x y a b z Q e f rx ry h k)
theorem rl_notIn : RL2 K (rNotInX K) opNotIn := by
  intro F H x y a b z Q e f rx ry h k
  unfold opNotIn at h
  split at h
  · cases rx; cases ry
    rename_i w1 w2
    cases hc : sign? w1 with
    | none => rw [hc] at h; cases h
    | some c =>
      rw [hc] at h
      cases h
      exact .inr ⟨c, w2, by rw [sign_of hc], rfl, k _ F H .id (.bl _)⟩
  · exact .inl (rl_inG F H x y a b z Q e f rx ry h k)
end
end DL
namespace DL
open PySem PySem.Spec PyProof.Rows L2
section
variable {K : PySem.W.Frag} {X : Cx} {C : Ct}
theorem rpA1 {F : Hp} {xs : List V} {d : PyData} (r : RpA K F xs [d]) : ∃ x, xs = [x] ∧ Rp K F x d := by
  cases r with
  | cons h t => cases t; exact ⟨_, rfl, h⟩
theorem rpA2 {F : Hp} {xs : List V} {d e : PyData} (r : RpA K F xs [d, e]) : ∃ x y, xs = [x, y] ∧ Rp K F x d ∧ Rp K F y e := by
  cases r with
  | cons h t => obtain ⟨y, rfl, g⟩ := rpA1 t; exact ⟨_, y, rfl, h, g⟩
abbrev rLenX (K : PySem.W.Frag) : List V → Hp → VK → Prop := fun xs H Q => (∃ p ys, xs = [V.ref p] ∧ (SqL K H p ys ∨ SqT K H p ys) ∧ Q (.int ys.length) H) ∨ (∃ z, xs = [V.str z] ∧ z.length ≤ sizeLine ∧ Q (.int z.length) H)
theorem cr_len : CallR X (.builtin "len") (rLenX X.K) := callR_or call_len_seq call_len_str
theorem rc_len : RLC K (rLenX K) bLen := by
  intro F H xs as z Q e _ rx h k
  unfold bLen at h
  split at h
  · obtain ⟨x, rfl, r⟩ := rpA1 rx
    cases h
    cases r with
    | lst h1 r1 =>
      refine .inl ⟨_, _, rfl, .inl (.inl (.inl (e _ _ h1))), ?_⟩
      rw [r1.length]
      exact k _ F H .id (.int _)
  · obtain ⟨x, rfl, r⟩ := rpA1 rx
    cases h
    cases r with
    | tup h1 r1 =>
      refine .inl ⟨_, _, rfl, .inr (same_t e h1), ?_⟩
      rw [r1.length]
      exact k _ F H .id (.int _)
  · obtain ⟨x, rfl, r⟩ := rpA1 rx
    cases r
    split at h
    · rename_i hl
      cases h
      exact .inr ⟨_, rfl, line_of hl, k _ F H .id (.int _)⟩
    · cases h
  · cases h
theorem rc_abs : RLC K (fun xs H Q => ∃ i, xs = [V.int i] ∧ Q (.int (if i < 0 then -i else i)) H) bAbs := by
  intro F H xs as z Q e _ rx h k
  unfold bAbs at h
  split at h
  · obtain ⟨x, rfl, r⟩ := rpA1 rx
    cases h
    cases r
    exact ⟨_, rfl, k _ F H .id (.int _)⟩
  · cases h
theorem rc_max : RLC K (fun xs H Q => ∃ i j, xs = [V.int i, V.int j] ∧ Q (.int (if j > i then j else i)) H) bMax := by
  intro F H xs as z Q e _ rx h k
  unfold bMax at h
  split at h
  · obtain ⟨x, y, rfl, r1, r2⟩ := rpA2 rx
    cases h
    cases r1; cases r2
    exact ⟨_, _, rfl, k _ F H .id (.int _)⟩
  · cases h
theorem rc_min : RLC K (fun xs H Q => ∃ i j, xs = [V.int i, V.int j] ∧ Q (.int (if j < i then j else i)) H) bMin := by
  intro F H xs as z Q e _ rx h k
  unfold bMin at h
  split at h
  · obtain ⟨x, y, rfl, r1, r2⟩ := rpA2 rx
    cases h
    cases r1; cases r2
    exact ⟨_, _, rfl, k _ F H .id (.int _)⟩
  · cases h
theorem cr_int : CallR X (.type "int") (fun xs H Q => ∃ i, xs = [V.int i] ∧ Q (.int i) H) := by
  intro pins s σ H xs us Q I r h
  obtain ⟨i, rfl, q⟩ := h
  obtain ⟨u, rfl, t, rfl⟩ := vals1 r
  exact call_int_int ⟨.int i, H, I, ⟨_, rfl⟩, q⟩
theorem rc_int : RLC K (fun xs H Q => ∃ i, xs = [V.int i] ∧ Q (.int i) H) bInt := by
  intro F H xs as z Q e _ rx h k
  unfold bInt at h
  split at h
  · obtain ⟨x, rfl, r⟩ := rpA1 rx
    cases h
    cases r
    exact ⟨_, rfl, k _ F H .id (.int _)⟩
  · cases h
theorem rc_gcd : RLC K rGcd bGcd := by
  intro F H xs as z Q e _ rx h k
  unfold bGcd at h
  split at h
  · obtain ⟨x, y, rfl, r1, r2⟩ := rpA2 rx
    cases h
    cases r1; cases r2
    exact ⟨_, _, rfl, k _ F H .id (.int _)⟩
  · cases h
theorem bools_rp {F : Hp} : ∀ {ds : List PyData} {vs : List V} {bs : List Bool}, RpA K F vs ds → bools ds = some bs → vs = bs.map V.bl
  | [], _, _, .nil, h => by cases h; rfl
  | .bool b :: r, _, _, .cons h1 h2, h => by
    unfold bools at h
    cases e : bools r with
    | none => rw [e] at h; cases h
    | some bs' =>
      rw [e] at h
      cases h
      cases h1
      rw [bools_rp h2 e]; rfl
  | .none :: _, _, _, _, h => by cases h
  | .int _ :: _, _, _, _, h => by cases h
  | .str _ :: _, _, _, _, h => by cases h
  | .list _ :: _, _, _, _, h => by cases h
  | .tuple _ :: _, _, _, _, h => by cases h
  | .dict _ :: _, _, _, _, h => by cases h
theorem rc_all : RLC K (rAll K) bAll := by
  intro F H xs as z Q e _ rx h k
  unfold bAll at h
  split at h
  · obtain ⟨x, rfl, r⟩ := rpA1 rx
    rename_i ds
    cases eb : bools ds with
    | none => rw [eb] at h; cases h
    | some bs =>
      rw [eb] at h
      cases h
      cases r with
      | lst h1 r1 =>
        have := bools_rp r1 eb
        subst this
        exact ⟨_, bs, rfl, .inl (.inl (e _ _ h1)), k _ F H .id (.bl _)⟩
  · cases h
theorem rc_any : RLC K (rAny K) bAny := by
  intro F H xs as z Q e _ rx h k
  unfold bAny at h
  split at h
  · obtain ⟨x, rfl, r⟩ := rpA1 rx
    rename_i ds
    cases eb : bools ds with
    | none => rw [eb] at h; cases h
    | some bs =>
      rw [eb] at h
      cases h
      cases r with
      | lst h1 r1 =>
        have := bools_rp r1 eb
        subst this
        exact ⟨_, bs, rfl, .inl (.inl (e _ _ h1)), k _ F H .id (.bl _)⟩
  · cases h
theorem rc_list : RLC K (fun xs H Q => ∃ p ys, xs = [V.ref p] ∧ (SqL K H p ys ∨ SqT K H p ys) ∧ ∀ l, H l = none → Q (.ref l) (upd H l (.lst ys))) bList := by
  intro F H xs as z Q e f rx h k
  unfold bList at h
  split at h
  · obtain ⟨x, rfl, r⟩ := rpA1 rx
    cases h
    cases r with
    | lst h1 r1 => exact ⟨_, _, rfl, .inl (.inl (.inl (e _ _ h1))), fun l hl => k _ _ _ (.new hl) (.lst upd_same (r1.mono (same_new (f l hl))))⟩
  · obtain ⟨x, rfl, r⟩ := rpA1 rx
    cases h
    cases r with
    | tup h1 r1 => exact ⟨_, _, rfl, .inr (same_t e h1), fun l hl => k _ _ _ (.new hl) (.lst upd_same (r1.mono (same_new (f l hl))))⟩
  · cases h
theorem pd_gcd {x : Str} {p pos : Pos} {e : Expr} {es : List Expr} {ma : MA} (hm : X.mg x = some (.builtin "math.gcd")) (ha : PA X (e :: es) (tDA X.K C ma)) (hg : Gl X x := by rfl) (hdb : (x == ("__debug__" : Str)) = false := by decide)
    (he : starEach (e :: es) X.env = (false, eval e X.env) :: starEach es X.env := by rfl) (hpl : (backTo pos (starEach es X.env)).any (·.1) = false := by rfl) : PE X (.Call (.Name x p) (e :: es) [] pos) (tD X.K C (mCallB bGcd ma)) :=
  pe_imp (pe_callBfun cr_gcd hg hm ha hdb he hpl) (td_cb rc_gcd)
theorem kMeta (k : Ki) : bootBuiltins (Str.ofString (kName k)) = some (.type (kName k)) := by cases k <;> decide +kernel
def tyD : PyData → String
  | .none => "NoneType" | .bool _ => "bool" | .int _ => "int" | .str _ => "str" | .list _ => "list" | .tuple _ => "tuple" | .dict _ => "dict"
theorem kit_d (k : Ki) (d : PyData) (h : ∀ x y, d ≠ .dict ((.none, x) :: y)) : PySem.W.kitOne K (.type (tyD d)) (.type (kName k)) = some (isK k d) := by
  cases d with
  | dict es =>
    have e : isK k (.dict es) = isK k (.dict []) := by
      cases k <;> try rfl
      cases es with
      | nil => rfl
      | cons p r =>
        obtain ⟨a, b⟩ := p
        cases a <;> first | rfl | exact absurd rfl (h _ _)
    rw [e]
    cases k <;> first | exact kit_ty (r := true) (by simp only [tyD, kName]; decide +kernel) | exact kit_ty (r := false) (by simp only [tyD, kName]; decide +kernel)
  | _ => cases k <;> first | exact kit_ty (r := true) (by simp only [tyD, kName]; decide +kernel) | exact kit_ty (r := false) (by simp only [tyD, kName]; decide +kernel)
theorem rpD_key {F : Hp} {kvs : List (Key × V)} {es : List (PyData × PyData)} {x : PyData} {y : List (PyData × PyData)} (r : RpD K F kvs es) (z : es = (.none, x) :: y) : False := by
  cases r with
  | nil => cases z
  | @cons k' _ _ _ _ _ _ =>
    have := congrArg Prod.fst (List.cons.inj z).1
    cases k' <;> cases this
/-- a value's type: errors of own classes, too -/
inductive TyE (K : PySem.W.Frag) (H : Hp) : V → Value → Prop where
  | of {x : V} {t : Value} (h : TyX K H x t) : TyE K H x t
  | ex0 {a C : Addr} (h : H a = some (L2.exo a C none)) (e : L2.ExcC K C) (c : (PySem.W.clsIn K C).isSome = true) : TyE K H (.ref a) (.ref C)
  | exF {a C d : Addr} {fs : List (Str × V)} (h : H a = some (L2.exo a C (some d))) (g : H d = some (L2.exd d fs)) (e : L2.ExcC K C) (c : (PySem.W.clsIn K C).isSome = true) : TyE K H (.ref a) (.ref C)
theorem kit_ofE {pins : List (Addr × Obj)} {σ : L2.St} {H : Hp} {s : Shared} {x : V} {u t : Value} (I : L2.Inv X pins σ H s) (rx : L2.RelV x u) (ty : TyE X.K H x t) : ∃ P : Heap → Prop, PySem.W.KitX X.K u t P ∧ P s.heap ∧ u ≠ .builtin "__main__.__loader__#opaque" := by
  cases ty with
  | of h => exact kit_of I rx h
  | @ex0 a C h e c =>
    cases (show u = Value.ref a from rx)
    obtain ⟨t1, ho⟩ := L2.exo_at I.hok h
    exact ⟨_, PySem.W.kitx_exc (od := none) c e.hg e.hk e.hs e.ha e.hn e.ht e.hm, ⟨ho, rfl, rfl, trivial⟩, fun z => nomatch z⟩
  | @exF a C d fs h g e c =>
    cases (show u = Value.ref a from rx)
    obtain ⟨t1, ho⟩ := L2.exo_at I.hok h
    obtain ⟨mA, ⟨od, _, _, hd, _⟩, _⟩ := L2.exd_at I.hok g
    exact ⟨_, PySem.W.kitx_exc (od := some od) c e.hg e.hk e.hs e.ha e.hn e.ht e.hm, ⟨ho, rfl, rfl, hd⟩, fun z => nomatch z⟩
def rIsEv1 (K : PySem.W.Frag) : List V → Hp → VK → Prop := fun xs H Q => ∃ (x c : V) (t u : Value) (b : Bool), xs = [x, c] ∧ ClsV c u ∧ TyE K H x t ∧ PySem.W.kitOne K t u = some b ∧ Q (.bl b) H
def rIsEvT (K : PySem.W.Frag) : List V → Hp → VK → Prop := fun xs H Q => ∃ (x : V) (tp : Addr) (cs : List V) (t : Value) (us : List Value) (b : Bool), xs = [x, .ref tp] ∧ H tp = some (.tup cs) ∧ Paired ClsV cs us ∧ TyE K H x t ∧ PySem.W.kitAny K t us = some b ∧ Q (.bl b) H
theorem call_isEv1 : CallR X (.builtin "isinstance") (rIsEv1 X.K) := by
  rintro pins s σ H xs us Q I r ⟨x, c, t, u, b, rfl, k, ty, e, q⟩
  obtain ⟨u1, u2, rfl, r1, r2⟩ := vals2 r
  cases k.eq r2
  obtain ⟨P, Z, p, hx⟩ := kit_ofE I r1 ty
  exact PySem.W.kia_one Z I.kIn p e hx fun tk => ⟨.bl b, H, I.tok tk, rfl, q⟩
theorem call_isEvT : CallR X (.builtin "isinstance") (rIsEvT X.K) := by
  rintro pins s σ H xs us Q I r ⟨x, tp, cs, t, ws, b, rfl, hT, k, ty, e, q⟩
  obtain ⟨u1, u2, rfl, r1, r2⟩ := vals2 r
  cases (show u2 = Value.ref tp from r2)
  obtain ⟨P, Z, p, hx⟩ := kit_ofE I r1 ty
  obtain ⟨_, its, rv, ⟨oc, od, dt, sl⟩, h1, h2, n, h3⟩ := (show ObjOk X.prog X.w H s.heap tp (.tup cs) from I.hok tp _ hT)
  cases ClsV.all k rv
  simp only at h2 h3
  subst h2 h3
  exact PySem.W.kia_tup Z I.kIn p h1 e hx fun tk => ⟨.bl b, H, I.tok tk, rfl, q⟩
/-- a value's type, and what isinstance says of it -/
theorem ty_rpX {F H : Hp} {x : V} {d : PyData} (e : Same F H) (r : Rp K F x d) (hx : ∀ l, d ≠ .dict [(.none, .list l)]) : ∃ t, TyX K H x t ∧ ∀ k : Ki, PySem.W.kitOne K t (.type (kName k)) = some (isK k d) := by
  cases r with
  | non => exact ⟨_, .base .non, fun k => kit_d k .none (fun _ _ => nofun)⟩
  | bl b => exact ⟨_, .base (.bl b), fun k => kit_d k (.bool b) (fun _ _ => nofun)⟩
  | int i => exact ⟨_, .base (.int i), fun k => kit_d k (.int i) (fun _ _ => nofun)⟩
  | str z => exact ⟨_, .base (.str z), fun k => kit_d k (.str z) (fun _ _ => nofun)⟩
  | lst h _ => exact ⟨_, .base (.lst (e _ _ h)), fun k => kit_d k (.list _) (fun _ _ => nofun)⟩
  | tup h _ =>
    rcases h with (h | ⟨o, h⟩) | ⟨o, its, n, h, c, _⟩
    · exact ⟨_, .base (.tup (e _ _ h)), fun k => kit_d k (.tuple _) (fun _ _ => nofun)⟩
    · exact ⟨_, .fTuple (e _ _ h), fun k => kit_d k (.tuple _) (fun _ _ => nofun)⟩
    · exact ⟨_, .kTuple h c, fun k => kit_d k (.tuple _) (fun _ _ => nofun)⟩
  | dct h rd => exact ⟨_, .base (.dK (e _ _ h)), fun k => kit_d k (.dict _) (fun x y z => by
      have z := PyData.dict.inj z
      exact rpD_key rd z)⟩
  | ins h o _ => exact ⟨_, .base (.ins (e _ _ h) o.cl o.ha o.hn o.htk o.hm), fun k => (o.kit k).trans (by cases k <;> rfl)⟩
  | ex0 => exact absurd rfl (hx _)
  | exF => exact absurd rfl (hx _)
theorem ty_rp {F H : Hp} {x : V} {d : PyData} (e : Same F H) (r : Rp K F x d) : ∃ t, TyE K H x t ∧ ∀ k : Ki, PySem.W.kitOne K t (.type (kName k)) = some (isK k d) := by
  by_cases hx : ∀ l, d ≠ .dict [(.none, .list l)]
  · obtain ⟨t, h1, h2⟩ := ty_rpX e r hx
    exact ⟨t, .of h1, h2⟩
  · have hx : ∃ l, d = .dict [(.none, .list l)] := Classical.byContradiction fun z => hx fun l q => z ⟨l, q⟩
    obtain ⟨l, rfl⟩ := hx
    cases r with
    | dct h rd => exact (rpD_key rd rfl).elim
    | ex0 h o => exact ⟨_, .ex0 (e _ _ h) o.ec o.cl, fun k => (o.kit k).trans (by cases k <;> rfl)⟩
    | exF h g o _ => exact ⟨_, .exF (e _ _ h) (e _ _ g) o.ec o.cl, fun k => (o.kit k).trans (by cases k <;> rfl)⟩
theorem kitAny_d (d : PyData) {t : Value} (ht : ∀ k : Ki, PySem.W.kitOne K t (.type (kName k)) = some (isK k d)) : ∀ ks : List Ki, PySem.W.kitAny K t (ks.map fun k => .type (kName k)) = some (ks.any fun k => isK k d)
  | [] => kitAny_nil
  | k :: ks => by
    refine kitAny_cons (ht k) (fun h => ?_) (fun h => ?_)
    · rw [List.any_cons, h, Bool.false_or]; exact kitAny_d d ht ks
    · rw [List.any_cons, h, Bool.true_or]
theorem pd_isi1 {p p2 pos : Pos} {e : Expr} {m : ME} {T : Str} (k : Ki) (hm : X.mg "isinstance" = none) (hT : X.mg T = none) (he : PE X e (tD X.K C m)) (hv : bootBuiltins T = some (.type (kName k)) := by decide +kernel)
    (hgI : Gl X "isinstance" := by rfl) (hgT : Gl X T := by rfl) (hn : T ≠ "__name__" := by decide) (hdb : (T == ("__debug__" : Str)) = false := by decide) (hpl : (backTo pos (starEach [.Name T p2] X.env)).any (·.1) = false := by rfl)
    (hs : starEach (e :: [.Name T p2]) X.env = (false, eval e X.env) :: starEach [.Name T p2] X.env := by rfl) :
    PE X (.Call (.Name "isinstance" p) [e, .Name T p2] [] pos) (tD X.K C (mOp1 (bIsi [k]) m)) :=
  pe_imp (pe_callB call_isEv1 hgI hm (by decide +kernel) (pa_cons he (pa_cons (pe_bltn (v := .ty (kName k)) hgT hT hv rfl hn hdb) pa_nil) hs) (by decide) (by decide) hs hpl) (by
    rintro σ H Q ⟨F, sd, Qd, R, h, kk⟩
    refine ⟨F, sd, _, R, h, fun x H1 F1 a sd1 R1 S1 rx h1 => ?_⟩
    obtain ⟨z, ez, q⟩ := h1
    cases ez
    obtain ⟨t, t1, t2⟩ := ty_rp R1.ext rx
    refine ⟨x, .ty (kName k), t, .type (kName k), [k].any fun k => isK k a, rfl, .ty _, t1, ?_, kk (.bl _) H1 F1 _ sd1 R1 S1 (.bl _) q⟩
    rw [t2]
    show some (isK k a) = some (isK k a || false)
    rw [Bool.or_false])
theorem vals_ki : ∀ ks : List Ki, Paired ClsV (ks.map fun k => V.ty (kName k)) (ks.map fun k => Value.type (kName k))
  | [] => .nil
  | _ :: ks => .cons (.ty _) (vals_ki ks)
/-- isinstance(x, (T1, T2, ..)) -/
theorem pd_isiT {p pos : Pos} {e tupE : Expr} {m : ME} (ks : List Ki) (hm : X.mg "isinstance" = none) (he : PE X e (tD X.K C m)) (ht : PE X tupE (fun σ H Q => ∀ q, H q = none → Q (.ref q) (upd H q (.tup (ks.map fun k => V.ty (kName k))))))
    (hgI : Gl X "isinstance" := by rfl) (hpl : (backTo pos (starEach [tupE] X.env)).any (·.1) = false := by rfl)
    (hs : starEach (e :: [tupE]) X.env = (false, eval e X.env) :: starEach [tupE] X.env := by rfl) (hs2 : starEach (tupE :: []) X.env = (false, eval tupE X.env) :: starEach [] X.env := by rfl) :
    PE X (.Call (.Name "isinstance" p) [e, tupE] [] pos) (tD X.K C (mOp1 (bIsi ks) m)) :=
  pe_imp (pe_callB call_isEvT hgI hm (by decide +kernel) (pa_cons he (pa_cons ht pa_nil hs2) hs) (by decide) (by decide) hs hpl) (by
    rintro σ H Q ⟨F, sd, Qd, R, h, kk⟩
    refine ⟨F, sd, _, R, h, fun x H1 F1 a sd1 R1 S1 rx h1 => fun q hq => ?_⟩
    obtain ⟨z, ez, qq⟩ := h1
    cases ez
    have R2 := R1.allocH (o := .tup (ks.map fun k => V.ty (kName k))) hq
    obtain ⟨t, t1, t2⟩ := ty_rp (fun b o e => same_new hq b o (R1.ext b o e)) rx
    refine ⟨x, q, _, t, _, _, rfl, upd_same, vals_ki ks, t1, kitAny_d a t2 ks, ?_⟩
    refine kk (.bl _) _ F1 _ sd1 R2 (S1.trans ⟨Same.refl _, fun b o e _ => same_new hq b o e, fun _ z => z, fun _ _ z => .inl z, fun b e => ?_⟩) (.bl _) qq
    by_cases zb : b = q
    · subst zb; exact hq
    · rw [upd_ne zb] at e; exact e)
theorem pe_types {es : List Expr} {x1} {pos : Pos} {vs : List V} (h : PA X es (fun _ H Q => Q vs H)) (hl : vs.length ≤ 100) : PE X (.Tuple es x1 pos) (fun σ H Q => ∀ q, H q = none → Q (.ref q) (upd H q (.tup vs))) :=
  pe_imp (pe_tup h) fun σ H Q q => ⟨Nat.le_trans hl (by decide), q⟩
theorem pa_types {es : List Expr} {T : Str} {p2 : Pos} {vs : List V} (k : Ki) (hT : X.mg T = none) (h : PA X es (fun _ H Q => Q vs H)) (hv : bootBuiltins T = some (.type (kName k)) := by decide +kernel) (hgT : Gl X T := by rfl) (hn : T ≠ "__name__" := by decide)
    (hdb : (T == ("__debug__" : Str)) = false := by decide) (hs : starEach (.Name T p2 :: es) X.env = (false, eval (.Name T p2) X.env) :: starEach es X.env := by rfl) : PA X (.Name T p2 :: es) (fun _ H Q => Q (V.ty (kName k) :: vs) H) :=
  pa_imp (pa_cons (pe_bltn (v := .ty (kName k)) hgT hT hv rfl hn hdb) h hs) fun σ H Q q => q
theorem pa_types0 : PA X [] (fun _ H Q => Q [] H) := pa_imp pa_nil fun σ H Q q => q
theorem cut_rpA {F : Hp} {vs : List V} {ds : List PyData} (r : RpA K F vs ds) (lo hi : Option Int) : RpA K F (cutV vs lo hi) (cutL ds lo hi) := by
  have e : ∀ o n d, HT.sIx n d o = DL.sIx n d o := fun o n d => by cases o <;> rfl
  unfold cutV cutL
  rw [r.length, e, e]
  exact (r.drop _).take _
abbrev rSlX (K : PySem.W.Frag) : V → Option Int → Option Int → Hp → VK → Prop := fun x lo hi H Q => (rSlL K x lo hi H Q ∨ rSlA K x lo hi H Q) ∨ rSlS x lo hi H Q
theorem sl_any : SlR X (rSlX X.K) := slR_or (slR_or sl_list sl_tupA) sl_str
theorem whole_cut {α : Type} (xs : List α) (lo hi : Option Int) (h : DL.sIx xs.length 0 lo = 0 ∧ DL.sIx xs.length xs.length hi = xs.length) : cutL xs lo hi = xs := by
  unfold cutL
  rw [h.1, h.2]
  simp
theorem rl_sl : ∀ (F H : Hp) (x : V) (a z : PyData) (lo hi : Option Int) (Q : VK), Same F H → (∀ p, H p = none → F p = none) → Rp K F x a → opSl a lo hi = some z → (∀ v F' H', Al F H F' H' → Rp K F' v z → Q v H') → rSlX K x lo hi H Q := by
  intro F H x a z lo hi Q e f rx h k
  have es : ∀ o n d, HT.sIx n d o = DL.sIx n d o := fun o n d => by cases o <;> rfl
  unfold opSl at h
  split at h
  · cases h
    cases rx with
    | lst h1 r1 => exact .inl (.inl ⟨_, _, rfl, .inl (.inl (e _ _ h1)), fun p hp => k _ _ _ (.new hp) (.lst upd_same ((cut_rpA r1 lo hi).mono (same_new (f p hp))))⟩)
  · cases h
    cases rx with
    | @tup a' xs ds h1 r1 =>
      refine .inl (.inr ⟨_, _, rfl, same_t e h1, fun hw => ?_, fun _ p hp => k _ _ _ (.new hp) (.tup (.inl (.inl upd_same)) ((cut_rpA r1 lo hi).mono (same_new (f p hp))))⟩)
      rw [r1.length, es, es] at hw
      rw [whole_cut _ lo hi hw] at k
      exact k _ F H .id (.tup h1 r1)
  · split at h
    · rename_i z' hl
      cases h
      cases rx
      refine .inr ⟨_, rfl, line_of hl, ?_⟩
      have : cutS z' lo hi = ⟨(cutL z'.cps.toList lo hi).toArray⟩ := by
        unfold cutS cutL
        rw [es, es]
        have : z'.cps.toList.length = z'.length := by simp [Str.length]
        rw [this]
      rw [this]
      exact k _ F H .id (.str _)
    · cases h
  · cases h
theorem hpart {me : ME} : ∀ σ H Q F sd Qd, Rs K C F H σ sd → mPart me sd Qd → (∀ o H' F' sd', Rs K C F' H' σ sd' → Stp σ sd F H F' H' sd' → Qd o sd' → Q o H') → tPart (tD K C me) σ H Q := by
  intro σ H Q F sd Qd R h k
  refine ⟨F, sd, _, R, h, fun v H' F' d sd' R' S r q => ?_⟩
  obtain ⟨i, rfl, q⟩ := q
  cases r
  exact ⟨i, rfl, k (some i) H' F' sd' R' S q⟩
theorem hnopart : ∀ σ H Q F sd Qd, Rs K C F H σ sd → mNoPart sd Qd → (∀ o H' F' sd', Rs K C F' H' σ sd' → Stp σ sd F H F' H' sd' → Qd o sd' → Q o H') → tNoPart σ H Q :=
  fun σ H Q F sd Qd R h k => k none H F sd R .refl h
/-- x[a:b] -/
theorem pd_sl2 {e lo hi : Expr} {p2 pos : Pos} {me ml mh : ME} (he : PE X e (tD X.K C me)) (hl : PE X lo (tD X.K C ml)) (hh : PE X hi (tD X.K C mh)) : PE X (.Subscript e (.Slice (some lo) (some hi) none p2) pos) (tD X.K C (mSl opSl me (mPart ml) (mPart mh))) :=
  pd_slice rl_sl hpart hpart (pe_slice sl_any he (po_some hl) (po_some hh))
theorem pd_slA {e lo : Expr} {p2 pos : Pos} {me ml : ME} (he : PE X e (tD X.K C me)) (hl : PE X lo (tD X.K C ml)) : PE X (.Subscript e (.Slice (some lo) none none p2) pos) (tD X.K C (mSl opSl me (mPart ml) mNoPart)) :=
  pd_slice rl_sl hpart hnopart (pe_slice sl_any he (po_some hl) po_none)
theorem pd_slB {e hi : Expr} {p2 pos : Pos} {me mh : ME} (he : PE X e (tD X.K C me)) (hh : PE X hi (tD X.K C mh)) : PE X (.Subscript e (.Slice none (some hi) none p2) pos) (tD X.K C (mSl opSl me mNoPart (mPart mh))) :=
  pd_slice rl_sl hnopart hpart (pe_slice sl_any he po_none (po_some hh))
end
end DL
namespace DL
open PySem PySem.Spec PyProof.Rows L2
section
variable {K : PySem.W.Frag} {X : Cx} {C : Ct}
theorem pdg_name {i : Nat} {x : Str} {pos : Pos} (hN : X.N.Nodup) (hi : X.N[i]? = some x) (hx : Loc X.env.scope x) (hf : X.fn x = true ∨ X.env.scope.names.lookup x = some .local := by first | exact .inl rfl | exact .inr rfl) :
    PG X (.Name x pos) (tDG X.K C (mgName i)) := pg_imp (pg_name hN hi hx hf) (by
  rintro v σ H Q ⟨F, sd, d, Qd, R, r, h, k⟩
  exact k _ _ (R.setva r) h)
theorem pdgs_nil : PGs X [] (tDGs X.K C mgNil) := pgs_imp pgs_nil (by
  rintro v σ H Q ⟨F, sd, ds, Qd, R, r, h, k⟩
  obtain ⟨e, h⟩ := h
  subst e
  cases r
  exact ⟨rfl, k _ _ R h⟩)
theorem pdgs_cons {e : Expr} {es : List Expr} {g : MG} {gs : MGs} (h1 : PG X e (tDG X.K C g)) (h2 : PGs X es (tDGs X.K C gs)) (t : PGs X (e :: es) (gCons (tDG X.K C g) (tDGs X.K C gs))) : PGs X (e :: es) (tDGs X.K C (mgCons g gs)) := pgs_imp t (by
  rintro v σ H Q ⟨F, sd, ds, Qd, R, r, h, k⟩
  obtain ⟨d, rest, e, h⟩ := h
  subst e
  cases r with
  | cons r1 r2 => exact ⟨_, _, rfl, F, sd, d, _, R, r1, h, fun σ' sd' R' q => ⟨F, sd', rest, Qd, R', r2, q, k⟩⟩)
theorem td_tup {n : Nat} {gs : MGs} : ∀ v σ H Q, tDG K C (mgTup n gs) v σ H Q → (gTup K n (tDGs K C gs) v σ H Q ∨ gLst K n (tDGs K C gs) v σ H Q) := by
  rintro v σ H Q ⟨F, sd, d, Qd, R, r, h, k⟩
  obtain ⟨ds, hd, hl, h⟩ := h
  cases r with
  | tup h1 r1 =>
    cases hd
    exact .inl ⟨_, _, rfl, same_t R.ext h1, by rw [r1.length]; exact hl, F, sd, _, Qd, R, r1, h, k⟩
  | lst h1 r1 =>
    cases hd
    exact .inr ⟨_, _, rfl, .inl (.inl (R.ext _ _ h1)), by rw [r1.length]; exact hl, F, sd, _, Qd, R, r1, h, k⟩
  | _ => cases hd
theorem pdg_tup {es : List Expr} {kk : Nat} {pos : Pos} {gs : MGs} {n : Nat} (hc : X.calm = true) (h : PGs X es (tDGs X.K C gs)) (hn : (assignEach es X.env).length = n := by rfl) (hst : (assignEach es X.env).findIdx? (·.1) = none := by rfl) :
    PG X (.Tuple es kk pos) (tDG X.K C (mgTup n gs)) := pg_imp (pg_or (pg_tup hc h hn hst) (pg_lst hc h hn hst)) td_tup
theorem rpA_at {F : Hp} {vs : List V} {ds : List PyData} {i : Nat} {x : V} (r : RpA K F vs ds) (h : vs[i]? = some x) : ∃ d, ds[i]? = some d ∧ Rp K F x d := by
  have hl := (List.getElem?_eq_some_iff.mp h).1
  rw [r.length] at hl
  obtain ⟨v, e, q⟩ := r.get (i := i) (d := ds[i]) (by simp [hl])
  rw [h] at e; cases e
  exact ⟨_, by simp [hl], q⟩
theorem wk_list {a : Addr} {xs : List V} {F : Hp} {ds : List PyData} (h : SqL K F a xs) (r : RpA K F xs ds) : Wk K (Itl K a) F ds := by
  refine ⟨_, _, r.length ▸ walk_list, fun H e => e.seq h, fun i H x H' F' hi e1 e2 y => ?_⟩
  obtain ⟨rfl, y⟩ := y
  obtain ⟨d, hd, q⟩ := rpA_at r y
  exact ⟨F', d, .id, hd, q.mono e1⟩
theorem wk_tup {a : Addr} {xs : List V} {F : Hp} {ds : List PyData} (h : SqT K F a xs) (r : RpA K F xs ds) : Wk K (Itt K a) F ds := by
  refine ⟨_, _, r.length ▸ walk_tup, fun H e => same_t e h, fun i H x H' F' hi e1 e2 y => ?_⟩
  obtain ⟨rfl, y⟩ := y
  obtain ⟨d, hd, q⟩ := rpA_at r y
  exact ⟨F', d, .id, hd, q.mono e1⟩
theorem pi_or {tg e : Expr} {t t' : TI} (h : PI X tg e t) (h' : PI X tg e t') : PI X tg e (fun σ H R => t σ H R ∨ t' σ H R) :=
  ⟨fun pins s σ H R I q => q.elim (h.run pins s σ H R I) (h'.run pins s σ H R I)⟩
/-- over a value that is a list or a tuple: the reading chooses when the value is there -/
def iSeq (K : PySem.W.Frag) (te : TE) : TI := fun σ H R => te σ H fun x H1 => ∃ a, x = .ref a ∧ (((∃ xs, SqL K H1 a xs) ∧ R (Itl K a) H1) ∨ ((∃ xs, SqT K H1 a xs) ∧ R (Itt K a) H1))
theorem pi_seq {tg l : Expr} {tl : TE} (hl : PE X l tl) : PI X tg l (iSeq X.K tl) := by
  refine ⟨fun pins s σ H R I h => thn (hl.run pins s σ H _ I h) fun v s1 hv => ?_⟩
  obtain ⟨x, H1, I1, r1, a, rfl, hq⟩ := hv
  cases r1
  have fresh : FpOk X pins H1 s1.heap.objs.size := I1.fpOk (Nat.le_refl _) (I1.hok.fresh (Nat.le_refl _))
  rcases hq with ⟨⟨xs, hq⟩, q⟩ | ⟨⟨xs, hq⟩, q⟩
  · obtain ⟨its, rv, p, hz⟩ := I1.list hq
    refine wpAny_pyIter_list p.isList ⟨_, [s1.heap.objs.size], _, _, H1, rfl, I1.kept (t' := s1.toks) fun _ _ e => Heap.get?_push_of_some _ e, turn_list a _, ?_, fun b hb => ?_, q⟩
    · exact ⟨_, Heap.get?_push_size _ rfl, rfl, rfl⟩
    · rw [List.mem_singleton.mp hb]; exact fresh
  · obtain ⟨its, rv, p, hz⟩ := I1.tuple hq
    refine wpAny_pyIter_tuple (show s1.heap.IsTuple a its.toArray from p) ⟨_, [s1.heap.objs.size], _, _, H1, rfl, I1.kept (t' := s1.toks) fun _ _ e => Heap.get?_push_of_some _ e, turn_tuple a _, ?_, fun b hb => ?_, q⟩
    · exact ⟨_, Heap.get?_push_size _ rfl, rfl, rfl⟩
    · rw [List.mem_singleton.mp hb]; exact fresh
theorem pdi_seq {tg e : Expr} {m : ME} (h : PE X e (tD X.K C m)) : PI X tg e (tDI X.K C (miSeq m)) := pi_imp (pi_seq h) (by
  rintro σ H R0 ⟨F, sd, Qd, R, h, k⟩
  refine ⟨F, sd, _, R, h, fun x H1 F1 a sd1 R1 S1 rx h1 => ?_⟩
  obtain ⟨ds, hd, q⟩ := h1
  cases rx with
  | tup h2 r2 => cases hd; exact ⟨_, rfl, .inr ⟨⟨_, same_t R1.ext h2⟩, k _ H1 F1 _ sd1 R1 S1 (wk_tup h2 r2) q⟩⟩
  | lst h2 r2 => cases hd; exact ⟨_, rfl, .inl ⟨⟨_, .inl (.inl (R1.ext _ _ h2))⟩, k _ H1 F1 _ sd1 R1 S1 (wk_list (.inl (.inl h2)) r2) q⟩⟩
  | _ => cases hd)
theorem wk_range {F : Hp} {lo : Int} {n : Nat} : Wk K (Itr lo n) F (rangeL lo n) := by
  have hl : (rangeL lo n).length = n := by simp [rangeL]
  refine ⟨fun _ => True, YFn fun i => .int (lo + i), by rw [hl]; exact walk_range, fun _ _ => trivial, fun i H x H' F' hi e1 e2 y => ?_⟩
  obtain ⟨rfl, rfl⟩ := y
  refine ⟨F', _, .id, ?_, .int _⟩
  unfold rangeL
  rw [List.getElem?_map, List.getElem?_range (by rw [hl] at hi; exact hi)]
  rfl
theorem pdi_range1 {tg a : Expr} {p pos : Pos} {m : MA} (hm : X.mg "range" = none) (h : PA X [a] (tDA X.K C m)) (hg : Gl X "range" := by rfl) (t : PI X tg (.Call (.Name "range" p) [a] [] pos) (iRng1 (tDA X.K C m))) : PI X tg (.Call (.Name "range" p) [a] [] pos) (tDI X.K C (miRng1 m)) := pi_imp t (by
  rintro σ H R0 ⟨F, sd, Qd, R, h, k⟩
  refine ⟨F, sd, _, R, h, fun vs H1 F1 ds sd1 R1 S1 rs q => ?_⟩
  obtain ⟨j, rfl, l1, l2, q⟩ := q
  obtain ⟨x, rfl, r⟩ := rpA1 rs
  cases r
  exact ⟨j, rfl, l1, l2, k _ H1 F1 _ sd1 R1 S1 wk_range q⟩)
theorem pdi_range2 {tg a b : Expr} {p pos : Pos} {m : MA} (hm : X.mg "range" = none) (h : PA X [a, b] (tDA X.K C m)) (hg : Gl X "range" := by rfl) (t : PI X tg (.Call (.Name "range" p) [a, b] [] pos) (iRng2 (tDA X.K C m))) : PI X tg (.Call (.Name "range" p) [a, b] [] pos) (tDI X.K C (miRng2 m)) := pi_imp t (by
  rintro σ H R0 ⟨F, sd, Qd, R, h, k⟩
  refine ⟨F, sd, _, R, h, fun vs H1 F1 ds sd1 R1 S1 rs q => ?_⟩
  obtain ⟨i, j, rfl, l, q⟩ := q
  obtain ⟨x, y, rfl, r, r'⟩ := rpA2 rs
  cases r; cases r'
  exact ⟨i, j, rfl, l, k _ H1 F1 _ sd1 R1 S1 wk_range q⟩)
theorem pdi_str {tg e : Expr} {m : ME} (h : PE X e (tD X.K C m)) : PI X tg e (tDI X.K C (miStr m)) := pi_imp (pi_str h) (by
  rintro σ H R0 ⟨F, sd, Qd, R, h, k⟩
  refine ⟨F, sd, _, R, h, fun x H1 F1 a sd1 R1 S1 rx h1 => ?_⟩
  obtain ⟨z, rfl, q⟩ := h1
  cases rx
  refine ⟨z, rfl, k _ H1 F1 _ sd1 R1 S1 ?_ q⟩
  have hl : (signsD z).length = z.cps.size := by simp [signsD]
  refine ⟨fun _ => True, fun i H v H' => H' = H ∧ ∃ c, z.cps[i]? = some c ∧ v = .str ⟨#[c]⟩, by rw [hl]; exact walk_str, fun _ _ => trivial, fun i H x H' F' hi e1 e2 y => ?_⟩
  obtain ⟨rfl, c, hc, rfl⟩ := y
  refine ⟨F', _, .id, ?_, .str _⟩
  unfold signsD
  rw [List.getElem?_map, Array.getElem?_toList, hc]
  rfl)
theorem enumL_get : ∀ (ds : List PyData) (k i : Nat), (enumL k ds)[i]? = ds[i]?.map fun d => .tuple [.int ((k + i : Nat) : Int), d]
  | [], _, _ => rfl
  | d :: ds, k, 0 => rfl
  | d :: ds, k, i + 1 => by
    show (enumL (k + 1) ds)[i]? = _
    rw [enumL_get ds (k + 1) i, show k + 1 + i = k + (i + 1) by omega]
    rfl
theorem pair_al {F H H' : Hp} {T : Addr} {x y : V} {d e : PyData} (hT : H T = none) (e2 : Same F H) (hH : H' = upd H T (.tup [x, y])) (r1 : Rp K F x d) (r2 : Rp K F y e) : ∃ F', Al F H F' H' ∧ Rp K F' (.ref T) (.tuple [d, e]) := by
  subst hH
  have s := same_new (o := .tup [x, y]) (free_of e2 hT)
  exact ⟨_, .new hT, .tup (.inl (.inl upd_same)) (.cons (r1.mono s) (.cons (r2.mono s) .nil))⟩
theorem pdi_enum {elts : List Expr} {kk : Nat} {tpos : Pos} {e : Expr} {p pos : Pos} {m : MA} (t : PI X (.Tuple elts kk tpos) (.Call (.Name "enumerate" p) [e] [] pos) (iEnum X.K (tDA X.K C m))) :
    PI X (.Tuple elts kk tpos) (.Call (.Name "enumerate" p) [e] [] pos) (tDI X.K C (miEnum m)) := pi_imp t (by
  rintro σ H R0 ⟨F, sd, Qd, R, h, k⟩
  refine ⟨F, sd, _, R, h, fun vs H1 F1 ds sd1 R1 S1 rs q => ?_⟩
  obtain ⟨xs, rfl, q⟩ := q
  obtain ⟨x, rfl, r⟩ := rpA1 rs
  cases r with
  | @lst a ys _ h2 r2 =>
    refine ⟨_, _, rfl, .inl (.inl (R1.ext _ _ h2)), k _ H1 F1 _ sd1 R1 S1 ?_ q⟩
    have hl : (enumL 0 xs).length = ys.length := by
      rw [r2.length]
      have : ∀ (l : List PyData) n, (enumL n l).length = l.length := fun l => by
        induction l with
        | nil => intro _; rfl
        | cons d l ih => intro n; simp [enumL, ih]
      exact this xs 0
    refine ⟨fun H => SqL X.K H a ys, YPair (fun i => some (.int (i : Nat))) (fun i => ys[i]?), by rw [hl]; exact walk_enum, fun H e => .inl (.inl (e _ _ h2)), fun i H x H' F' hi e1 e2 y => ?_⟩
    obtain ⟨T, x1, x2, rfl, hT, hH, y1, y2⟩ := y
    cases y1
    obtain ⟨d, hd, rd⟩ := rpA_at r2 y2
    obtain ⟨F2, al, rr⟩ := pair_al hT e2 hH (.int (i : Int)) (rd.mono e1)
    refine ⟨F2, _, al, ?_, rr⟩
    rw [enumL_get, hd]
    simp)
theorem zipL_get : ∀ (xs ys : List PyData) (i : Nat) {x y : PyData}, xs[i]? = some x → ys[i]? = some y → (zipL xs ys)[i]? = some (.tuple [x, y])
  | x :: xs, y :: ys, 0, _, _, h1, h2 => by cases h1; cases h2; rfl
  | x :: xs, y :: ys, i + 1, _, _, h1, h2 => zipL_get xs ys i h1 h2
  | [], _, _, _, _, h1, _ => by simp at h1
  | _ :: _, [], _, _, _, _, h2 => by simp at h2
theorem zipL_len : ∀ (xs ys : List PyData), (zipL xs ys).length = min xs.length ys.length
  | x :: xs, y :: ys => by simp [zipL, zipL_len xs ys]
  | [], _ => by simp [zipL]
  | _ :: _, [] => by simp [zipL]
theorem walk_zipT {a b : Addr} {xs ys : List V} : Walk (RZ.ItzT K a b) (min xs.length ys.length) (fun H => SqT K H a xs ∧ SqT K H b ys) (YPair (fun i => xs[i]?) (fun i => ys[i]?)) := by
  refine ⟨fun i _ hi q => ?_, fun _ q => ⟨xs, ys, q.1, q.2, by omega⟩, fun i H v H' _ q y => ?_⟩
  · exact ⟨xs, ys, xs[i]'(by omega), ys[i]'(by omega), q.1, q.2, by simp [show i < xs.length by omega], by simp [show i < ys.length by omega]⟩
  · obtain ⟨T, x, z, h1, h2, h3, h4, h5⟩ := y
    exact ⟨T, x, z, h1, h2, h3, h4 xs q.1, h5 ys q.2⟩
theorem wk_pairs {J : It} {F : Hp} {xs ys : List V} {ds es : List PyData} {G : Hp → Prop} (hG : ∀ H, Same F H → G H) (w : Walk J (min xs.length ys.length) G (YPair (fun i => xs[i]?) (fun i => ys[i]?))) (r1 : RpA K F xs ds) (r2 : RpA K F ys es) : Wk K J F (zipL ds es) := by
  have hl : (zipL ds es).length = min xs.length ys.length := by rw [zipL_len, r1.length, r2.length]
  refine ⟨G, YPair (fun i => xs[i]?) (fun i => ys[i]?), by rw [hl]; exact w, hG, fun i H x H' F' hi e1 e2 y => ?_⟩
  obtain ⟨T, x1, x2, rfl, hT, hH, y1, y2⟩ := y
  obtain ⟨d, hd, rd⟩ := rpA_at r1 y1
  obtain ⟨e, he, re⟩ := rpA_at r2 y2
  obtain ⟨F2, al, rr⟩ := pair_al hT e2 hH (rd.mono e1) (re.mono e1)
  exact ⟨F2, _, al, zipL_get ds es i hd he, rr⟩
theorem pdi_zip {elts : List Expr} {kk : Nat} {tpos : Pos} {e e2 : Expr} {p pos : Pos} {m : MA} (t : PI X (.Tuple elts kk tpos) (.Call (.Name "zip" p) [e, e2] [] pos) (RZ.iZipA X.K (tDA X.K C m))) :
    PI X (.Tuple elts kk tpos) (.Call (.Name "zip" p) [e, e2] [] pos) (tDI X.K C (miZip m)) := pi_imp t (by
  rintro σ H R0 ⟨F, sd, Qd, R, h, k⟩
  refine ⟨F, sd, _, R, h, fun vs H1 F1 ds sd1 R1 S1 rs q => ?_⟩
  obtain ⟨xs, ys, hd, q⟩ := q
  rcases hd with rfl | rfl
  · obtain ⟨x, y, rfl, r, r'⟩ := rpA2 rs
    cases r with
    | lst h2 r2 =>
      cases r' with
      | lst h3 r3 => exact ⟨_, _, _, _, rfl, .inl ⟨.inl (.inl (R1.ext _ _ h2)), .inl (.inl (R1.ext _ _ h3)), k _ H1 F1 _ sd1 R1 S1 (wk_pairs (fun H e => ⟨.inl (.inl (e _ _ h2)), .inl (.inl (e _ _ h3))⟩) (walk_zip rfl) r2 r3) q⟩⟩
  · obtain ⟨x, y, rfl, r, r'⟩ := rpA2 rs
    cases r with
    | tup h2 r2 =>
      cases r' with
      | tup h3 r3 => exact ⟨_, _, _, _, rfl, .inr ⟨same_t R1.ext h2, same_t R1.ext h3, k _ H1 F1 _ sd1 R1 S1 (wk_pairs (fun H e => ⟨same_t e h2, same_t e h3⟩) walk_zipT r2 r3) q⟩⟩)
theorem pds_nil : PSs X [] (tDS X.K C mNext) := pss_imp pss_nil (by
  rintro D σ H ⟨F, sd, Dd, R, E, h⟩
  exact E.nx F H σ sd (Same.refl _) R h)
theorem pds_cons {st : Stmt} {rest : List Stmt} {a b : MS} (h1 : PS X st (tDS X.K C a)) (h2 : PSs X rest (tDS X.K C b)) : PSs X (st :: rest) (tDS X.K C (mSeq a b)) := pss_imp (pss_cons h1 h2) (by
  rintro D σ H ⟨F, sd, Dd, R, E, h⟩
  exact ⟨F, sd, { Dd with nx := b Dd }, R, ⟨fun F1 H1 σ1 sd1 e R1 q => ⟨F1, sd1, Dd, R1, E.mono e, q⟩, E.rt, E.bk, E.ct⟩, h⟩)
theorem pds_one {st : Stmt} {a : MS} (h : PS X st (tDS X.K C a)) : PSs X [st] (tDS X.K C a) := pss_one h
theorem pds_pass {pos : Pos} : PS X (.Pass pos) (tDS X.K C mNext) := ps_imp ps_pass (by
  rintro D σ H ⟨F, sd, Dd, R, E, h⟩
  exact E.nx F H σ sd (Same.refl _) R h)
theorem pds_break {pos : Pos} : PS X (.Break pos) (tDS X.K C mBreak) := ps_imp ps_break (by
  rintro D σ H ⟨F, sd, Dd, R, E, h⟩
  exact E.bk F H σ sd (Same.refl _) R h)
theorem pds_cont {pos : Pos} : PS X (.Continue pos) (tDS X.K C mCont) := ps_imp ps_continue (by
  rintro D σ H ⟨F, sd, Dd, R, E, h⟩
  exact E.ct F H σ sd (Same.refl _) R h)
theorem td_asg {me : ME} {mg : MG} : ∀ D σ H, tDS K C (mAsg me mg) D σ H → tAsg (tD K C me) (tDG K C mg) D σ H := by
  rintro D σ H ⟨F, sd, Dd, R, E, h⟩
  exact ⟨F, sd, _, R, h, fun v H1 F1 d sd1 R1 S1 r q => ⟨F1, sd1, d, Dd.nx, R1, r, q, fun σ2 sd2 R2 q2 => E.nx F1 H1 σ2 sd2 S1.fr R2 q2⟩⟩
theorem pds_asg {tg e : Expr} {pos : Pos} {me : ME} {mg : MG} (t : PS X (.Assign [tg] e pos) (tAsg (tD X.K C me) (tDG X.K C mg))) : PS X (.Assign [tg] e pos) (tDS X.K C (mAsg me mg)) := ps_imp t td_asg
theorem td_asgR {i : Nat} {mr : MR} : ∀ D σ H, tDS K C (mAsgR i mr) D σ H → tAsg (tDR K C mr) (gName i) D σ H := by
  rintro D σ H ⟨F, sd, Dd, R, E, h⟩
  exact ⟨F, sd, _, R, h, fun v H1 F1 r sd1 R1 S1 rv fre new q => E.nx F1 H1 _ _ S1.fr (R1.setr rv fre) q⟩
theorem pds_asgR {tg e : Expr} {pos : Pos} {i : Nat} {mr : MR} (t : PS X (.Assign [tg] e pos) (tAsg (tDR X.K C mr) (gName i))) : PS X (.Assign [tg] e pos) (tDS X.K C (mAsgR i mr)) := ps_imp t td_asgR
theorem pds_if {c : Expr} {a b : List Stmt} {t : MT} {ma mb : MS} {pos : Pos} (hc : PT X c (tDT X.K C t)) (ha : PSs X a (tDS X.K C ma)) (hb : PSs X b (tDS X.K C mb)) : PS X (.If c a b pos) (tDS X.K C (mIf t ma mb)) := ps_imp (ps_if hc ha hb) (by
  rintro D σ H ⟨F, sd, Dd, R, E, h⟩
  refine ⟨F, sd, _, R, h, fun b H1 F1 sd1 R1 S1 q => ?_⟩
  cases b with
  | true => exact ⟨F1, sd1, Dd, R1, E.mono S1.fr, q⟩
  | false => exact ⟨F1, sd1, Dd, R1, E.mono S1.fr, q⟩)
theorem pds_ret {e : Expr} {mr : MR} {pos : Pos} (he : PE X e (tDR X.K C mr)) : PS X (.Return (some e) pos) (tDS X.K C (mRet mr)) := ps_imp (ps_ret he) (by
  rintro D σ H ⟨F, sd, Dd, R, E, h⟩
  exact ⟨F, sd, _, R, h, fun v H1 F1 r sd1 R1 S1 rv fre new q => E.rt F1 H1 σ sd1 v r S1.fr R1 rv (fun o q' e => R.still q' (new o q' e)) q⟩)
theorem pds_retN {pos : Pos} : PS X (.Return none pos) (tDS X.K C mRetN) := ps_imp ps_retN (by
  rintro D σ H ⟨F, sd, Dd, R, E, h⟩
  exact E.rt F H σ sd .non (.va .none) (Same.refl _) R ⟨_, rfl, .non⟩ (fun z => nomatch z) h)
theorem pds_drop {e : Expr} {me : ME} {pos : Pos} (he : PE X e (tD X.K C me)) (hs : swapsWith e none pos.line X.env = pure false := by rfl) : PS X (.Expr e pos) (tDS X.K C (mDrop me)) := ps_imp (ps_expr he hs) (by
  rintro D σ H ⟨F, sd, Dd, R, E, h⟩
  exact ⟨F, sd, _, R, h, fun v H1 F1 d sd1 R1 S1 r q => E.nx F1 H1 σ sd1 S1.fr R1 q⟩)
theorem pds_doc {x j pos pos'} : PS X (.Expr (.Constant (.str x) j pos) pos') (tDS X.K C mNext) := ps_imp ps_doc (by
  rintro D σ H ⟨F, sd, Dd, R, E, h⟩
  exact E.nx F H σ sd (Same.refl _) R h)
theorem Rs.setOwn {F H : Hp} {σ : L2.St} {sd : DSt} (R : Rs K C F H σ sd) {i : Nat} {ds ds' : List PyData} {p : Addr} {vs' : List V} (h : sget sd i = .own ds) (e : gv σ i = some (.ref p)) (r : RpA K F vs' ds') : Rs K C F (upd H p (.lst vs')) σ (sset sd i (.own ds')) := by
  have hi := R.slot i
  rw [h] at hi
  obtain ⟨p', vs, e1, e2, e3, e4, r0⟩ := hi
  rw [e] at e1; cases e1
  have hl : i < sd.length := R.lt_of_own (by rw [h]; intro z; cases z)
  have other : ∀ j q, j ≠ i → isOwn (sget sd j) = true → gv σ j = some (.ref q) → q ≠ p := fun j q hj ho eq z => by
    subst z
    exact R.sep i j q (Ne.symm hj) (by rw [h]; rfl) ho e eq
  refine ⟨by rw [sset_length]; exact R.len, R.grow, fun a x q => ?_, R.new, fun a x q n => ?_, fun a q => ?_, fun j => ?_, fun j k q hjk o1 o2 z1 => ?_⟩
  · have : a ≠ p := fun z => by subst z; rw [e3] at q; cases q
    rw [upd_ne this]; exact R.ext a x q
  · have : a ≠ p := fun z => by subst z; rw [e4] at q; cases q
    rw [upd_ne this]; exact R.keep a x q n
  · by_cases z : a = p
    · subst z; exact e4
    · rw [upd_ne z] at q; exact R.still a q
  · by_cases hj : j = i
    · subst hj; rw [sget_sset hl]; exact ⟨p, vs', e, upd_same, e3, e4, r⟩
    · rw [sget_sset_ne hj]
      exact (R.slot j).grow (Same.refl _) fun q x ho eq eh en => ⟨by rw [upd_ne (other j q hj ho eq)]; exact eh, en⟩
  · have own_of : ∀ m, isOwn (sget (sset sd i (.own ds')) m) = true → isOwn (sget sd m) = true := fun m o => by
      by_cases hm : m = i
      · subst hm; rw [h]; rfl
      · rw [sget_sset_ne hm] at o; exact o
    exact R.sep j k q hjk (own_of j o1) (own_of k o2) z1
/-- x.append(e), x a slot that owns its list -/
theorem pds_app {i : Nat} {x : Str} {p apos cpos pos : Pos} {e : Expr} {me : ME}
    (t : PS X (.Expr (.Call (.Attribute (.Name x p) "append" apos) [e] [] cpos) pos) (tDrop (tBM X.K "list" rAppend (tVar i) (tCons (tD X.K C me) tNil)))) :
    PS X (.Expr (.Call (.Attribute (.Name x p) "append" apos) [e] [] cpos) pos) (tDS X.K C (mApp i me)) := ps_imp t (by
  rintro D σ H ⟨F, sd, Dd, R, E, ⟨ds0, h0⟩, h⟩
  have hi := R.slot i
  rw [h0] at hi
  obtain ⟨q, vs, e1, e2, e3, e4, r⟩ := hi
  refine ⟨.ref q, gv_some.mp e1, .inl ⟨rfl, vs, .inl (.inl e2)⟩, F, sd, _, R, h, fun v H1 F1 d sd1 R1 S1 rv hh => ?_⟩
  obtain ⟨ds, h1, hlen, hnx⟩ := hh
  have hi1 := R1.slot i
  rw [h1] at hi1
  obtain ⟨q', vs1, z1, z2, z3, z4, r1⟩ := hi1
  rw [e1] at z1; cases z1
  refine ⟨q, vs1, v, rfl, rfl, z2, by rw [r1.length]; exact line_lt hlen, ?_⟩
  exact E.nx F1 _ σ _ S1.fr (R1.setOwn h1 e1 (r1.snoc rv)) hnx)
theorem drop_get {α : Type} {l : List α} {i : Nat} {d : α} (h : l[i]? = some d) : l.drop i = d :: l.drop (i + 1) := by
  have hi := (List.getElem?_eq_some_iff.mp h).1
  rw [List.drop_eq_getElem_cons hi, (List.getElem?_eq_some_iff.mp h).2]
theorem td_for {mi : MI} {mg : MG} {body : MS} : ∀ D σ H, tDS K C (mFor mi mg body) D σ H → tFor (tDI K C mi) (tDG K C mg) (tDS K C body) D σ H := by
  rintro D σ H ⟨F, sd, Dd, R, E, h⟩
  refine ⟨F, sd, _, R, h, fun J H1 F1 ds sd1 R1 S1 W h1 => ?_⟩
  obtain ⟨G, Y, w, hG, hY⟩ := W.ex
  refine for_it w (fun i σ' H' => ∃ F' sd', Rs K C F' H' σ' sd' ∧ Same F1 F' ∧ forL mg body Dd (ds.drop i) sd') ⟨F1, sd1, R1, Same.refl _, h1⟩ (fun i σ' H' _ ⟨F', sd', R', e, _⟩ => hG H' (e.trans R'.ext)) (fun i x σ' H' H'' hi ⟨F', sd', R', e, q⟩ y => ?_) (fun σ' H' ⟨F', sd', R', e, q⟩ => ?_)
  · obtain ⟨F2, d, al, hd, rd⟩ := hY i H' x H'' F' hi e R'.ext y
    rw [drop_get hd] at q
    have s2 : Same F1 F2 := e.trans (Stp.al R' al).fr
    refine ⟨F2, sd', d, _, R'.al al, rd, q, fun σ2 sd2 R2 q2 => ⟨F2, sd2, _, R2, ?_, q2⟩⟩
    exact ⟨fun F3 H3 σ3 sd3 e3 R3 q3 => ⟨F3, sd3, R3, s2.trans e3, q3⟩, (E.mono (S1.fr.trans s2)).rt, fun F3 H3 σ3 sd3 e3 R3 q3 => E.nx F3 H3 σ3 sd3 ((S1.fr.trans s2).trans e3) R3 q3, fun F3 H3 σ3 sd3 e3 R3 q3 => ⟨F3, sd3, R3, s2.trans e3, q3⟩⟩
  · rw [List.drop_length] at q
    exact E.nx F' H' σ' sd' (S1.fr.trans e) R' q
theorem pds_for {tg iter : Expr} {body : List Stmt} {pos : Pos} {mi : MI} {mg : MG} {mb : MS} (t : PS X (.For tg iter body [] pos) (tFor (tDI X.K C mi) (tDG X.K C mg) (tDS X.K C mb))) : PS X (.For tg iter body [] pos) (tDS X.K C (mFor mi mg mb)) := ps_imp t td_for
theorem td_while {mt : MT} {body : MS} : ∀ D σ H, tDS K C (mWhile mt body) D σ H → tWhile (tDT K C mt) (tDS K C body) D σ H := by
  rintro D σ H ⟨F, sd, Dd, R, E, n, h⟩
  refine ⟨fun m σ' H' => ∃ F' sd', Rs K C F' H' σ' sd' ∧ Same F F' ∧ whileN mt body Dd m sd', ⟨n, F, sd, R, Same.refl _, h⟩, fun m σ' H' hw => ?_⟩
  obtain ⟨F', sd', R', e, q⟩ := hw
  cases m with
  | zero => exact q.elim
  | succ m =>
    refine ⟨F', sd', _, R', q, fun b H1 F1 sd1 R1 S1 q1 => ?_⟩
    have s1 := e.trans S1.fr
    cases b with
    | true =>
      refine ⟨fun σ2 H2 => ∃ F2 sd2, Rs K C F2 H2 σ2 sd2 ∧ Same F F2 ∧ whileN mt body Dd m sd2, fun σ2 H2 z => ⟨m, Nat.lt_succ_self m, z⟩, F1, sd1, _, R1, ?_, q1⟩
      exact ⟨fun F3 H3 σ3 sd3 e3 R3 q3 => ⟨F3, sd3, R3, s1.trans e3, q3⟩, (E.mono s1).rt, fun F3 H3 σ3 sd3 e3 R3 q3 => E.nx F3 H3 σ3 sd3 (s1.trans e3) R3 q3, fun F3 H3 σ3 sd3 e3 R3 q3 => ⟨F3, sd3, R3, s1.trans e3, q3⟩⟩
    | false => exact E.nx F1 H1 σ' sd1 s1 R1 q1
theorem pds_while {c : Expr} {body : List Stmt} {pos : Pos} {mt : MT} {mb : MS} (t : PS X (.While c body [] pos) (tWhile (tDT X.K C mt) (tDS X.K C mb))) : PS X (.While c body [] pos) (tDS X.K C (mWhile mt mb)) := ps_imp t td_while
end
end DL
namespace DL
open PySem PySem.Spec PyProof.Rows L2
section
variable {K : PySem.W.Frag} {X : Cx} {C : Ct}
theorem rs_wipe {F H : Hp} {σ : L2.St} {sd : DSt} (R : Rs K C F H σ sd) : ∀ vs : List Nat, Rs K C F H (wipe σ vs) (swipe sd vs)
  | [] => R
  | v :: vs => (rs_wipe R vs).setno
theorem sget_swipe : ∀ {sd : DSt} {vs : List Nat} {i : Nat}, i ∉ vs → sget (swipe sd vs) i = sget sd i
  | _, [], _, _ => rfl
  | sd, v :: vs, i, h => by
    show sget (sset (swipe sd vs) v .no) i = _
    rw [sget_sset_ne (fun z => h (by simp [z]))]
    exact sget_swipe fun z => h (by simp [z])
theorem sget_sback : ∀ {s0 sd : DSt} {vs : List Nat} {i : Nat}, i ∉ vs → sget (sback s0 sd vs) i = sget sd i
  | _, _, [], _, _ => rfl
  | s0, sd, v :: vs, i, h => by
    show sget (sset (sback s0 sd vs) v _) i = _
    rw [sget_sset_ne (fun z => h (by simp [z]))]
    exact sget_sback fun z => h (by simp [z])
theorem sback_length : ∀ {s0 sd : DSt} {vs : List Nat}, (sback s0 sd vs).length = sd.length
  | _, _, [] => rfl
  | s0, sd, v :: vs => by show (sset (sback s0 sd vs) v _).length = _; rw [sset_length]; exact sback_length
theorem swipe_length : ∀ {sd : DSt} {vs : List Nat}, (swipe sd vs).length = sd.length
  | _, [] => rfl
  | sd, v :: vs => by show (sset (swipe sd vs) v _).length = _; rw [sset_length]; exact swipe_length
theorem gv_wipe : ∀ {σ : L2.St} {vs : List Nat} {i : Nat}, i ∉ vs → gv (wipe σ vs) i = gv σ i
  | _, [], _, _ => rfl
  | σ, v :: vs, i, h => by
    show gv ((wipe σ vs).set v none) i = _
    rw [gv_set_ne (fun z => h (by simp [z]))]
    exact gv_wipe fun z => h (by simp [z])
theorem sget_sback_in : ∀ {s0 sd : DSt} {vs : List Nat} {i : Nat}, i ∈ vs → sd.length = s0.length → sget (sback s0 sd vs) i = sget s0 i
  | s0, sd, v :: vs, i, h, hl => by
    show sget (sset (sback s0 sd vs) v (sget s0 v)) i = _
    by_cases hv : i = v
    · subst hv
      by_cases hi : i < s0.length
      · rw [sget_sset (by rw [sback_length, hl]; exact hi)]
      · rw [sget_out (by rw [sset_length, sback_length, hl]; omega), sget_out (by omega)]
    · rw [sget_sset_ne hv]
      exact sget_sback_in (by simpa [hv] using h) hl
theorem unOwn_of {s : DSt} {vs : List Nat} (h : unOwn s vs = true) {j : Nat} (hj : j ∈ vs) : isOwn (sget s j) = false := by
  unfold unOwn at h
  have := List.all_eq_true.mp h j hj
  cases e : sget s j <;> rw [e] at this <;> first | rfl | cases this
/-- targets within a comprehension: only its own slots change -/
def tDGv (K : PySem.W.Frag) (C : Ct) (vs : List Nat) (m : MG) : TG := fun v σ H Q => ∃ F sd d Qd, Rs K C F H σ sd ∧ Rp K F v d ∧ m d sd Qd ∧ ∀ σ' sd', Rs K C F H σ' sd' → wipe σ' vs = wipe σ vs → (∀ a, Owned σ' sd' a → Owned σ sd a) → Qd sd' → Q σ' H
def tDGsv (K : PySem.W.Frag) (C : Ct) (vs : List Nat) (m : MGs) : TGs := fun v σ H Q => ∃ F sd d Qd, Rs K C F H σ sd ∧ RpA K F v d ∧ m d sd Qd ∧ ∀ σ' sd', Rs K C F H σ' sd' → wipe σ' vs = wipe σ vs → (∀ a, Owned σ' sd' a → Owned σ sd a) → Qd sd' → Q σ' H
theorem wipe_set {σ : L2.St} {x : Option V} : ∀ {vs : List Nat} {i : Nat}, i ∈ vs → wipe (σ.set i x) vs = wipe σ vs
  | v :: vs, i, h => by
    show (wipe (σ.set i x) vs).set v none = (wipe σ vs).set v none
    by_cases hi : i ∈ vs
    · rw [wipe_set hi]
    · have hv : i = v := by simpa [hi] using h
      subst hv
      have comm : ∀ (ws : List Nat), i ∉ ws → wipe (σ.set i x) ws = (wipe σ ws).set i x := by
        intro ws
        induction ws with
        | nil => intro _; rfl
        | cons w ws ih =>
          intro hn
          show (wipe (σ.set i x) ws).set w none = ((wipe σ ws).set w none).set i x
          rw [ih (fun z => hn (by simp [z])), List.set_comm _ _ (show i ≠ w from fun z => hn (by simp [z]))]
      rw [comm vs hi, List.set_set]
theorem pdgv_name {vs : List Nat} {i : Nat} {x : Str} {pos : Pos} (hv : i ∈ vs) (h : PG X (.Name x pos) (gName i)) : PG X (.Name x pos) (tDGv X.K C vs (mgName i)) := pg_imp h (by
  rintro v σ H Q ⟨F, sd, d, Qd, R, r, h, k⟩
  refine k _ _ (R.setva r) (wipe_set hv) (fun a ⟨j, o, e⟩ => ?_) h
  by_cases hj : j = i
  · subst hj
    by_cases hl : j < sd.length
    · rw [sget_sset hl] at o; cases o
    · rw [sget_out (by rw [sset_length]; omega)] at o; cases o
  · rw [sget_sset_ne hj] at o; rw [gv_set_ne hj] at e; exact ⟨j, o, e⟩)
theorem pdgsv_nil {vs : List Nat} : PGs X [] (tDGsv X.K C vs mgNil) := pgs_imp pgs_nil (by
  rintro v σ H Q ⟨F, sd, ds, Qd, R, r, h, k⟩
  obtain ⟨e, h⟩ := h
  subst e
  cases r
  exact ⟨rfl, k _ _ R rfl (fun _ h => h) h⟩)
theorem pdgsv_cons {vs : List Nat} {e : Expr} {es : List Expr} {g : MG} {gs : MGs} (t : PGs X (e :: es) (gCons (tDGv X.K C vs g) (tDGsv X.K C vs gs))) : PGs X (e :: es) (tDGsv X.K C vs (mgCons g gs)) := pgs_imp t (by
  rintro v σ H Q ⟨F, sd, ds, Qd, R, r, h, k⟩
  obtain ⟨d, rest, e, h⟩ := h
  subst e
  cases r with
  | cons r1 r2 => exact ⟨_, _, rfl, F, sd, d, _, R, r1, h, fun σ' sd' R' w o q => ⟨F, sd', rest, Qd, R', r2, q, fun σ2 sd2 R2 w2 o2 q2 => k σ2 sd2 R2 (w2.trans w) (fun a z => o a (o2 a z)) q2⟩⟩)
theorem pdgv_tup {vs : List Nat} {es : List Expr} {kk : Nat} {pos : Pos} {gs : MGs} {n : Nat} (hc : X.calm = true) (h : PGs X es (tDGsv X.K C vs gs)) (hn : (assignEach es X.env).length = n := by rfl) (hst : (assignEach es X.env).findIdx? (·.1) = none := by rfl) :
    PG X (.Tuple es kk pos) (tDGv X.K C vs (mgTup n gs)) := pg_imp (pg_or (pg_tup hc h hn hst) (pg_lst hc h hn hst)) (by
  rintro v σ H Q ⟨F, sd, d, Qd, R, r, h, k⟩
  obtain ⟨ds, hd, hl, h⟩ := h
  cases r with
  | tup h1 r1 =>
    cases hd
    exact .inl ⟨_, _, rfl, same_t R.ext h1, by rw [r1.length]; exact hl, F, sd, _, Qd, R, r1, h, k⟩
  | lst h1 r1 =>
    cases hd
    exact .inr ⟨_, _, rfl, .inl (.inl (R.ext _ _ h1)), by rw [r1.length]; exact hl, F, sd, _, Qd, R, r1, h, k⟩
  | _ => cases hd)
theorem wipe_comm {σ : L2.St} {x : Option V} {i : Nat} : ∀ (ws : List Nat), i ∉ ws → wipe (σ.set i x) ws = (wipe σ ws).set i x
  | [], _ => rfl
  | w :: ws, hn => by
    show (wipe (σ.set i x) ws).set w none = ((wipe σ ws).set w none).set i x
    rw [wipe_comm ws (fun z => hn (by simp [z])), List.set_comm _ _ (show i ≠ w from fun z => hn (by simp [z]))]
theorem wipe_wipe {σ : L2.St} : ∀ vs : List Nat, wipe (wipe σ vs) vs = wipe σ vs
  | [] => rfl
  | v :: vs => by
    show (wipe ((wipe σ vs).set v none) vs).set v none = (wipe σ vs).set v none
    by_cases hv : v ∈ vs
    · rw [wipe_set hv, wipe_wipe vs]
    · rw [wipe_comm vs hv, wipe_wipe vs, List.set_set]
/-- an object that nobody knows is written -/
theorem Rs.updH {F H : Hp} {σ : L2.St} {sd : DSt} {p : Addr} {o : HO} (R : Rs K C F H σ sd) (hF : F p = none) (ho : ¬ Owned σ sd p) (h0 : C.H0 p = none) : Rs K C F (upd H p o) σ sd where
  len := R.len
  grow := R.grow
  ext := fun a x e => by
    have : a ≠ p := fun z => by subst z; rw [hF] at e; cases e
    rw [upd_ne this]; exact R.ext a x e
  new := R.new
  keep := fun a x e n => by
    have : a ≠ p := fun z => by subst z; rw [h0] at e; cases e
    rw [upd_ne this]; exact R.keep a x e n
  still := fun a e => by
    by_cases z : a = p
    · subst z; exact h0
    · rw [upd_ne z] at e; exact R.still a e
  slot := fun i => (R.slot i).grow (Same.refl _) fun q x o2 e eh en => by
    have : q ≠ p := fun z => by subst z; exact ho ⟨i, o2, e⟩
    exact ⟨by rw [upd_ne this]; exact eh, en⟩
  sep := R.sep
theorem owned_at {F H : Hp} {σ : L2.St} {sd : DSt} {p : Addr} (R : Rs K C F H σ sd) (o : Owned σ sd p) : ∃ x, H p = some x := by
  obtain ⟨i, o, e⟩ := o
  have hs := R.slot i
  cases es : sget sd i with
  | no => rw [es] at o; cases o
  | va d => rw [es] at o; cases o
  | scr d => rw [es] at o; cases o
  | exc d => rw [es] at o; cases o
  | ins c fs => rw [es] at hs; obtain ⟨q2, _, _, _, e1, e2, _⟩ := hs; rw [e] at e1; cases e1; exact ⟨_, e2⟩
  | own ds' => rw [es] at hs; obtain ⟨q2, vs2, e1, e2, _⟩ := hs; rw [e] at e1; cases e1; exact ⟨_, e2⟩
  | well n => rw [es] at hs; obtain ⟨q2, _, _, _, e1, e2, _⟩ := hs; rw [e] at e1; cases e1; exact ⟨_, e2⟩
theorem owned_wipe {σ : L2.St} {sd : DSt} {vs : List Nat} {a : Addr} (h : Owned (wipe σ vs) (swipe sd vs) a) : Owned σ sd a := by
  obtain ⟨i, o, e⟩ := h
  by_cases hi : i ∈ vs
  · have : ∀ (ws : List Nat), i ∈ ws → sget (swipe sd ws) i = .no := by
      intro ws
      induction ws with
      | nil => intro h; simp at h
      | cons w ws ih =>
        intro h
        show sget (sset (swipe sd ws) w .no) i = .no
        by_cases hw : i = w
        · subst hw
          by_cases hl : i < sd.length
          · rw [sget_sset (by rw [swipe_length]; exact hl)]
          · rw [sget_out (by rw [sset_length, swipe_length]; omega)]
        · rw [sget_sset_ne hw]; exact ih (by simpa [hw] using h)
    rw [this vs hi] at o; cases o
  · rw [sget_swipe hi] at o
    rw [gv_wipe hi] at e
    exact ⟨i, o, e⟩
/-- the end of a comprehension: its slots as they were ahead of it -/
theorem rs_back {F1 H1 F H : Hp} {σ : L2.St} {s1 s : DSt} {vs : List Nat} (R1 : Rs K C F1 H1 σ s1) (hu : unOwn s1 vs = true) (R : Rs K C F H (wipe σ vs) (swipe s vs)) (e : Same F1 F) : Rs K C F H σ (sback s1 s vs) ∧ ∀ a, Owned σ (sback s1 s vs) a → Owned (wipe σ vs) (swipe s vs) a := by
  have hl : s.length = s1.length := by
    have a := R.len
    have b := R1.len
    rw [wipe_length, swipe_length] at a
    omega
  have own : ∀ j, isOwn (sget (sback s1 s vs) j) = true → j ∉ vs := fun j o hj => by
    rw [sget_sback_in hj hl, unOwn_of hu hj] at o; cases o
  refine ⟨⟨by rw [sback_length, hl]; exact R1.len, R.grow, R.ext, R.new, R.keep, R.still, fun j => ?_, fun j k q hjk o1 o2 z1 => ?_⟩, fun a ⟨j, o, ev⟩ => ?_⟩
  · by_cases hj : j ∈ vs
    · rw [sget_sback_in hj hl]
      have := R1.slot j
      have no := unOwn_of hu hj
      exact this.grow e fun q o ho _ _ _ => by rw [no] at ho; cases ho
    · rw [sget_sback hj]
      have := R.slot j
      rw [sget_swipe hj, gv_wipe hj] at this
      exact this
  · have n1 := own j o1
    have n2 := own k o2
    rw [sget_sback n1] at o1
    rw [sget_sback n2] at o2
    have := R.sep j k q hjk (by rw [sget_swipe n1]; exact o1) (by rw [sget_swipe n2]; exact o2) (by rw [gv_wipe n1]; exact z1)
    rw [gv_wipe n2] at this
    exact this
  · have n1 := own j o
    rw [sget_sback n1] at o
    exact ⟨j, by rw [sget_swipe n1]; exact o, by rw [gv_wipe n1]; exact ev⟩
/-- one turn's beginning: the new list at Dl holds what acc tells -/
structure LcSt (K : PySem.W.Frag) (C : Ct) (σ : L2.St) (s1 : DSt) (F1 H1 : Hp) (vs : List Nat) (Dl : Addr) (F' H' : Hp) (s : DSt) (acc : List PyData) : Prop where
  R : Rs K C F' H' (wipe σ vs) (swipe s vs)
  fr : Same F1 F'
  kp : ∀ a o, H1 a = some o → ¬ Owned σ s1 a → H' a = some o
  ow : ∀ a, Owned (wipe σ vs) (swipe s vs) a → Owned σ s1 a
  nw : ∀ a o, F' a = some o → F1 a = some o ∨ H1 a = none ∨ Owned σ s1 a
  st : ∀ a, H' a = none → H1 a = none
  dl : ∃ vacc, H' Dl = some (.lst vacc) ∧ RpA K F' vacc acc
  df : F' Dl = none
theorem lc_end {σ : L2.St} {s1 s : DSt} {F1 H1 F' H' : Hp} {vs : List Nat} {Dl : Addr} {acc : List PyData} (R1 : Rs K C F1 H1 σ s1) (hu : unOwn s1 vs = true) (hD : H1 Dl = none) (L : LcSt K C σ s1 F1 H1 vs Dl F' H' s acc) :
    ∃ vacc, H' Dl = some (.lst vacc) ∧ RpA K F' vacc acc ∧ F' Dl = none ∧ C.H0 Dl = none ∧ Rs K C F' H' σ (sback s1 s vs) ∧ Stp σ s1 F1 H1 F' H' (sback s1 s vs) ∧ ¬ Owned σ (sback s1 s vs) Dl := by
  obtain ⟨vacc, h1, h2⟩ := L.dl
  obtain ⟨Rb, ob⟩ := rs_back R1 hu L.R L.fr
  refine ⟨vacc, h1, h2, L.df, R1.still _ hD, Rb, ⟨L.fr, L.kp, fun a z => L.ow a (ob a z), L.nw, L.st⟩, fun z => ?_⟩
  obtain ⟨x, e⟩ := owned_at R1 (L.ow _ (ob _ z))
  rw [hD] at e; cases e
theorem lc_turn {σ σ2 : L2.St} {s1 s s2 : DSt} {F1 H1 F' H' F2 H2 F3 H3 : Hp} {vs : List Nat} {Dl : Addr} {acc : List PyData} (R1 : Rs K C F1 H1 σ s1) (hD : H1 Dl = none) (L : LcSt K C σ s1 F1 H1 vs Dl F' H' s acc) (al : Al F' H' F2 H2)
    {s0 : DSt} (hw : wipe σ2 vs = wipe σ vs) (ho : ∀ a, Owned σ2 s0 a → Owned (wipe σ vs) (swipe s vs) a) (R3 : Rs K C F3 H3 σ2 s2) (S3 : Stp σ2 s0 F2 H2 F3 H3 s2) : LcSt K C σ s1 F1 H1 vs Dl F3 H3 s2 acc ∧ ¬ Owned (wipe σ vs) (swipe s2 vs) Dl ∧ C.H0 Dl = none := by
  have A := Stp.al L.R al
  have ow3 : ∀ a, Owned (wipe σ vs) (swipe s2 vs) a → Owned σ s1 a := fun a z => by
    rw [← hw] at z
    exact L.ow a (ho a (S3.ow a (owned_wipe z)))
  have nD : ¬ Owned σ s1 Dl := fun z => by
    obtain ⟨x, e⟩ := owned_at R1 z
    rw [hD] at e; cases e
  obtain ⟨vacc, h1, h2⟩ := L.dl
  have h12 : H2 Dl = some (.lst vacc) := A.kp _ _ h1 fun z => nD (L.ow _ z)
  have nD0 : ¬ Owned σ2 s0 Dl := fun z => nD (L.ow _ (ho _ z))
  refine ⟨⟨by rw [← hw]; exact rs_wipe R3 vs, (L.fr.trans A.fr).trans S3.fr, fun a o e n => S3.kp a o (A.kp a o (L.kp a o e n) fun z => n (L.ow a z)) fun z => n (L.ow a (ho a z)), ow3, fun a o e => ?_, fun a e => L.st a (A.st a (S3.st a e)), ⟨vacc, S3.kp _ _ h12 nD0, (h2.mono A.fr).mono S3.fr⟩, ?_⟩, fun z => nD (ow3 _ z), R1.still _ hD⟩
  · rcases S3.nw a o e with e | e | e
    · rcases A.nw a o e with e | e | e
      · exact L.nw a o e
      · exact .inr (.inl (L.st a e))
      · exact .inr (.inr (L.ow a e))
    · exact .inr (.inl (L.st a (A.st a e)))
    · exact .inr (.inr (L.ow a (ho a e)))
  · cases e : F3 Dl with
    | none => rfl
    | some o =>
      rcases S3.nw _ o e with e | e | e
      · rcases A.nw _ o e with e | e | e
        · rw [L.df] at e; cases e
        · rw [h1] at e; cases e
        · exact (nD (L.ow _ e)).elim
      · rw [h12] at e; cases e
      · exact (nD0 e).elim
theorem td_lc {mi : MI} {mg : MG} {mt : MT} {me : ME} {vs : List Nat} {σ : L2.St} {H : Hp} {Q : VK} {F : Hp} {sd : DSt} {P : List PyData → DSt → Prop} (R : Rs K C F H σ sd) (h : mi sd fun ds s => unOwn s vs = true ∧ lcL mg mt me vs (fun out s' => P out (sback s s' vs)) ds s [])
    (k : ∀ Dl H' F' out vout sd', Rs K C F' H' σ sd' → Stp σ sd F H F' H' sd' → H' Dl = some (.lst vout) → RpA K F' vout out → F' Dl = none → C.H0 Dl = none → ¬ Owned σ sd' Dl → H Dl = none → P out sd' → Q (.ref Dl) H') : tLc (tDI K C mi) (tDGv K C vs mg) (tDT K C mt) (tD K C me) vs σ H Q := by
  refine ⟨F, sd, _, R, h, fun J H1 F1 ds s1 R1 S1 W h1 => fun Dl hD => ?_⟩
  obtain ⟨hu, h1⟩ := h1
  obtain ⟨G, Y, w, hG, hY⟩ := W.ex
  have nD : ¬ Owned σ s1 Dl := fun z => by
    obtain ⟨x, e⟩ := owned_at R1 z
    rw [hD] at e; cases e
  refine lc_it w (fun i H' => ∃ F' s acc, LcSt K C σ s1 F1 H1 vs Dl F' H' s acc ∧ lcL mg mt me vs (fun out s' => P out (sback s1 s' vs)) (ds.drop i) s acc) ⟨F1, s1, [], ?_, h1⟩ (fun i H' _ ⟨F', s, acc, L, _⟩ => hG H' (L.fr.trans L.R.ext)) (fun i x H' H'' hi ⟨F', s, acc, L, q⟩ y => ?_) (fun H' ⟨F', s, acc, L, q⟩ => ?_)
  · refine ⟨rs_wipe (R1.allocH hD) vs, Same.refl _, fun a o e _ => same_new hD a o e, fun a z => owned_wipe z, fun a o e => .inl e, fun a e => ?_, ⟨[], upd_same, .nil⟩, R1.free hD⟩
    by_cases z : a = Dl
    · subst z; exact hD
    · rw [upd_ne z] at e; exact e
  · obtain ⟨F2, d, al, hd, rd⟩ := hY i H' x H'' F' hi L.fr L.R.ext y
    rw [drop_get hd] at q
    refine ⟨F2, swipe s vs, d, _, L.R.al al, rd, q, fun σ2 s2 R2 hw ho q2 => ⟨by rw [hw, wipe_wipe], F2, s2, _, R2, q2, fun b H3 F3 s3 R3 S3 q3 => ?_⟩⟩
    rw [wipe_wipe] at hw
    cases b with
    | true =>
      refine ⟨F3, s3, _, R3, q3, fun y H4 F4 dy s4 R4 S4 ry q4 => ?_⟩
      obtain ⟨L4, no4, h04⟩ := lc_turn R1 hD L al hw ho R4 (S3.trans S4)
      obtain ⟨vacc, e1, e2⟩ := L4.dl
      refine ⟨vacc, e1, by rw [e2.length]; exact line_lt q4.1, F4, s4, acc ++ [dy], ⟨L4.R.updH L4.df no4 h04, L4.fr, fun a o e n => ?_, L4.ow, L4.nw, fun a e => ?_, ⟨_, upd_same, e2.snoc ry⟩, L4.df⟩, q4.2⟩
      · have : a ≠ Dl := fun z => by subst z; rw [hD] at e; cases e
        rw [upd_ne this]; exact L4.kp a o e n
      · by_cases z : a = Dl
        · subst z; exact hD
        · rw [upd_ne z] at e; exact L4.st a e
    | false =>
      obtain ⟨L4, _, _⟩ := lc_turn R1 hD L al hw ho R3 S3
      exact ⟨F3, s3, acc, L4, q3⟩
  · rw [List.drop_length] at q
    obtain ⟨vacc, a1, a2, a3, a4, a5, a6, a7⟩ := lc_end R1 hu hD L
    exact k Dl H' F' acc vacc _ a5 (S1.trans a6) a1 a2 a3 a4 a7 (S1.st _ hD) q
end
end DL
namespace DL
open PySem PySem.Spec PyProof.Rows L2
/-- room for k calls, and nothing is being shown -/
structure RoomG (k : Nat) (A : Around) : Prop where
  r : Room k A
  g : A.guards = some []
theorem RoomG.mono {j k : Nat} {A : Around} (h : RoomG k A) (hj : j ≤ k) : RoomG j A := ⟨h.r.mono hj, h.g⟩
theorem RoomG.deeper {k : Nat} {A : Around} (h : RoomG (k + 1) A) (env : Env) : RoomG k (A.deeper env) := ⟨h.r.deeper env, h.g⟩
structure FnG (P : Program) (w : World) (K : PySem.W.Frag) (mg : Str → Option Value) (base : Heap) (k : Nat) (f : Addr) (fd : FuncData) (ps : List Str) (sp : Sp) : Prop where
  len : ∀ vs H Q E, sp vs H Q E → vs.length = ps.length
  run : ∀ {A : Around} {outer : List Env} {s : Shared} {H : Hp} {args : Args} {us : List Value} {vs : List V} {Q : VK} {E : XK}, RoomG k A → Env0 P w K mg base A outer s H → BindsTo s fd args (ps.zip us) → Vals vs us → sp vs H Q E →
    codeAny (model P w) A (.call (.ref f) args) (CR (L2.CX P w) outer P w H s Q E) s
theorem FnG.of {P : Program} {w : World} {K : PySem.W.Frag} {mg : Str → Option Value} {base : Heap} {k : Nat} {f : Addr} {fd : FuncData} {ps : List Str} {sp : Sp} (F : FnOk P w K mg base (L2.CX P w) k f fd ps sp) : FnG P w K mg base k f fd ps sp :=
  ⟨F.len, fun hr e b r h => F.run _ _ _ _ _ _ _ _ _ hr.r e b r h⟩
section
variable {P : Program} {w : World} {K : PySem.W.Frag} {mg : Str → Option Value} {base : Heap} {k : Nat}
/-- a def's promise from its body -/
theorem fun_okG {x qual : Str} {st : Stmt} {f : Addr} {fd : FuncData} {N ps : List Str} {sp : Sp} (F : Fun K x qual st f fd) (S : FnScope N ps (defScope st)) (len : ∀ vs H Q E, sp vs H Q E → vs.length = ps.length)
    (body : ∀ (cdv : Value) (A : Around) (outer : List Env) (s : Shared) (H : Hp) (vs : List V) (Q : VK) (E : XK), RoomG k (A.deeper (envOfC qual (defScope st) s.heap.objs.size f cdv)) → sp vs H Q E →
      ∃ t, PSs (cxOf (L2.CX P w) P w K mg base N qual (defScope st) f cdv A outer s H E) (defBody st) t ∧ t { nx := fun _ H' => Q .non H', rt := Q } (L2.start N vs) H) : FnG P w K mg base (k + 1) f fd ps sp := by
  obtain ⟨oc, od, kV, doc, pm, an, cdv, ct, osl, rfl, lk, code⟩ := F.ex
  refine ⟨len, fun {A outer s H args us vs Q E} hr e0 hb rv hs => ?_⟩
  have stays : ∀ b o, base.get? b = some o → s.heap.get? b = some o := fun b o e => (e0.bs b o e).1
  have KX := e0.mod.kin.keeps stays
  refine codeAny_call_function hr.r.depth (KX _ _ lk) rfl S.co S.gen rfl (PySem.W.codeRec_of KX code) (hb _ _ _ _ (wpAny_newFunctionEnv_cells S.kind (fun y hy => ?_) fun env he s1 x1 => ?_))
  · have hp := S.par y.1 (List.of_mem_zip (show (y.1, y.2) ∈ ps.zip us from hy)).1
    exact hp.imp id fun c => ⟨c, PySem.W.cellsFrom_some _ _ _ (.inl c)⟩
  · subst he
    obtain ⟨t, ht, ht2⟩ := body cdv A outer s H vs Q E (hr.deeper _) hs
    have I0 := inv_start (CX := L2.CX P w) (E := E) S hr.r.hd e0 (len _ _ _ _ hs) rv x1
    refine ⟨(e0.mod.nolimit.keeps stays).keeps x1.toInCall.keep, codeAny_func (wpAny_mono (ht.run [] s1 _ H _ I0 ht2) (fun fl s2 h2 => ?_) fun _ _ h2 => h2)⟩
    cases fl with
    | brk => exact h2.elim fun _ h => h.elim fun _ h => h.2.elim
    | cont => exact h2.elim fun _ h => h.elim fun _ h => h.2.elim
    | next => exact h2.elim fun σ2 h => h.elim fun H2 h => ⟨V.non, H2, h.1.os, h.1.bare, h.1.base, h.1.hok, rfl, h.2⟩
    | ret u => exact h2.elim fun v h => h.elim fun σ2 h => h.elim fun H2 h => ⟨v, H2, h.1.os, h.1.bare, h.1.base, h.1.hok, h.2.1, h.2.2⟩
end
section
variable {X : Cx} {k : Nat} {f : Addr} {fd : FuncData} {ps ks : List Str} {sp : Sp} {E : L2.St → XK} {x : Str} {p pos : Pos} {e : Expr} {es : List Expr} {t tk : TA}
theorem run_fnG {pins : List (Addr × Obj)} {σ : L2.St} {H : Hp} {s : Shared} {Q : VK} {us : List Value} {vs : List V} {args : Args} {n : Nat} (F : FnG X.prog X.w X.K X.mg X.base k f fd ps sp) (hr : RoomG k X.A) (hb : BindsTo s fd args (ps.zip us)) (hx : PassesAt (L2.CX X.prog X.w) X σ (E σ))
    (I : Inv X pins σ H s) (r : Vals vs us) (h : sp vs H Q (E σ)) : codeAny (model X.prog X.w) X.A (.call (.ref f) args) (fun r s' => match r with
      | .error e => X.xe e s'
      | .ok (.ret u) => EP X pins σ Q u s'
      | .ok _ => False) s := by
  refine codeAny_mono (F.run hr I.env0 hb r h) fun r s' hq => ?_
  cases r with
  | error e => exact hx pins H s e s' I hq
  | ok fl =>
    cases fl with
    | ret u => exact I.after hq
    | next => exact hq
    | brk => exact hq
    | cont => exact hq
/-- f(e, ..), and what f raises is wished for at the slots as they stand -/
def tCallG (sp : Sp) (E : L2.St → XK) (t : TA) : TE := fun σ H Q => t σ H fun vs H1 => sp vs H1 Q (E σ)
theorem wp_callG {pins : List (Addr × Obj)} {σ : L2.St} {H : Hp} {s : Shared} {Q : VK} {us : List Value} {vs : List V} (F : FnG X.prog X.w X.K X.mg X.base k f fd ps sp) (hr : RoomG k X.A) (hb : Binds X.K fd ps []) (hx : PassesAt (L2.CX X.prog X.w) X σ (E σ))
    (I : Inv X pins σ H s) (r : Vals vs us) (h : sp vs H Q (E σ)) : wpAny (model X.prog X.w) X.A (call (.ref f) us) (EP X pins σ Q) X.xe s := by
  have hl : (us ++ []).length = ps.length := by rw [List.append_nil, ← r.length]; exact F.len _ _ _ _ h
  have b := hb s us I.kIn hl
  rw [List.append_nil] at b
  refine wpAny_call (codeAny_mono (run_fnG (args := ⟨us, []⟩) (n := 0) F hr b hx I r h) fun r s' hq => ?_)
  rcases r with _ | (_ | _ | _ | _) <;> exact hq
theorem pe_callG (F : FnG X.prog X.w X.K X.mg X.base k f fd ps sp) (hr : RoomG k X.A) (hg : Gl X x) (hm : X.mg x = some (.ref f)) (hk : PySem.W.keepIn X.K (.ref f) = true) (hb : Binds X.K fd ps []) (hx : ∀ σ, PassesAt (L2.CX X.prog X.w) X σ (E σ))
    (ha : PA X (e :: es) t) (hdb : (x == ("__debug__" : Str)) = false) (he : starEach (e :: es) X.env = (false, eval e X.env) :: starEach es X.env) (hpl : (backTo pos (starEach es X.env)).any (·.1) = false) :
    PE X (.Call (.Name x p) (e :: es) [] pos) (tCallG sp E t) :=
  ⟨fun pins s σ H Q I h => wpAny_Call_Name_kw (ld_glob I hg hm (PySem.W.callWith_K (h₀ := X.base) I.ok.mod.kin hk (thn (ha.run pos pins s σ H _ I h) fun us s1 hh => by
    obtain ⟨vs, H1, I1, r, q⟩ := hh
    exact ⟨I1.kIn, wp_callG F hr hb (hx σ) I1 r q⟩) he hpl) hdb)⟩
theorem pe_callG0 (F : FnG X.prog X.w X.K X.mg X.base k f fd ps sp) (hr : RoomG k X.A) (hg : Gl X x) (hm : X.mg x = some (.ref f)) (hk : PySem.W.keepIn X.K (.ref f) = true) (hb : Binds X.K fd ps []) (hx : ∀ σ, PassesAt (L2.CX X.prog X.w) X σ (E σ))
    (hdb : (x == ("__debug__" : Str)) = false) : PE X (.Call (.Name x p) [] [] pos) (tCallG sp E tNil) :=
  ⟨fun pins s σ H Q I h => wpAny_Call_Name_kw (ld_glob I hg hm (PySem.W.callWith_K0 I.kIn hk (wp_callG (us := []) F hr hb (hx σ) I .nil h)) hdb)⟩
/-- f(a, .., k=b, ..) -/
def tCallGK (sp : Sp) (gV : List V → List V → List V) (E : L2.St → XK) (t tk : TA) : TE := fun σ H Q => t σ H fun vs H1 => tk σ H1 fun zs H2 => sp (gV vs zs) H2 Q (E σ)
variable {g : List Value → List Value → List Value} {gV : List V → List V → List V} {kws : List Keyword}
theorem wp_callGK {pins : List (Addr × Obj)} {σ : L2.St} {H : Hp} {s : Shared} {Q : VK} {us ws : List Value} {vs zs : List V} (F : FnG X.prog X.w X.K X.mg X.base k f fd ps sp) (hr : RoomG k X.A) (hb : KBinds X.K fd ps ks g gV) (hx : PassesAt (L2.CX X.prog X.w) X σ (E σ))
    (I : Inv X pins σ H s) (r : Vals vs us) (rz : Vals zs ws) (h : sp (gV vs zs) H Q (E σ)) : wpAny (model X.prog X.w) X.A (call (.ref f) us (ks.zip ws)) (EP X pins σ Q) X.xe s := by
  have rg := hb.rel r rz
  have hl : (g us ws).length = ps.length := rg.length ▸ F.len _ _ _ _ h
  refine wpAny_call (codeAny_mono (run_fnG (args := ⟨us, ks.zip ws⟩) (n := 0) F hr (hb.to s us ws I.kIn hl) hx I rg h) fun r s' hq => ?_)
  rcases r with _ | (_ | _ | _ | _) <;> exact hq
theorem pe_callGK (F : FnG X.prog X.w X.K X.mg X.base k f fd ps sp) (hr : RoomG k X.A) (hg : Gl X x) (hm : X.mg x = some (.ref f)) (hk : PySem.W.keepIn X.K (.ref f) = true) (hb : KBinds X.K fd ps ks g gV) (hx : ∀ σ, PassesAt (L2.CX X.prog X.w) X σ (E σ))
    (ha : PA X (e :: es) t) (hkw : PK X kws tk) (hall : (backToKw pos (keywordEach kws X.env)).all (·.1.isSome) = true) (hks : (backToKw pos (keywordEach kws X.env)).filterMap (·.1) = ks)
    (hdb : (x == ("__debug__" : Str)) = false) (he : starEach (e :: es) X.env = (false, eval e X.env) :: starEach es X.env)
    (hpl : ((backTo pos (starEach (e :: es) X.env)).any (·.1) || (backToKw pos (keywordEach kws X.env)).any (·.1.isNone)) = false) : PE X (.Call (.Name x p) (e :: es) kws pos) (tCallGK sp gV E t tk) := by
  refine ⟨fun pins s σ H Q I h => wpAny_Call_Name_kw (ld_glob I hg hm (PySem.W.callWith_KW (h₀ := X.base) I.ok.mod.kin hk hall (thn (ha.run pos pins s σ H _ I h) fun us s1 hh => ?_) hpl he) hdb)⟩
  obtain ⟨vs, H1, I1, r, q⟩ := hh
  refine thn (hkw.run pos pins s1 σ H1 _ I1 q) fun ws s2 h2 => ?_
  obtain ⟨zs, H2, I2, rz, q2⟩ := h2
  refine ⟨I2.kIn, ?_⟩
  rw [hks]
  exact wp_callGK F hr hb (hx σ) I2 r rz q2
theorem pe_callGK0 (F : FnG X.prog X.w X.K X.mg X.base k f fd ps sp) (hr : RoomG k X.A) (hg : Gl X x) (hm : X.mg x = some (.ref f)) (hk : PySem.W.keepIn X.K (.ref f) = true) (hb : KBinds X.K fd ps ks g gV) (hx : ∀ σ, PassesAt (L2.CX X.prog X.w) X σ (E σ))
    (hkw : PK X kws tk) (hall : (backToKw pos (keywordEach kws X.env)).all (·.1.isSome) = true) (hks : (backToKw pos (keywordEach kws X.env)).filterMap (·.1) = ks)
    (hdb : (x == ("__debug__" : Str)) = false) (hpl : ((backTo pos (starEach [] X.env)).any (·.1) || (backToKw pos (keywordEach kws X.env)).any (·.1.isNone)) = false) : PE X (.Call (.Name x p) [] kws pos) (tCallGK sp gV E tNil tk) := by
  refine ⟨fun pins s σ H Q I h => wpAny_Call_Name_kw (ld_glob I hg hm (PySem.W.callWith_KW0 (h₀ := X.base) I.ok.mod.kin hk hall (thn (hkw.run pos pins s σ H _ I h) fun ws s2 h2 => ?_) hpl) hdb)⟩
  obtain ⟨zs, H2, I2, rz, q2⟩ := h2
  refine ⟨I2.kIn, ?_⟩
  rw [hks]
  exact wp_callGK F hr hb (hx σ) I2 .nil rz q2
end
end DL
namespace DL
open PySem PySem.Spec PyProof.Rows L2
section
variable {K : PySem.W.Frag} {X : Cx} {C : Ct}
/-- a list that nobody knows is made known -/
theorem Rs.freezeD {F H : Hp} {σ : L2.St} {sd : DSt} {p : Addr} {vs : List V} {ds : List PyData} (R : Rs K C F H σ sd) (h : H p = some (.lst vs)) (hF : F p = none) (h0 : C.H0 p = none) (ho : ¬ Owned σ sd p) (r : RpA K F vs ds) :
    Rs K C (upd F p (.lst vs)) H σ sd ∧ Rp K (upd F p (.lst vs)) (.ref p) (.list ds) := by
  have sF : Same F (upd F p (.lst vs)) := same_new hF
  refine ⟨⟨R.len, R.grow.trans sF, fun a x e => ?_, fun a x e => ?_, R.keep, R.still, fun i => ?_, R.sep⟩, .lst upd_same (r.mono sF)⟩
  · by_cases z : a = p
    · subst z; rw [upd_same] at e; cases e; exact h
    · rw [upd_ne z] at e; exact R.ext a x e
  · by_cases z : a = p
    · subst z; exact .inr h0
    · rw [upd_ne z] at e; exact R.new a x e
  · refine (R.slot i).grow sF fun q x o e eh en => ⟨eh, ?_⟩
    have : q ≠ p := fun z => by subst z; exact ho ⟨i, o, e⟩
    rw [upd_ne this]; exact en
theorem Stp.freezeD {F H F' H' : Hp} {σ : L2.St} {sd sd' : DSt} {p : Addr} {o : HO} (S : Stp σ sd F H F' H' sd') (hF : F' p = none) (hn : H p = none) : Stp σ sd F H (upd F' p o) H' sd' where
  fr := S.fr.trans (same_new hF)
  kp := S.kp
  ow := S.ow
  nw := fun a x e => by
    by_cases z : a = p
    · subst z; exact .inr (.inl hn)
    · rw [upd_ne z] at e; exact S.nw a x e
  st := S.st
theorem td_lcV {mi : MI} {mg : MG} {mt : MT} {me : ME} {vs : List Nat} : ∀ σ H Q, tD K C (mLc mi mg mt me vs) σ H Q → tLc (tDI K C mi) (tDGv K C vs mg) (tDT K C mt) (tD K C me) vs σ H Q := by
  rintro σ H Q ⟨F, sd, Qd, R, h, k⟩
  refine td_lc R h fun Dl H' F' out vout sd' R' S h1 r hF h0 ho hn q => ?_
  obtain ⟨R2, rp⟩ := R'.freezeD h1 hF h0 ho r
  exact k _ H' _ _ sd' R2 (S.freezeD hF hn) rp q
theorem td_lcR {mi : MI} {mg : MG} {mt : MT} {me : ME} {vs : List Nat} : ∀ σ H Q, tDR K C (mrLc mi mg mt me vs) σ H Q → tLc (tDI K C mi) (tDGv K C vs mg) (tDT K C mt) (tD K C me) vs σ H Q := by
  rintro σ H Q ⟨F, sd, Qd, R, h, k⟩
  refine td_lc R h fun Dl H' F' out vout sd' R' S h1 r hF h0 ho hn q => ?_
  exact k _ H' F' (.own out) sd' R' S ⟨Dl, vout, rfl, h1, hF, h0, r⟩ (fun _ z e => by cases e; exact ho) (fun _ z e => by cases e; exact hn) q
variable {elt tg iter : Expr} {ifs : List Expr} {scope : Scope} {pos : Pos} {mi : MI} {mg : MG} {mt : MT} {me : ME} {vs : List Nat}
theorem pd_lc (t : PE X (.ListComp elt [⟨tg, iter, ifs, 0⟩] scope pos) (tLc (tDI X.K C mi) (tDGv X.K C vs mg) (tDT X.K C mt) (tD X.K C me) vs)) : PE X (.ListComp elt [⟨tg, iter, ifs, 0⟩] scope pos) (tD X.K C (mLc mi mg mt me vs)) := pe_imp t td_lcV
theorem pdr_lc (t : PE X (.ListComp elt [⟨tg, iter, ifs, 0⟩] scope pos) (tLc (tDI X.K C mi) (tDGv X.K C vs mg) (tDT X.K C mt) (tD X.K C me) vs)) : PE X (.ListComp elt [⟨tg, iter, ifs, 0⟩] scope pos) (tDR X.K C (mrLc mi mg mt me vs)) := pe_imp t td_lcR
/-- y = [..] on one line -/
theorem pds_setLc {y : Expr} {spos : Pos} {i : Nat} (t : PS X (.Assign [y] (.ListComp elt [⟨tg, iter, ifs, 0⟩] scope pos) spos) (tAsg (tLc (tDI X.K C mi) (tDGv X.K C vs mg) (tDT X.K C mt) (tD X.K C me) vs) (gName i))) :
    PS X (.Assign [y] (.ListComp elt [⟨tg, iter, ifs, 0⟩] scope pos) spos) (tDS X.K C (mAsg (mLc mi mg mt me vs) (mgName i))) := ps_imp t (by
  rintro D σ H ⟨F, sd, Dd, R, E, h⟩
  refine td_lcV σ H _ ⟨F, sd, _, R, h, fun v H1 F1 d sd1 R1 S1 r q => ?_⟩
  exact E.nx F1 H1 _ _ S1.fr (R1.setva r) q)
theorem pds_setLcR {y : Expr} {spos : Pos} {i : Nat} (t : PS X (.Assign [y] (.ListComp elt [⟨tg, iter, ifs, 0⟩] scope pos) spos) (tAsg (tLc (tDI X.K C mi) (tDGv X.K C vs mg) (tDT X.K C mt) (tD X.K C me) vs) (gName i))) :
    PS X (.Assign [y] (.ListComp elt [⟨tg, iter, ifs, 0⟩] scope pos) spos) (tDS X.K C (mAsgR i (mrLc mi mg mt me vs))) := ps_imp t (by
  rintro D σ H ⟨F, sd, Dd, R, E, h⟩
  refine td_lcR σ H _ ⟨F, sd, _, R, h, fun v H1 F1 r sd1 R1 S1 rv fre new q => ?_⟩
  exact E.nx F1 H1 _ _ S1.fr (R1.setr rv fre) q)
theorem pdts_nil : PTs X [] (tDT X.K C mTYes) := ⟨fun pins s σ H Q I h => (pts_nil (X := X)).run pins s σ H Q I (by
  obtain ⟨F, sd, Qd, R, h, k⟩ := h
  exact k true H F sd R .refl h)⟩
theorem pdts_one {c : Expr} {t : MT} (h : PT X c (tDT X.K C t)) : PTs X [c] (tDT X.K C t) := pts_one h
end
/-- behind a call that was handed frozen data alone -/
structure Post (K : PySem.W.Frag) (F H F' H' : Hp) : Prop where
  fr : Same F F'
  ext : Same F' H'
  kp : Same H H'
  nw : ∀ a o, F' a = some o → F a = some o ∨ H a = none
def ResOk (K : PySem.W.Frag) (F' H H' : Hp) (v : V) : S → Prop
  | .no => True
  | .scr ns => ∃ p, v = .ref p ∧ SqL K F' p (ns.map V.int)
  | .exc a => v = .ref a
  | .ins c es => ∃ p Cc dx fs, v = .ref p ∧ H' p = some (.ins Cc dx fs) ∧ F' p = none ∧ H p = none ∧ ObjC K c Cc ∧ RpF K F' fs es
  | .va d => Rp K F' v d
  | .own ds => ∃ p vs, v = .ref p ∧ H' p = some (.lst vs) ∧ F' p = none ∧ H p = none ∧ RpA K F' vs ds
  | .well n => ∃ p a b c, v = .ref p ∧ H' p = some (.lst [.int a, .int b, .int c]) ∧ F' p = none ∧ H p = none ∧ WellOk n a b c
def spP (K : PySem.W.Frag) (CN : String → Option Addr) (spec : PSpec) : Sp := fun vs H Q E => ∃ F ds Qd Ed, Same F H ∧ RpA K F vs ds ∧ spec ds Qd Ed ∧
  (∀ v H' F' r, Post K F H F' H' → ResOk K F' H H' v r → Qd r → Q v H') ∧ ∀ c a H' F', CN c = some a → Post K F H F' H' → Ed c → E (.ref a) none H'
/-- .. and the well -/
structure PostW (K : PySem.W.Frag) (p : Addr) (F H F' H' : Hp) (n' : Nat) : Prop where
  fr : Same F F'
  ext : Same F' H'
  kp : ∀ a o, a ≠ p → H a = some o → H' a = some o
  nw : ∀ a o, F' a = some o → F a = some o ∨ H a = none
  wl : ∃ a b c, H' p = some (.lst [.int a, .int b, .int c]) ∧ WellOk n' a b c
def spW (K : PySem.W.Frag) (spec : WSpec) : Sp := fun vs H Q _ => ∃ F p ws n a b c ds Qd, vs = .ref p :: ws ∧ Same F H ∧ F p = none ∧ H p = some (.lst [.int a, .int b, .int c]) ∧ WellOk n a b c ∧ RpA K F ws ds ∧ spec n ds Qd ∧
  ∀ v H' F' r n', PostW K p F H F' H' n' → ResOk K F' H H' v r → Qd r n' → Q v H'
section
variable {K : PySem.W.Frag} {X : Cx} {C : Ct} {F H F' H' : Hp} {σ : L2.St} {sd : DSt}
theorem Rs.post (R : Rs K C F H σ sd) (P : Post K F H F' H') : Rs K C F' H' σ sd ∧ Stp σ sd F H F' H' sd := by
  have ns : ∀ a, H' a = none → H a = none := fun a e => P.kp.free e
  refine ⟨⟨R.len, R.grow.trans P.fr, P.ext, fun a o e => ?_, fun a o e n => P.kp a o (R.keep a o e n), fun a e => R.still a (ns a e), fun i => (R.slot i).grow P.fr fun q x o e eh en => ⟨P.kp q x eh, ?_⟩, R.sep⟩, ⟨P.fr, fun a o e _ => P.kp a o e, fun _ z => z, fun a o e => ?_, ns⟩⟩
  · rcases P.nw a o e with e | e
    · exact R.new a o e
    · exact .inr (R.still a e)
  · cases z : F' q with
    | none => rfl
    | some y =>
      rcases P.nw q y z with z | z
      · rw [en] at z; cases z
      · rw [eh] at z; cases z
  · rcases P.nw a o e with e | e
    · exact .inl e
    · exact .inr (.inl e)
/-- the result of a call, frozen where it is a list -/
theorem Rs.res {H0 : Hp} {F0 : Hp} {sd0 : DSt} {v : V} {r : S} {d : PyData} (R : Rs K C F' H' σ sd) (S : Stp σ sd0 F0 H0 F' H' sd) (h : ResOk K F' H H' v r) (hn : ∀ p, H p = none → H0 p = none ∧ ¬ Owned σ sd p ∧ C.H0 p = none) (hf : fz r = some d) :
    ∃ F2, Rs K C F2 H' σ sd ∧ Stp σ sd0 F0 H0 F2 H' sd ∧ Rp K F2 v d := by
  cases r with
  | no => cases hf
  | scr _ => cases hf
  | exc _ => cases hf
  | ins _ _ => cases hf
  | well n => cases hf
  | va d' => cases hf; exact ⟨F', R, S, h⟩
  | own ds =>
    cases hf
    obtain ⟨p, vs, rfl, h1, h2, h3, h4⟩ := h
    have hn3 := hn p h3
    obtain ⟨n1, n2, n3⟩ := hn3
    obtain ⟨R2, rp⟩ := R.freezeD h1 h2 n3 n2 h4
    exact ⟨_, R2, S.freezeD h2 n1, rp⟩
theorem Rs.fresh (R : Rs K C F H σ sd) {p : Addr} (h : H p = none) : ¬ Owned σ sd p ∧ C.H0 p = none :=
  by
  refine ⟨fun z => ?_, R.still p h⟩
  have e := owned_at R z
  rw [h] at e
  exact nomatch e
/-- a def of the text and its promise -/
structure CalP (P : Program) (w : World) (K : PySem.W.Frag) (mg : Str → Option Value) (base : Heap) (CN : String → Option Addr) (k : Nat) (x : Str) (spec : PSpec) : Prop where
  ex : ∃ f fd ps, FnG P w K mg base k f fd ps (spP K CN spec) ∧ mg x = some (.ref f) ∧ PySem.W.keepIn K (.ref f) = true ∧ Binds K fd ps []
structure CalW (P : Program) (w : World) (K : PySem.W.Frag) (mg : Str → Option Value) (base : Heap) (k : Nat) (x : Str) (spec : WSpec) : Prop where
  ex : ∃ f fd ps, FnG P w K mg base k f fd ps (spW K spec) ∧ mg x = some (.ref f) ∧ PySem.W.keepIn K (.ref f) = true ∧ Binds K fd ps []
theorem td_call {CN : String → Option Addr} {spec : PSpec} {W : WD} {ma : MA} : ∀ σ H Q, tD K C (mCall spec W ma) σ H Q → tCallG (spP K CN spec) (WE (wD K C CN W)) (tDA K C ma) σ H Q := by
  rintro σ H Q ⟨F, sd, Qd, R, h, k⟩
  refine ⟨F, sd, _, R, h, fun vs H1 F1 ds sd1 R1 S1 rs h1 => ⟨F1, ds, _, _, R1.ext, rs, h1, fun v H' F' r P ro q => ?_, fun c a H' F' hc P q => ?_⟩⟩
  · obtain ⟨d, hf, q⟩ := q
    obtain ⟨R2, S2⟩ := R1.post P
    obtain ⟨F2, R3, S3, rp⟩ := R2.res (S1.trans S2) ro (fun p hp => ⟨S1.st p hp, fun z => (R1.fresh hp).1 (S2.ow p z), (R1.fresh hp).2⟩) hf
    exact k v H' F2 d sd1 R3 S3 rp q
  · exact ⟨c, a, F', sd1, hc, rfl, rfl, (R1.post P).1, q⟩
theorem pd_call {CN : String → Option Addr} {spec : PSpec} {W : WD} {ma : MA} {x : Str} {p pos : Pos} {e : Expr} {es : List Expr} {k j : Nat} (c : CalP X.prog X.w X.K X.mg X.base CN k x spec) (hr : RoomG j X.A) (hk : k ≤ j) (tk : Takes X (wD X.K C CN W)) (ha : PA X (e :: es) (tDA X.K C ma)) (hg : Gl X x := by rfl)
    (hdb : (x == ("__debug__" : Str)) = false := by decide) (he : starEach (e :: es) X.env = (false, eval e X.env) :: starEach es X.env := by rfl) (hpl : (backTo pos (starEach es X.env)).any (·.1) = false := by rfl) :
    PE X (.Call (.Name x p) (e :: es) [] pos) (tD X.K C (mCall spec W ma)) := by
  obtain ⟨f, fd, ps, F, hm, hkp, hb⟩ := c.ex
  exact pe_imp (pe_callG F (hr.mono hk) hg hm hkp hb (passAt tk) ha hdb he hpl) td_call
/-- .. its result still owned -/
theorem td_callR {CN : String → Option Addr} {spec : PSpec} {W : WD} {ma : MA} (hw : C.isW = false) : ∀ σ H Q, tDR K C (mrCall spec W ma) σ H Q → tCallG (spP K CN spec) (WE (wD K C CN W)) (tDA K C ma) σ H Q := by
  rintro σ H Q ⟨F, sd, Qd, R, h, k⟩
  refine ⟨F, sd, _, R, h, fun vs H1 F1 ds sd1 R1 S1 rs h1 => ⟨F1, ds, _, _, R1.ext, rs, h1, fun v H' F' r P ro q => ?_, fun c a H' F' hc P q => ?_⟩⟩
  · obtain ⟨R2, S2⟩ := R1.post P
    have S3 := S1.trans S2
    have fr : ∀ p, H1 p = none → ¬ Owned σ sd1 p := fun p hp => (R1.fresh hp).1
    cases r with
    | no => exact k v H' F' .no sd1 R2 S3 trivial (fun z => nomatch z) (fun z => nomatch z) q
    | exc a => exact k v H' F' (.exc a) sd1 R2 S3 (congrArg some (show v = .ref a from ro)) (fun z => nomatch z) (fun z => nomatch z) q
    | scr ns => obtain ⟨p, rfl, h1⟩ := ro; exact k _ H' F' (.scr ns) sd1 R2 S3 ⟨p, rfl, h1⟩ (fun z => nomatch z) (fun z => nomatch z) q
    | va d => exact k v H' F' (.va d) sd1 R2 S3 ⟨v, rfl, ro⟩ (fun z => nomatch z) (fun z => nomatch z) q
    | own ds =>
      obtain ⟨p, vs', rfl, h1, h2, h3, h4⟩ := ro
      exact k _ H' F' (.own ds) sd1 R2 S3 ⟨p, vs', rfl, h1, h2, R1.still p h3, h4⟩ (fun _ z e => by cases e; exact fr p h3) (fun _ z e => by cases e; exact S1.st p h3) q
    | ins c es =>
      obtain ⟨p, Cc, dx, fs, rfl, h1, h2, h3, oc, h4⟩ := ro
      exact k _ H' F' (.ins c es) sd1 R2 S3 ⟨p, Cc, dx, fs, rfl, h1, h2, .inr ⟨hw, R1.still p h3⟩, oc, h4⟩ (fun _ z e => by cases e; exact fr p h3) (fun _ z e => by cases e; exact S1.st p h3) q
    | well n =>
      obtain ⟨p, a, b, cc, rfl, h1, h2, h3, h4⟩ := ro
      exact k _ H' F' (.well n) sd1 R2 S3 ⟨p, a, b, cc, rfl, h1, h2, .inr ⟨hw, R1.still p h3⟩, h4⟩ (fun _ z e => by cases e; exact fr p h3) (fun _ z e => by cases e; exact S1.st p h3) q
  · exact ⟨c, a, F', sd1, hc, rfl, rfl, (R1.post P).1, q⟩
theorem pdr_call {CN : String → Option Addr} {spec : PSpec} {W : WD} {ma : MA} {x : Str} {p pos : Pos} {e : Expr} {es : List Expr} {k j : Nat} (hw : C.isW = false) (c : CalP X.prog X.w X.K X.mg X.base CN k x spec) (hr : RoomG j X.A) (hk : k ≤ j) (tk : Takes X (wD X.K C CN W)) (ha : PA X (e :: es) (tDA X.K C ma)) (hg : Gl X x := by rfl)
    (hdb : (x == ("__debug__" : Str)) = false := by decide) (he : starEach (e :: es) X.env = (false, eval e X.env) :: starEach es X.env := by rfl) (hpl : (backTo pos (starEach es X.env)).any (·.1) = false := by rfl) :
    PE X (.Call (.Name x p) (e :: es) [] pos) (tDR X.K C (mrCall spec W ma)) := by
  obtain ⟨f, fd, ps, F, hm, hkp, hb⟩ := c.ex
  exact pe_imp (pe_callG F (hr.mono hk) hg hm hkp hb (passAt tk) ha hdb he hpl) (td_callR hw)
/-- f(well, e, ..) -/
theorem Rs.postW {i : Nat} {n n' : Nat} {p : Addr} (R : Rs K C F H σ sd) (h : sget sd i = .well n) (e : gv σ i = some (.ref p)) (hn : ∃ a b c, H p = some (.lst [.int a, .int b, .int c]) ∧ WellOk n a b c) (P : PostW K p F H F' H' n') :
    Rs K C F' H' σ (sset sd i (.well n')) ∧ Stp σ sd F H F' H' (sset sd i (.well n')) := by
  obtain ⟨a0, b0, c0, hp, _⟩ := hn
  have hi := R.slot i
  rw [h] at hi
  obtain ⟨p', a1, b1, c1, z1, z2, z3, z4, _⟩ := hi
  rw [e] at z1; cases z1
  have hl : i < sd.length := R.lt_of_own (by rw [h]; intro z; cases z)
  obtain ⟨a2, b2, c2, w1, w2⟩ := P.wl
  have Fp : F' p = none := by
    cases z : F' p with
    | none => rfl
    | some y =>
      rcases P.nw p y z with z | z
      · rw [z3] at z; cases z
      · rw [hp] at z; cases z
  have own : Owned σ sd p := ⟨i, by rw [h]; rfl, e⟩
  have other : ∀ j q, j ≠ i → isOwn (sget sd j) = true → gv σ j = some (.ref q) → q ≠ p := fun j q hj ho eq z => by
    subst z
    exact R.sep i j q (Ne.symm hj) (by rw [h]; rfl) ho e eq
  have ns : ∀ a, H' a = none → H a = none := fun a z => by
    by_cases za : a = p
    · subst za; rw [w1] at z; cases z
    · cases q : H a with
      | none => rfl
      | some o => rw [P.kp a o za q] at z; cases z
  have ow : ∀ a, Owned σ (sset sd i (.well n')) a → Owned σ sd a := fun a ⟨j, o, ev⟩ => by
    by_cases hj : j = i
    · subst hj; rw [e] at ev; cases ev; exact own
    · rw [sget_sset_ne hj] at o; exact ⟨j, o, ev⟩
  refine ⟨⟨by rw [sset_length]; exact R.len, R.grow.trans P.fr, P.ext, fun a o q => ?_, fun a o q n => ?_, fun a z => R.still a (ns a z), fun j => ?_, fun j k q hjk o1 o2 z1 => ?_⟩, ⟨P.fr, fun a o q n => P.kp a o (fun z => n (z ▸ own)) q, ow, fun a o q => ?_, ns⟩⟩
  · rcases P.nw a o q with q | q
    · exact R.new a o q
    · exact .inr (R.still a q)
  · have ha := R.keep a o q n
    by_cases za : a = p
    · subst za
      rcases z4 with z4 | z4
      · exact (n z4.2).elim
      · rw [z4.2] at q; cases q
    · exact P.kp a o za ha
  · by_cases hj : j = i
    · subst hj; rw [sget_sset hl]; exact ⟨p, a2, b2, c2, e, w1, Fp, z4, w2⟩
    · rw [sget_sset_ne hj]
      refine (R.slot j).grow P.fr fun q x ho eq eh en => ⟨P.kp q x (other j q hj ho eq) eh, ?_⟩
      cases z : F' q with
      | none => rfl
      | some y =>
        rcases P.nw q y z with z | z
        · rw [en] at z; cases z
        · rw [eh] at z; cases z
  · have own_of : ∀ m, isOwn (sget (sset sd i (.well n')) m) = true → isOwn (sget sd m) = true := fun m o => by
      by_cases hm : m = i
      · subst hm; rw [h]; rfl
      · rw [sget_sset_ne hm] at o; exact o
    exact R.sep j k q hjk (own_of j o1) (own_of k o2) z1
  · rcases P.nw a o q with q | q
    · exact .inl q
    · exact .inr (.inl q)
theorem td_callW {spec : WSpec} {i : Nat} {ma : MA} {E : L2.St → XK} : ∀ σ H Q, tD K C (mCallW spec i ma) σ H Q → tCallG (spW K spec) E (tCons (tVar i) (tDA K C ma)) σ H Q := by
  rintro σ H Q ⟨F, sd, Qd, R, ⟨⟨n0, hn0⟩, h⟩, k⟩
  have hi := R.slot i
  rw [hn0] at hi
  obtain ⟨p, _, _, _, e1, _⟩ := hi
  refine ⟨.ref p, gv_some.mp e1, F, sd, _, R, h, fun vs H1 F1 ds sd1 R1 S1 rs h1 => ?_⟩
  obtain ⟨n, hn, h1⟩ := h1
  have hi1 := R1.slot i
  rw [hn] at hi1
  obtain ⟨p', a, b, c, z1, z2, z3, z4, z5⟩ := hi1
  rw [e1] at z1; cases z1
  refine ⟨F1, p, vs, n, a, b, c, ds, _, rfl, R1.ext, z3, z2, z5, rs, h1, fun v H' F' r n' P ro q => ?_⟩
  obtain ⟨d, hf, q⟩ := q
  obtain ⟨R2, S2⟩ := R1.postW hn e1 ⟨a, b, c, z2, z5⟩ P
  obtain ⟨F2, R3, S3, rp⟩ := R2.res (S1.trans S2) ro (fun p hp => ⟨S1.st p hp, fun z => (R1.fresh hp).1 (S2.ow p z), (R1.fresh hp).2⟩) hf
  exact k v H' F2 d _ R3 S3 rp q
theorem pd_callW {spec : WSpec} {i : Nat} {ma : MA} {x y : Str} {p p2 pos : Pos} {es : List Expr} {k j : Nat} {W : WX} (c : CalW X.prog X.w X.K X.mg X.base k x spec) (hr : RoomG j X.A) (hk : k ≤ j) (tk : Takes X W) (hy : PE X (.Name y p2) (tVar i)) (ha : PA X es (tDA X.K C ma)) (hg : Gl X x := by rfl)
    (hdb : (x == ("__debug__" : Str)) = false := by decide) (he : starEach (.Name y p2 :: es) X.env = (false, eval (.Name y p2) X.env) :: starEach es X.env := by rfl) (hpl : (backTo pos (starEach es X.env)).any (·.1) = false := by rfl) :
    PE X (.Call (.Name x p) (.Name y p2 :: es) [] pos) (tD X.K C (mCallW spec i ma)) := by
  obtain ⟨f, fd, ps, F, hm, hkp, hb⟩ := c.ex
  exact pe_imp (pe_callG F (hr.mono hk) hg hm hkp hb (passAt tk) (pa_cons hy ha he) hdb he hpl) td_callW
/-- the def's order out of what is given by place and by keyword -/
structure Ord (g : {α : Type} → List α → List α → List α) : Prop where
  rel : ∀ {α β : Type} (R : α → β → Prop) {as cs : List α} {bs ds : List β}, Paired R as bs → Paired R cs ds → Paired R (g as cs) (g bs ds)
theorem rpA_paired {F : Hp} : ∀ {vs : List V} {ds : List PyData}, RpA K F vs ds → Paired (Rp K F) vs ds
  | _, _, .nil => .nil
  | _, _, .cons h r => .cons h (rpA_paired r)
theorem paired_rpA {F : Hp} : ∀ {vs : List V} {ds : List PyData}, Paired (Rp K F) vs ds → RpA K F vs ds
  | _, _, .nil => .nil
  | _, _, .cons h r => .cons h (paired_rpA r)
structure CalK (P : Program) (w : World) (K : PySem.W.Frag) (mg : Str → Option Value) (base : Heap) (CN : String → Option Addr) (k : Nat) (x : Str) (spec : PSpec) (ks : List Str) (g : {α : Type} → List α → List α → List α) : Prop where
  ex : ∃ f fd ps, FnG P w K mg base k f fd ps (spP K CN spec) ∧ mg x = some (.ref f) ∧ PySem.W.keepIn K (.ref f) = true ∧ KBinds K fd ps ks g g
  ord : Ord g
theorem td_callK {CN : String → Option Addr} {spec : PSpec} {W : WD} {ma mk : MA} {g : {α : Type} → List α → List α → List α} (og : Ord g) : ∀ σ H Q, tD K C (mCallK spec W g ma mk) σ H Q → tCallGK (spP K CN spec) g (WE (wD K C CN W)) (tDA K C ma) (tDA K C mk) σ H Q := by
  rintro σ H Q ⟨F, sd, Qd, R, h, k⟩
  refine ⟨F, sd, _, R, h, fun vs H1 F1 ds sd1 R1 S1 rs h1 => ⟨F1, sd1, _, R1, h1, fun zs H2 F2 es sd2 R2 S2 rz h2 => ?_⟩⟩
  refine ⟨F2, g ds es, _, _, R2.ext, paired_rpA (og.rel _ (rpA_paired (rs.mono S2.fr)) (rpA_paired rz)), h2, fun v H' F' r P ro q => ?_, fun c a H' F' hc P q => ?_⟩
  · obtain ⟨d, hf, q⟩ := q
    obtain ⟨R3, S3⟩ := R2.post P
    have S12 := S1.trans S2
    obtain ⟨F3, R4, S4, rp⟩ := R3.res (S12.trans S3) ro (fun p hp => ⟨S12.st p hp, fun z => (R2.fresh hp).1 (S3.ow p z), (R2.fresh hp).2⟩) hf
    exact k v H' F3 d sd2 R4 S4 rp q
  · exact ⟨c, a, F', sd2, hc, rfl, rfl, (R2.post P).1, q⟩
theorem pd_callK {CN : String → Option Addr} {spec : PSpec} {W : WD} {ma mk : MA} {x : Str} {p pos : Pos} {e : Expr} {es : List Expr} {kws : List Keyword} {ks : List Str} {k j : Nat} {g : {α : Type} → List α → List α → List α} (c : CalK X.prog X.w X.K X.mg X.base CN k x spec ks g) (hr : RoomG j X.A) (hk : k ≤ j) (tk : Takes X (wD X.K C CN W))
    (ha : PA X (e :: es) (tDA X.K C ma)) (hkw : PK X kws (tDA X.K C mk)) (hg : Gl X x := by rfl) (hall : (backToKw pos (keywordEach kws X.env)).all (·.1.isSome) = true := by rfl) (hks : (backToKw pos (keywordEach kws X.env)).filterMap (·.1) = ks := by rfl)
    (hdb : (x == ("__debug__" : Str)) = false := by decide) (he : starEach (e :: es) X.env = (false, eval e X.env) :: starEach es X.env := by rfl)
    (hpl : ((backTo pos (starEach (e :: es) X.env)).any (·.1) || (backToKw pos (keywordEach kws X.env)).any (·.1.isNone)) = false := by rfl) : PE X (.Call (.Name x p) (e :: es) kws pos) (tD X.K C (mCallK spec W g ma mk)) := by
  obtain ⟨f, fd, ps, F, hm, hkp, hb⟩ := c.ex
  exact pe_imp (pe_callGK F (hr.mono hk) hg hm hkp hb (passAt tk) ha hkw hall hks hdb he hpl) (td_callK c.ord)
theorem pd_callK0 {CN : String → Option Addr} {spec : PSpec} {W : WD} {mk : MA} {x : Str} {p pos : Pos} {kws : List Keyword} {ks : List Str} {k j : Nat} {g : {α : Type} → List α → List α → List α} (c : CalK X.prog X.w X.K X.mg X.base CN k x spec ks g) (hr : RoomG j X.A) (hk : k ≤ j) (tk : Takes X (wD X.K C CN W))
    (hkw : PK X kws (tDA X.K C mk)) (hg : Gl X x := by rfl) (hall : (backToKw pos (keywordEach kws X.env)).all (·.1.isSome) = true := by rfl) (hks : (backToKw pos (keywordEach kws X.env)).filterMap (·.1) = ks := by rfl)
    (hdb : (x == ("__debug__" : Str)) = false := by decide) (hpl : ((backTo pos (starEach [] X.env)).any (·.1) || (backToKw pos (keywordEach kws X.env)).any (·.1.isNone)) = false := by rfl) : PE X (.Call (.Name x p) [] kws pos) (tD X.K C (mCallK spec W g mNil mk)) := by
  obtain ⟨f, fd, ps, F, hm, hkp, hb⟩ := c.ex
  refine pe_imp (pe_callGK0 F (hr.mono hk) hg hm hkp hb (passAt tk) hkw hall hks hdb hpl) fun σ H Q h => ?_
  have h' := td_callK (CN := CN) c.ord σ H Q h
  obtain ⟨F, sd, Qd, R, h1, h2⟩ := h'
  exact h2 [] H F [] sd R .refl .nil h1
/-- a call without arguments -/
theorem pd_call0 {CN : String → Option Addr} {spec : PSpec} {W : WD} {x : Str} {p pos : Pos} {k j : Nat} (c : CalP X.prog X.w X.K X.mg X.base CN k x spec) (hr : RoomG j X.A) (hk : k ≤ j) (tk : Takes X (wD X.K C CN W)) (hg : Gl X x := by rfl)
    (hdb : (x == ("__debug__" : Str)) = false := by decide) : PE X (.Call (.Name x p) [] [] pos) (tD X.K C (mCall spec W mNil)) := by
  obtain ⟨f, fd, ps, F, hm, hkp, hb⟩ := c.ex
  refine pe_imp (pe_callG0 F (hr.mono hk) hg hm hkp hb (passAt tk) hdb) fun σ H Q h => ?_
  obtain ⟨F, sd, Qd, R, h1, h2⟩ := td_call (CN := CN) σ H Q h
  exact h2 [] H F [] sd R .refl .nil h1
end
end DL
namespace DL
open PySem PySem.Spec PyProof.Rows L2
/-- a def's body's context -/
abbrev cxD (P : Program) (w : World) (K : PySem.W.Frag) (mg : Str → Option Value) (base : Heap) (N : List Str) (qual : Str) (sc : Scope) (f : Addr) (cdv : Value) (A : Around) (outer : List Env) (s : Shared) (H : Hp) (E : XK) : Cx :=
  cxOf (L2.CX P w) P w K mg base N qual sc f cdv A outer s H E
theorem sget_va : ∀ {ds : List PyData} {k i : Nat} {s : S}, sget (ds.map S.va ++ List.replicate k .no) i = s → (∃ d, ds[i]? = some d ∧ s = .va d) ∨ s = .no
  | [], k, i, s, h => by
    right
    rw [← h]
    have : ∀ (k i : Nat), sget (List.replicate k S.no) i = .no := by
      intro k
      induction k with
      | zero => intro _; rfl
      | succ k ih => intro i; cases i with
        | zero => rfl
        | succ i => exact ih i
    exact this k i
  | d :: ds, k, 0, s, h => .inl ⟨d, rfl, h.symm⟩
  | d :: ds, k, i + 1, s, h => by
    rcases sget_va (ds := ds) (k := k) (i := i) h with ⟨d', h1, h2⟩ | h
    · exact .inl ⟨d', by simpa using h1, h2⟩
    · exact .inr h
theorem start_gv {N : List Str} {vs : List V} {i : Nat} {v : V} (h : vs[i]? = some v) : gv (L2.start N vs) i = some v := by
  unfold L2.start gv
  have hi := (List.getElem?_eq_some_iff.mp h).1
  rw [List.getElem?_append_left (by simpa using hi), List.getElem?_map, h]
  rfl
section
variable {P : Program} {w : World} {K : PySem.W.Frag} {mg : Str → Option Value} {base : Heap} {CN : String → Option Addr}
theorem rs_start {F H : Hp} {N : List Str} {vs : List V} {ds : List PyData} (e : Same F H) (r : RpA K F vs ds) (hl : ds.length ≤ N.length) : Rs K ⟨F, H, fun _ => False, false⟩ F H (L2.start N vs) (slots0 N.length ds) where
  len := by unfold L2.start slots0; simp [r.length]
  grow := Same.refl _
  ext := e
  new := fun a o h => .inl h
  keep := fun a o h _ => h
  still := fun a h => h
  slot := fun i => by
    rcases sget_va (s := sget (slots0 N.length ds) i) rfl with ⟨d, h1, h2⟩ | h
    · rw [h2]
      obtain ⟨v, e1, rv⟩ := r.get h1
      exact ⟨v, start_gv e1, rv⟩
    · rw [h]; trivial
  sep := fun i j p _ o _ _ => by
    rcases sget_va (s := sget (slots0 N.length ds) i) rfl with ⟨d, h1, h2⟩ | h
    · rw [h2] at o; cases o
    · rw [h] at o; cases o
theorem takes_cxD {N : List Str} {qual : Str} {sc : Scope} {f : Addr} {cdv : Value} {A : Around} {outer : List Env} {s : Shared} {H : Hp} {E : XK} {W : WX} (h : ∀ cls d σ H, W cls d σ H → E cls d H) : Takes (cxD P w K mg base N qual sc f cdv A outer s H E) W :=
  (takes_of (X := cxD P w K mg base N qual sc f cdv A outer s H E) rfl rfl rfl rfl).imp h
/-- a def that is handed data -/
theorem fun_okP {x qual : Str} {st : Stmt} {f : Addr} {fd : FuncData} {N ps : List Str} {k : Nat} {spec : PSpec} {m : WD → MS} (F : Fun K x qual st f fd) (S : FnScope N ps (defScope st)) (hN : ps.length ≤ N.length) (len : ∀ ds Q E, spec ds Q E → ds.length = ps.length)
    (hbody : ∀ (cdv : Value) (A : Around) (outer : List Env) (s : Shared) (H : Hp) (E : XK) (C : Ct) (W : WD), C.isW = false → RoomG k (A.deeper (envOfC qual (defScope st) s.heap.objs.size f cdv)) →
      Takes (cxD P w K mg base N qual (defScope st) f cdv A outer s H E) (wD K C CN W) → PSs (cxD P w K mg base N qual (defScope st) f cdv A outer s H E) (defBody st) (tDS K C (m W)))
    (rd : ∀ ds Q E, spec ds Q E → m (fun c _ => E c) (endP Q) (slots0 N.length ds)) : FnG P w K mg base (k + 1) f fd ps (spP K CN spec) := by
  refine fun_okG F S (fun vs H Q E h => ?_) (fun cdv A outer s H vs Q E hr h => ?_)
  · obtain ⟨F0, ds, Qd, Ed, _, r, hs, _⟩ := h
    rw [r.length]; exact len _ _ _ hs
  · obtain ⟨F0, ds, Qd, Ed, e, r, hs, hq, he⟩ := h
    have R0 := rs_start (N := N) e r (by rw [len _ _ _ hs]; exact hN)
    have post : ∀ {F1 H1 : Hp} {σ : L2.St} {sd : DSt}, Rs K ⟨F0, H, fun _ => False, false⟩ F1 H1 σ sd → Post K F0 H F1 H1 := fun R => ⟨R.grow, R.ext, fun a o z => R.keep a o z (fun q => q), R.new⟩
    refine ⟨_, hbody cdv A outer s H E ⟨F0, H, fun _ => False, false⟩ (fun c _ => Ed c) rfl hr (takes_cxD fun cls d σ H' hw => ?_), F0, _, endP Qd, R0, ⟨fun F1 H1 σ sd _ R q => ?_, fun F1 H1 σ sd v r _ R rv own q => ?_, fun _ _ _ _ _ _ z => z.elim, fun _ _ _ _ _ _ z => z.elim⟩, rd ds Qd Ed hs⟩
    · obtain ⟨c, a, F1, sd, hc, rfl, rfl, R, q⟩ := hw
      exact he c a H' F1 hc (post R) q
    · exact hq .non H1 F1 (.va .none) (post R) .non q
    · refine hq v H1 F1 r (post R) ?_ q
      cases r with
      | no => trivial
      | va d => obtain ⟨v', e1, q⟩ := rv; cases e1; exact q
      | own ds' => obtain ⟨p, vs', e1, h1, h2, h3, h4⟩ := rv; cases e1; exact ⟨p, vs', rfl, h1, h2, h3, h4⟩
      | scr ns => obtain ⟨p, e1, h1⟩ := rv; cases e1; exact ⟨p, rfl, h1⟩
      | exc a => exact Option.some.inj rv
      | ins c es => obtain ⟨p, Cc, dx, fs, e1, h1, h2, h3, oc, h4⟩ := rv; cases e1; exact ⟨p, Cc, dx, fs, rfl, h1, h2, own rfl p rfl, oc, h4⟩
      | well n => obtain ⟨p, a, b, c, e1, h1, h2, h3, h4⟩ := rv; cases e1; exact ⟨p, a, b, c, rfl, h1, h2, own rfl p rfl, h4⟩
theorem rs_startW {F H : Hp} {N : List Str} {p : Addr} {vs : List V} {ds : List PyData} {n : Nat} {a b c : Int} (e : Same F H) (hF : F p = none) (hp : H p = some (.lst [.int a, .int b, .int c])) (hw : WellOk n a b c) (r : RpA K F vs ds) (hl : ds.length + 1 ≤ N.length) :
    Rs K ⟨F, H, fun q => q = p, true⟩ F H (L2.start N (.ref p :: vs)) (slotsW N.length n ds) where
  len := by unfold L2.start slotsW slots0; simp [r.length]; omega
  grow := Same.refl _
  ext := e
  new := fun a o h => .inl h
  keep := fun a o h _ => h
  still := fun a h => h
  slot := fun i => by
    cases i with
    | zero => exact ⟨p, a, b, c, rfl, hp, hF, .inl ⟨rfl, rfl⟩, hw⟩
    | succ i =>
      show SlotOk K _ F H _ (sget (slots0 (N.length - 1) ds) i)
      rcases sget_va (s := sget (slots0 (N.length - 1) ds) i) rfl with ⟨d, h1, h2⟩ | h
      · rw [h2]
        obtain ⟨v, e1, rv⟩ := r.get h1
        exact ⟨v, start_gv (i := i + 1) (by simpa using e1), rv⟩
      · rw [h]; trivial
  sep := fun i j q hij o1 o2 => by
    have z : ∀ k, isOwn (sget (slotsW N.length n ds) k) = true → k = 0 := fun k o => by
      cases k with
      | zero => rfl
      | succ k =>
        have o : isOwn (sget (slots0 (N.length - 1) ds) k) = true := o
        rcases sget_va (s := sget (slots0 (N.length - 1) ds) k) rfl with ⟨d, h1, h2⟩ | h
        · rw [h2] at o; cases o
        · rw [h] at o; cases o
    exact absurd ((z i o1).trans (z j o2).symm) hij
theorem fun_okW {x qual : Str} {st : Stmt} {f : Addr} {fd : FuncData} {N ps : List Str} {k : Nat} {spec : WSpec} {m : MS} (F : Fun K x qual st f fd) (S : FnScope N ps (defScope st)) (hN : ps.length ≤ N.length) (len : ∀ n ds Q, spec n ds Q → ds.length + 1 = ps.length)
    (hbody : ∀ (cdv : Value) (A : Around) (outer : List Env) (s : Shared) (H : Hp) (E : XK) (C : Ct), RoomG k (A.deeper (envOfC qual (defScope st) s.heap.objs.size f cdv)) →
      Takes (cxD P w K mg base N qual (defScope st) f cdv A outer s H E) (wD K C CN fun _ _ => False) → PSs (cxD P w K mg base N qual (defScope st) f cdv A outer s H E) (defBody st) (tDS K C m))
    (rd : ∀ n ds Q, spec n ds Q → m (endW Q) (slotsW N.length n ds)) : FnG P w K mg base (k + 1) f fd ps (spW K spec) := by
  refine fun_okG F S (fun vs H Q E h => ?_) (fun cdv A outer s H vs Q E hr h => ?_)
  · obtain ⟨F0, p, ws, n, a, b, c, ds, Qd, rfl, _, _, _, _, r, hs, _⟩ := h
    have := len _ _ _ hs
    have := r.length
    simp; omega
  · obtain ⟨F0, p, ws, n, a, b, c, ds, Qd, rfl, e, hF, hp, hw, r, hs, hq⟩ := h
    have R0 := rs_startW (N := N) e hF hp hw r (by rw [len _ _ _ hs]; exact hN)
    have post : ∀ {F1 H1 : Hp} {σ : L2.St} {sd : DSt} {n' : Nat}, Rs K ⟨F0, H, fun q => q = p, true⟩ F1 H1 σ sd → sget sd 0 = .well n' → PostW K p F0 H F1 H1 n' := fun {F1 H1 σ sd n'} R h0 => by
      have hs0 := R.slot 0
      rw [h0] at hs0
      obtain ⟨p', a', b', c', _, z2, _, z4, z5⟩ := hs0
      refine ⟨R.grow, R.ext, fun a o za z => R.keep a o z za, R.new, ?_⟩
      rcases z4 with z4 | z4
      · have : p' = p := z4.2
        subst this
        exact ⟨a', b', c', z2, z5⟩
      · cases z4.1
    refine ⟨_, hbody cdv A outer s H E ⟨F0, H, fun q => q = p, true⟩ hr (takes_cxD fun cls d σ H' hw => ?_), F0, _, endW Qd, R0, ⟨fun F1 H1 σ sd _ R q => ?_, fun F1 H1 σ sd v r _ R rv own q => ?_, fun _ _ _ _ _ _ z => z.elim, fun _ _ _ _ _ _ z => z.elim⟩, rd n ds Qd hs⟩
    · obtain ⟨c, a, F1, sd, hc, _, _, R, q⟩ := hw
      exact q.elim
    · obtain ⟨n', h0, q⟩ := q
      exact hq .non H1 F1 (.va .none) n' (post R h0) .non q
    · obtain ⟨n', h0, q⟩ := q
      refine hq v H1 F1 r n' (post R h0) ?_ q
      cases r with
      | no => trivial
      | va d => obtain ⟨v', e1, q⟩ := rv; cases e1; exact q
      | own ds' => obtain ⟨p, vs', e1, h1, h2, h3, h4⟩ := rv; cases e1; exact ⟨p, vs', rfl, h1, h2, h3, h4⟩
      | scr ns => obtain ⟨p, e1, h1⟩ := rv; cases e1; exact ⟨p, rfl, h1⟩
      | exc a => exact Option.some.inj rv
      | ins c es => obtain ⟨p, Cc, dx, fs, e1, h1, h2, h3, oc, h4⟩ := rv; cases e1; exact ⟨p, Cc, dx, fs, rfl, h1, h2, own rfl p rfl, oc, h4⟩
      | well n => obtain ⟨p, a, b, c, e1, h1, h2, h3, h4⟩ := rv; cases e1; exact ⟨p, a, b, c, rfl, h1, h2, own rfl p rfl, h4⟩
end
section
variable {K : PySem.W.Frag} {X : Cx} {C : Ct}
theorem pmk_own0 {c : Addr} {bmB : List Value} {B newId initId : String} {x : Str} {p pos : Pos} (F : ExcBaseFacts B newId initId bmB) (q : PySem.W.excIn X.K c bmB newId = true) (gC : X.mg x = some (.ref c)) (kC : PySem.W.keepIn X.K (.ref c) = true) (r : Raises X (.ref c)) (hg : Gl X x)
    (hdb : (x == ("__debug__" : Str)) = false := by decide) : PMk X (.Call (.Name x p) [] [] pos) (fun _ H Q => Q (.ref c) none H) := by
  intro pins s σ H Q I h
  refine wpAny_Call_Name_kw (ld_glob I hg gC (PySem.W.callWith_K0 I.kIn kC ?_) hdb)
  obtain ⟨bm, N, nm, qn, bs, hdct, sn, sub, ab, col, dd, k0, k1, k2, k3, k5, mN, hC, hN, hni, T⟩ := exc_obj I.kIn q
  obtain ⟨hp, g, d, t, os⟩ := s
  exact wpAny_call_exc_subT F T hC hN hni (fun h' e hm => mk_of I hm r h (I.hok.gone hm.new)) (Nat.zero_le _)
/-- what the written part says of an own error class over ValueError -/
structure ExcCls (K : PySem.W.Frag) (mg : Str → Option Value) (x : Str) (c : Addr) : Prop where
  gC : mg x = some (.ref c)
  q : PySem.W.excIn K c [.type "ValueError", .type "Exception", .type "BaseException", .type "object"] "ValueError.__new__" = true
  kC : PySem.W.keepIn K (.ref c) = true
  b : PySem.W.subIn K (.ref c) (.type "BaseException") = some true
  t : PySem.W.typeIn K (.ref c) = some (.type "type")
theorem pds_raise {CN : String → Option Addr} {W : WD} {cn : String} {x : Str} {c : Addr} {p pos pos2 : Pos} (hc : X.calm = true) (tk : Takes X (wD X.K C CN W)) (T : ExcCls X.K X.mg x c) (hn : CN cn = some c) (hg : Gl X x := by rfl) (hdb : (x == ("__debug__" : Str)) = false := by decide) :
    PS X (.Raise (some (.Call (.Name x p) [] [] pos)) none pos2) (tDS X.K C (mRaise cn W)) := ps_imp (ps_raise hc tk (pmk_own0 PySem.F.excBase_ValueError T.q T.gC T.kC (raises_own T.b T.t) hg hdb)) (by
  rintro D σ H ⟨F, sd, Dd, R, E, h⟩
  exact ⟨cn, c, F, sd, hn, rfl, rfl, R, h⟩)
end
end DL
namespace DL
open PySem PySem.Spec PyProof.Rows L2
/-- a text and a flat thing -/
def kvFlat (kv : PyData × PyData) : Bool := (match kv.1 with | .str _ => true | _ => false) && flatD kv.2
mutual
/-- every dict in it is empty -/
def dE : PyData → Bool
  | .none | .bool _ | .int _ | .str _ => true
  | .list xs => dEs xs
  | .tuple xs => dEs xs
  | .dict kvs => kvs.all kvFlat
def dEs : List PyData → Bool
  | [] => true
  | x :: xs => dE x && dEs xs
end
mutual
def noL : PyData → Bool
  | .none | .bool _ | .int _ | .str _ => true
  | .list _ => false
  | .tuple xs => noLs xs
  | .dict kvs => kvs.all kvFlat
def noLs : List PyData → Bool
  | [] => true
  | x :: xs => noL x && noLs xs
end
def reprOk (d : PyData) : Bool := dE d && (!d.hasDict || noL d) && d.showable && decide (d.shown.length ≤ 1000000) && decide (d.depth ≤ 64)
def bRepr : List PyData → Option PyData
  | [d] => if reprOk d = true then some (.str d.shown) else none
  | _ => none
section
variable {X : Cx} {pins : List (Addr × Obj)} {σ : L2.St} {H : Hp} {s : Shared} {K : PySem.W.Frag}
theorem flat_reads {F : Hp} {h : Heap} {d : PyData} {v : V} {u : Value} (hf : flatD d = true) (r : Rp K F v d) (rv : RelV v u) : Reads h u d [] := by
  cases r with
  | non => cases rv; exact .none
  | bl b => cases rv; exact .bool b
  | int i => obtain ⟨t, rfl⟩ := rv; exact .int i t
  | str x => obtain ⟨t, rfl⟩ := rv; exact .str x t
  | lst _ _ => cases hf
  | tup _ _ => cases hf
  | dct _ _ => cases hf
  | ins _ _ _ => cases hf
  | ex0 _ _ => cases hf
  | exF _ _ _ _ => cases hf
theorem key_str {P : Program} {w : World} {x : Str} {v : Value} (h : (mixKind P w).is (Sum.inr x) v = true) : ∃ t, v = .str x t := by
  have h : Value.isStrOf x v = true := h
  unfold Value.isStrOf at h
  split at h
  · simp at h
    rw [h]
    exact ⟨_, rfl⟩
  · cases h
theorem dict_reads {P : Program} {w : World} {F : Hp} {h : Heap} : ∀ {kvs : List (Key × V)} {es : List (PyData × PyData)} {vs : List (Key × Value)} {l : List DictEntry}, RpD K F kvs es → es.all kvFlat = true → KV kvs vs → Pairs (mixKind P w) l vs → ReadsAll h (l.map fun x => x.key) (es.map fun x => x.1) [] ∧ ReadsAll h (l.map fun x => x.val) (es.map fun x => x.2) [] := by
  intro kvs
  induction kvs with
  | nil =>
    intro es vs l rd _ kv pr
    cases rd
    cases kv
    cases pr
    exact ⟨.nil, .nil⟩
  | cons p kvs ih =>
    intro es vs l rd ha kv pr
    obtain ⟨k, v⟩ := p
    cases rd with
    | cons rd r =>
    cases kv with
    | cons h1 h2 =>
      cases pr with
      | cons p1 p2 p3 =>
        rw [List.all_cons, Bool.and_eq_true] at ha
        obtain ⟨a1, a2⟩ := ih r ha.2 h2 p3
        have hk := ha.1
        unfold kvFlat at hk
        rw [Bool.and_eq_true] at hk
        cases k with
        | inl i => exact absurd hk.1 (by simp [keyD])
        | inr x =>
          rw [← h1.1] at p1
          obtain ⟨t, e⟩ := key_str p1
          refine ⟨?_, ?_⟩
          · rw [List.map_cons, List.map_cons, e]
            exact .cons (.str x t) a1
          · rw [List.map_cons, List.map_cons, p2]
            exact .cons (flat_reads hk.2 rd h1.2) a2
mutual
theorem Rp.reads (I : Inv X pins σ H s) {F : Hp} (e : Same F H) : ∀ (d : PyData) (v : V) (u : Value), Rp X.K F v d → RelV v u → dE d = true → ∃ as, Reads s.heap u d as ∧ (noL d = true → sysModules ∉ as)
  | .none, _, _, h, r, _ => by cases h; cases r; exact ⟨_, .none, fun _ z => nomatch z⟩
  | .bool b, _, _, h, r, _ => by cases h; cases r; exact ⟨_, .bool b, fun _ z => nomatch z⟩
  | .int i, _, _, h, r, _ => by cases h; obtain ⟨t, rfl⟩ := r; exact ⟨_, .int i t, fun _ z => nomatch z⟩
  | .str x, _, _, h, r, _ => by cases h; obtain ⟨t, rfl⟩ := r; exact ⟨_, .str x t, fun _ z => nomatch z⟩
  | .list ds, _, _, h, r, hd => by
    cases h with
    | lst hs ha =>
      cases r
      obtain ⟨z, its, n, rv, e1⟩ := I.hok _ _ (e _ _ hs)
      obtain ⟨as, hr, _⟩ := RpA.reads I e ds _ its ha rv (by simpa [dE] using hd)
      exact ⟨_, .list e1 rfl rfl hr, fun z => by simp [noL] at z⟩
  | .tuple ds, _, _, h, r, hd => by
    cases h with
    | tup hs ha =>
      cases r
      obtain ⟨its, rv, ⟨o, ho, hc, n, hdt⟩, _⟩ := I.tuple (same_t e hs)
      obtain ⟨as, hr, hn⟩ := RpA.reads I e ds _ its ha rv (by simpa [dE] using hd)
      exact ⟨_, .tuple ho hc hdt hr, fun z => hn (by simpa [noL] using z)⟩
  | .dict es, _, _, h, r, hd => by
    cases h with
    | dct hs ha =>
      cases r
      have he : es.all kvFlat = true := by simpa only [dE] using hd
      obtain ⟨z, y, vs, rv, o, es', ep, h1, h2, h3, h4, h5, h6⟩ := I.hok _ _ (e _ _ hs)
      obtain ⟨a1, a2⟩ := dict_reads (h := s.heap) ha he rv h5
      exact ⟨_, .dict h1 h2.1 h3 a1 a2, fun _ hm => by
        simp at hm
        rw [hm] at y
        simp at y⟩
    | ins _ _ _ => cases hd
    | ex0 _ _ => cases hd
    | exF _ _ _ _ => cases hd
theorem RpA.reads (I : Inv X pins σ H s) {F : Hp} (e : Same F H) : ∀ (ds : List PyData) (vs : List V) (us : List Value), RpA X.K F vs ds → Vals vs us → dEs ds = true → ∃ as, ReadsAll s.heap us ds as ∧ (noLs ds = true → sysModules ∉ as)
  | [], _, _, h, r, _ => by cases h; cases r; exact ⟨_, .nil, fun _ z => nomatch z⟩
  | d :: ds, _, _, h, r, hd => by
    have hd' : dE d = true ∧ dEs ds = true := by simpa [dEs] using hd
    cases h with
    | cons h1 h2 =>
      cases r with
      | cons r1 r2 =>
        obtain ⟨as, q1, n1⟩ := Rp.reads I e d _ _ h1 r1 hd'.1
        obtain ⟨bs, q2, n2⟩ := RpA.reads I e ds _ _ h2 r2 hd'.2
        refine ⟨_, .cons q1 q2, fun z hm => ?_⟩
        have z' : noL d = true ∧ noLs ds = true := by simpa [noLs] using z
        rcases List.mem_append.mp hm with hm | hm
        · exact n1 z'.1 hm
        · exact n2 z'.2 hm
end
def rRepr (K : PySem.W.Frag) : List V → Hp → VK → Prop := fun xs H Q => ∃ x d F, xs = [x] ∧ Same F H ∧ Rp K F x d ∧ reprOk d = true ∧ Q (.str d.shown) H
theorem cr_repr {k : Nat} (hr : RoomG k X.A) : CallR X (.builtin "repr") (rRepr X.K) := by
  intro pins s σ H xs us Q I r h
  obtain ⟨x, d, F, rfl, e, rp, ok, q⟩ := h
  obtain ⟨u, rfl, ru⟩ := vals1 r
  unfold reprOk at ok
  simp only [Bool.and_eq_true, Bool.or_eq_true, Bool.not_eq_true', decide_eq_true_eq] at ok
  obtain ⟨⟨⟨⟨o1, o2⟩, o3⟩, o4⟩, o5⟩ := ok
  have hl : d.shown.length ≤ sizeLine := Nat.le_trans o4 (by decide)
  have hun := hr.r.un
  obtain ⟨as, rd, na⟩ := Rp.reads I e d x u rp ru o1
  have hd : d.hasDict = true → sysModules ∉ as := fun z => o2.elim (fun w => by rw [w] at z; cases z) na
  have big : ∀ {a : Addr}, u = .ref a → wpAny (model X.prog X.w) X.A (call (.builtin "repr") [u]) (EP X pins σ Q) X.xe s := fun {a} eu => by
    subst eu
    exact repr_of_reads' rd o3 hd hr.g (by omega) (fun _ _ z => z) (fun h' u' tk hk => ⟨.str _, H, I.kept (t' := tk) hk, ⟨_, rfl⟩, q⟩) hl
  cases rp with
  | non => cases ru; exact PySem.P.repr_of_none ⟨.str _, H, I.tok _, ⟨_, rfl⟩, q⟩
  | bl b => cases ru; exact PySem.P.repr_of_bool ⟨.str _, H, I.tok _, ⟨_, rfl⟩, by cases b <;> exact q⟩
  | int i => obtain ⟨t, rfl⟩ := ru; exact PySem.P.repr_of_int (by simpa [PyData.showable] using o3) ⟨.str _, H, I.tok _, ⟨_, rfl⟩, q⟩
  | str z => obtain ⟨t, rfl⟩ := ru; exact PySem.P.repr_of_str ⟨.str _, H, I.tok _, ⟨_, rfl⟩, q⟩ (by simpa only [PyData.shown] using hl)
  | lst _ _ => exact big ru
  | tup _ _ => exact big ru
  | dct _ _ => exact big ru
  | ins _ _ _ => exact big ru
  | ex0 _ _ => exact big ru
  | exF _ _ _ _ => exact big ru
theorem rc_repr {K : PySem.W.Frag} : RLC K (rRepr K) bRepr := by
  intro F H xs as z Q e _ rx h k
  unfold bRepr at h
  split at h
  · obtain ⟨x, rfl, r⟩ := rpA1 rx
    split at h
    · rename_i ok
      cases h
      exact ⟨x, _, F, rfl, e, r, ok, k _ F H .id (.str _)⟩
    · cases h
  · cases h
theorem pd_dict0 {C : Ct} {pos : Pos} : PE X (.Dict [] [] pos) (tD X.K C mDict0) := pe_imp pe_dnewK (by
  rintro σ H Q ⟨F, sd, Qd, R, h, k⟩ p hp
  exact k (.ref p) _ _ _ sd (R.al (.new hp)) (.al R (.new hp)) (.dct upd_same .nil) h)
end
end DL
namespace DL
open PySem PySem.Spec PyProof.Rows L2
section
variable {K : PySem.W.Frag} {X : Cx} {C : Ct}
structure RsA (K : PySem.W.Frag) (C : Ct) (F H H0 : Hp) (σ : L2.St) (sd : DSt) (vs : List V) (rs : List S) : Prop where
  len : vs.length = rs.length
  ok : ∀ (i : Nat) (v : V) (r : S), vs[i]? = some v → rs[i]? = some r → RvOk K C F H v r ∧ Fre σ sd v r ∧ (isOwn r = true → ∀ q, v = .ref q → H0 q = none)
  ne : ∀ (i j : Nat) (v w : V) (r u : S), i < j → vs[i]? = some v → vs[j]? = some w → rs[i]? = some r → rs[j]? = some u → isOwn r = true → isOwn u = true → v ≠ w
def tDAR (K : PySem.W.Frag) (C : Ct) (ms : List MR) : TA := fun σ H Q => ∃ F sd Qd, Rs K C F H σ sd ∧ mrs ms sd Qd ∧ ∀ vs H' F' rs sd', Rs K C F' H' σ sd' → Stp σ sd F H F' H' sd' → RsA K C F' H' H σ sd' vs rs → Qd rs sd' → Q vs H'
theorem pdar_nil : PA X [] (tDAR X.K C []) := pa_imp pa_nil (by
  rintro σ H Q ⟨F, sd, Qd, R, h, k⟩
  exact k [] H F [] sd R .refl ⟨rfl, fun i v r h => by simp at h, fun i j v w r u _ h => by simp at h⟩ h)
theorem rv_step {F H F' H' : Hp} {σ : L2.St} {sd sd' : DSt} {v : V} {r : S} (h : RvOk K C F H v r) (fre : Fre σ sd v r) (S : Stp σ sd F H F' H' sd') : RvOk K C F' H' v r ∧ Fre σ sd' v r := by
  refine ⟨SlotOk.grow S.fr (fun q o ho e eh en => ?_) h, fun o q e z => fre o q e (S.ow q z)⟩
  cases e
  have nq := fre ho q rfl
  refine ⟨S.kp q o eh nq, ?_⟩
  cases z : F' q with
  | none => rfl
  | some y =>
    rcases S.nw q y z with z | z | z
    · rw [en] at z; cases z
    · rw [eh] at z; cases z
    · exact (nq z).elim
theorem pdar_cons {e : Expr} {es : List Expr} {m : MR} {ms : List MR} (he : PE X e (tDR X.K C m)) (hr : PA X es (tDAR X.K C ms)) (hs : starEach (e :: es) X.env = (false, eval e X.env) :: starEach es X.env := by rfl) : PA X (e :: es) (tDAR X.K C (m :: ms)) :=
  pa_imp (pa_cons he hr hs) (by
  rintro σ H Q ⟨F, sd, Qd, R, h, k⟩
  refine ⟨F, sd, _, R, h, fun v H1 F1 r sd1 R1 S1 rv fre new h1 => ⟨F1, sd1, _, R1, h1, fun ws H2 F2 us sd2 R2 S2 A h2 => ?_⟩⟩
  obtain ⟨rv2, fre2⟩ := rv_step rv fre S2
  refine k (v :: ws) H2 F2 (r :: us) sd2 R2 (S1.trans S2) ⟨by simp [A.len], fun i v' r' e1 e2 => ?_, fun i j v' w' r' u' hij e1 e2 e3 e4 o1 o2 => ?_⟩ h2
  · cases i with
    | zero => cases e1; cases e2; exact ⟨rv2, fre2, new⟩
    | succ i =>
      obtain ⟨a, b, c⟩ := A.ok i v' r' (by simpa using e1) (by simpa using e2)
      exact ⟨a, b, fun o q e => S1.st q (c o q e)⟩
  · cases j with
    | zero => omega
    | succ j =>
      cases i with
      | succ i => exact A.ne i j v' w' r' u' (by omega) (by simpa using e1) (by simpa using e2) (by simpa using e3) (by simpa using e4) o1 o2
      | zero =>
        cases e1; cases e3
        intro z
        subst z
        obtain ⟨a, b, c⟩ := A.ok j _ u' (by simpa using e2) (by simpa using e4)
        -- what is owned in u' is new behind the first
        have hv : ∃ q o, v = .ref q ∧ H1 q = some o := by
          cases r with
          | no => cases o1
          | va d => cases o1
          | scr d => cases o1
          | exc d => cases o1
          | ins c fs => obtain ⟨q, _, _, _, e, h1, _⟩ := rv; cases e; exact ⟨q, _, rfl, h1⟩
          | own ds => obtain ⟨q, vs, e, h1, _⟩ := rv; cases e; exact ⟨q, _, rfl, h1⟩
          | well n => obtain ⟨q, x, y, z, e, h1, _⟩ := rv; cases e; exact ⟨q, _, rfl, h1⟩
        obtain ⟨q, o, e, hq⟩ := hv
        have := c o2 q e
        rw [hq] at this; cases this)
theorem rsA_tail {F H H0 : Hp} {σ : L2.St} {sd : DSt} {v : V} {r : S} {vs : List V} {rs : List S} {i : Nat} (A : RsA K C F H H0 σ sd (v :: vs) (r :: rs)) : RsA K C F H H0 (σ.set i (some v)) (sset sd i r) vs rs := by
  refine ⟨by simpa using A.len, fun j w u e1 e2 => ?_, fun a b v' w' r' u' hab e1 e2 e3 e4 o1 o2 => A.ne (a + 1) (b + 1) v' w' r' u' (by omega) (by simpa using e1) (by simpa using e2) (by simpa using e3) (by simpa using e4) o1 o2⟩
  obtain ⟨x1, x2, x3⟩ := A.ok (j + 1) w u (by simpa using e1) (by simpa using e2)
  refine ⟨x1, fun o q e z => ?_, x3⟩
  obtain ⟨k, ok, ek⟩ := z
  by_cases hk : k = i
  · subst hk
    have own_r : isOwn r = true ∧ v = .ref q := by
      by_cases hl : k < sd.length
      · rw [sget_sset hl] at ok
        refine ⟨ok, ?_⟩
        by_cases hσ : k < σ.length
        · rw [gv_set hσ] at ek; exact Option.some.inj ek
        · have : gv (σ.set k (some v)) k = none := by
            unfold gv
            rw [List.getElem?_eq_none (by rw [List.length_set]; omega)]
            rfl
          rw [this] at ek; cases ek
      · rw [sget_out (by rw [sset_length]; omega)] at ok; cases ok
    exact A.ne 0 (j + 1) v w r u (by omega) rfl (by simpa using e1) rfl (by simpa using e2) own_r.1 o (own_r.2.trans e.symm)
  · rw [sget_sset_ne hk] at ok
    rw [gv_set_ne hk] at ek
    exact x2 o q e ⟨k, ok, ek⟩
theorem rsA_sets {F H H0 : Hp} : ∀ {is : List Nat} {vs : List V} {rs : List S} {σ : L2.St} {sd : DSt}, Rs K C F H σ sd → RsA K C F H H0 σ sd vs rs → Rs K C F H ((is.zip vs).foldl (fun σ p => σ.set p.1 (some p.2)) σ) (ssets sd is rs)
  | [], _, _, _, _, R, _ => by simpa [ssets] using R
  | i :: is, [], rs, σ, sd, R, A => by
    have : rs = [] := by
      have := A.len
      cases rs with
      | nil => rfl
      | cons a l => simp at this
    subst this
    simpa [ssets] using R
  | i :: is, v :: vs, [], σ, sd, R, A => by have := A.len; simp at this
  | i :: is, v :: vs, r :: rs, σ, sd, R, A => by
    obtain ⟨x1, x2, _⟩ := A.ok 0 v r rfl rfl
    exact rsA_sets (σ := σ.set i (some v)) (sd := sset sd i r) (R.setr x1 x2) (rsA_tail A)
def tPar2 (i j : Nat) (ta : TA) : TS := fun D σ H => ta σ H fun vs H1 => ∃ u v, vs = [u, v] ∧ D.nx ((σ.set i (some u)).set j (some v)) H1
theorem ps_par2 {i j : Nat} {x y : Str} {a b : Expr} {ta : TA} {px py pt pos : Pos} {kt k2 pt2} (hc : X.calm = true) (hN : X.N.Nodup) (hi : X.N[i]? = some x) (hj : X.N[j]? = some y) (hij : i ≠ j)
    (hx : X.env.scope.names.lookup x = some .local) (hy : X.env.scope.names.lookup y = some .local) (ha : PA X [a, b] ta)
    (hw : swappedStores [.Tuple [.Name x px, .Name y py] kt pt] (.Tuple [a, b] k2 pt2) X.env = pure (some [x, y])) (hs : swapsWithSole [.Tuple [.Name x px, .Name y py] kt pt] (.Tuple [a, b] k2 pt2) pos.line X.env = pure false := by rfl) :
    PS X (.Assign [.Tuple [.Name x px, .Name y py] kt pt] (.Tuple [a, b] k2 pt2) pos) (tPar2 i j ta) := by
  refine ⟨fun pins s σ H D I h => ?_⟩
  rw [exec_Assign_arm]
  refine wpAny_bind (wpAny_standAt ?_)
  rw [hs]
  refine wpAny_bind (wpAny_pure ?_)
  rw [if_neg (by decide)]
  refine wpAny_bind (Tuple_ (thn (ha.run _ pins s σ H _ I h) fun us s1 hh => ?_))
  obtain ⟨vs, H1, I1, r1, v1, v2, rfl, q1⟩ := hh
  obtain ⟨u1, u2, rfl, ra, rb⟩ := vals2 r1
  refine wpAny_newObj_type ?_ (by show 2 ≤ sizeLine; decide)
  have I2 : Inv X pins σ H1 { s1 with heap := s1.heap.push { cls := .type "tuple", data := .seq [u1, u2].toArray }, toks := s1.toks } := I1.kept fun _ _ e => Heap.get?_push_of_some _ e
  rw [hw]
  refine wpAny_bind (wpAny_pure ?_)
  show wpAny (model X.prog X.w) X.A (do rule "assign.swapped-stores"; let got ← unpackItems (.ref s1.heap.objs.size) 2 none; assignInOrder [fun v => bindName X.env y v, fun v => bindName X.env x v] got.reverse; pure Flow.next) _ _ _
  refine wpAny_bind (wpAny_rule (wpAny_bind (unpackItems_tuple (items := #[u1, u2]) (I.ok.hd hc) (IsTup.new s1.heap _) fun h' hx' => ?_)))
  have I3 := I2.kept (h' := h') (t' := s1.toks) fun b o e => hx' b o (Nat.ne_of_lt (Heap.lt_size e)) e
  show wpAny _ _ (assignInOrder [fun v => bindName X.env y v, fun v => bindName X.env x v] [u2, u1] >>= fun _ => pure Flow.next) _ _ _
  refine wpAny_bind (assignInOrder_cons (wpAny_bindName (store_ok I3 hN hj (.inl hy) rb (fun s2 I4 => assignInOrder_cons (wpAny_bindName (store_ok I4 hN hi (.inl hx) ra (fun s3 I5 => assignInOrder_nil (wpAny_pure ?_)) (.inr hx)))) (.inr hy))))
  rw [List.set_comm _ _ (Ne.symm hij)] at I5
  exact ⟨_, H1, I5, q1⟩
theorem pds_par2 {tg e : Expr} {pos : Pos} {i j : Nat} {m1 m2 : MR} (t : PS X (.Assign [tg] e pos) (tPar2 i j (tDAR X.K C [m1, m2]))) : PS X (.Assign [tg] e pos) (tDS X.K C (mAsgM [i, j] [m1, m2])) := ps_imp t (by
  rintro D σ H ⟨F, sd, Dd, R, E, h⟩
  refine ⟨F, sd, _, R, h, fun vs H1 F1 rs sd1 R1 S1 A q => ?_⟩
  obtain ⟨ql, q⟩ := q
  have hl := A.len
  obtain ⟨r1, r2, rfl⟩ : ∃ r1 r2, rs = [r1, r2] := by
    match rs, ql with
    | [r1, r2], _ => exact ⟨r1, r2, rfl⟩
  obtain ⟨u, v, rfl⟩ : ∃ u v, vs = [u, v] := by
    match vs, hl with
    | [u, v], _ => exact ⟨u, v, rfl⟩
  exact ⟨u, v, rfl, E.nx F1 H1 _ _ S1.fr (rsA_sets (is := [i, j]) R1 A) q⟩)
theorem pds_par3 {tg e : Expr} {pos : Pos} {i j l : Nat} {m1 m2 m3 : MR} (t : PS X (.Assign [tg] e pos) (tPar3 i j l (tDAR X.K C [m1, m2, m3]))) : PS X (.Assign [tg] e pos) (tDS X.K C (mAsgM [i, j, l] [m1, m2, m3])) := ps_imp t (by
  rintro D σ H ⟨F, sd, Dd, R, E, h⟩
  refine ⟨F, sd, _, R, h, fun vs H1 F1 rs sd1 R1 S1 A q => ?_⟩
  obtain ⟨ql, q⟩ := q
  have hl := A.len
  obtain ⟨r1, r2, r3, rfl⟩ : ∃ r1 r2 r3, rs = [r1, r2, r3] := by
    match rs, ql with
    | [r1, r2, r3], _ => exact ⟨r1, r2, r3, rfl⟩
  obtain ⟨u, v, w, rfl⟩ : ∃ u v w, vs = [u, v, w] := by
    match vs, hl with
    | [u, v, w], _ => exact ⟨u, v, w, rfl⟩
  exact ⟨u, v, w, rfl, E.nx F1 H1 _ _ S1.fr (rsA_sets (is := [i, j, l]) R1 A) q⟩)
theorem pdt_chain {op op'} {r r' : R2} {f g : PyData → PyData → Option PyData} {a b c : Expr} {ma mb mc : ME} {pos : Pos} (L : RL2 X.K r f) (L' : RL2 X.K r' g)
    (t : PT X (.Compare a [op, op'] [b, c] pos) (tTest (tChain r r' (tD X.K C ma) (tD X.K C mb) (tD X.K C mc)))) : PT X (.Compare a [op, op'] [b, c] pos) (tDT X.K C (mT (mChain f g ma mb mc))) := pt_imp t (by
  refine td_test (te := tChain r r' (tD X.K C ma) (tD X.K C mb) (tD X.K C mc)) ?_
  rintro σ H Q ⟨F, sd, Qd, R, h, k⟩
  refine ⟨F, sd, _, R, h, fun x H1 F1 a sd1 R1 S1 rx h1 => ⟨F1, sd1, _, R1, h1, fun y H2 F2 b sd2 R2 S2 ry h2 => ?_⟩⟩
  obtain ⟨cc, e, q⟩ := h2
  refine L F2 H2 x y a b (.bool cc) _ R2.ext (fun p => R2.free) (rx.mono S2.fr) ry e fun v F' H' al rz => ?_
  cases rz
  refine ⟨cc, rfl, ?_⟩
  have S' := (S1.trans S2).trans (.al R2 al)
  cases cc with
  | true =>
    refine ⟨F', sd2, _, R2.al al, q, fun w H3 F3 d sd3 R3 S3 rw_ h3 => ?_⟩
    obtain ⟨z2, e2, q2⟩ := h3
    exact L' F3 H3 y w b d z2 _ R3.ext (fun p => R3.free) (ry.mono ((Stp.al R2 al).fr.trans S3.fr)) rw_ e2 fun v F4 H4 al2 rz2 => k v H4 F4 z2 sd3 (R3.al al2) ((S'.trans S3).trans (.al R3 al2)) rz2 q2
  | false => exact k (.bl false) H' F' _ sd2 (R2.al al) S' (.bl false) q)
theorem pd_lenScr {i : Nat} {x y : Str} {p p2 pos : Pos} (hm : X.mg "len" = none) (hN : X.N[i]? = some y) (hv : Vis X.env.scope y) (hd : (y == ("__debug__" : Str)) = false := by decide) (hcd : (y == ("__classdict__" : Str)) = false := by decide) (hg : Gl X "len" := by rfl)
    (he : starEach (.Name y p2 :: []) X.env = (false, eval (.Name y p2) X.env) :: starEach [] X.env := by rfl) (hpl : (backTo pos (starEach [] X.env)).any (·.1) = false := by rfl) :
    PE X (.Call (.Name "len" p) [.Name y p2] [] pos) (tD X.K C (mLenScr i)) := pe_imp (pe_callB call_len_seq hg hm (by decide +kernel) (pa_cons (pe_var hN hv hd hcd) pa_nil he) (by decide) (by decide) he hpl) (by
  rintro σ H Q ⟨F, sd, Qd, R, ⟨ns, hs, h⟩, k⟩
  have hi := R.slot i
  rw [hs] at hi
  obtain ⟨p, e1, e2⟩ := hi
  refine ⟨.ref p, gv_some.mp e1, p, _, rfl, .inl (R.ext.seq e2), ?_⟩
  rw [List.length_map]
  exact k _ H F _ sd R .refl (.int _) h)
theorem pd_lenOwn {i : Nat} {y : Str} {p p2 pos : Pos} (hm : X.mg "len" = none) (hN : X.N[i]? = some y) (hv : Vis X.env.scope y) (hd : (y == ("__debug__" : Str)) = false := by decide) (hcd : (y == ("__classdict__" : Str)) = false := by decide) (hg : Gl X "len" := by rfl)
    (he : starEach (.Name y p2 :: []) X.env = (false, eval (.Name y p2) X.env) :: starEach [] X.env := by rfl) (hpl : (backTo pos (starEach [] X.env)).any (·.1) = false := by rfl) :
    PE X (.Call (.Name "len" p) [.Name y p2] [] pos) (tD X.K C (mLenOwn i)) := pe_imp (pe_callB call_len_seq hg hm (by decide +kernel) (pa_cons (pe_var hN hv hd hcd) pa_nil he) (by decide) (by decide) he hpl) (by
  rintro σ H Q ⟨F, sd, Qd, R, ⟨ds, hs, h⟩, k⟩
  have hi := R.slot i
  rw [hs] at hi
  obtain ⟨p, vs, e1, e2, e3, e4, r⟩ := hi
  refine ⟨.ref p, gv_some.mp e1, p, _, rfl, .inl (.inl (.inl e2)), ?_⟩
  rw [r.length]
  exact k _ H F _ sd R .refl (.int _) h)
end
end DL
namespace DL
open PySem PySem.Spec PyProof.Rows L2
/-- what a law's def promises: handed a script, it returns True -/
def spL (K : PySem.W.Frag) : Sp := fun vs H Q _ => ∃ (a : Addr) (ns : List Int), vs = [.ref a] ∧ SqL K H a (ns.map V.int) ∧ ns.length ≤ 63 ∧ (∀ z ∈ ns, Builtin.Int.intBits z ≤ 1048576) ∧ ∀ H', Q (.bl true) H'
section
variable {P : Program} {w : World} {K : PySem.W.Frag} {mg : Str → Option Value} {base : Heap} {CN : String → Option Addr}
theorem fun_okL {x qual s0 : Str} {st : Stmt} {f : Addr} {fd : FuncData} {N : List Str} {k : Nat} {m : MS} (F : Fun K x qual st f fd) (SC : FnScope N [s0] (defScope st)) (hN : 1 ≤ N.length)
    (hbody : ∀ (cdv : Value) (A : Around) (outer : List Env) (s : Shared) (H : Hp) (E : XK) (C : Ct), C.isW = false → RoomG k (A.deeper (envOfC qual (defScope st) s.heap.objs.size f cdv)) →
      Takes (cxD P w K mg base N qual (defScope st) f cdv A outer s H E) (wD K C CN fun _ _ => False) → PSs (cxD P w K mg base N qual (defScope st) f cdv A outer s H E) (defBody st) (tDS K C m))
    (rd : ∀ ns : List Int, ns.length ≤ 63 → (∀ z ∈ ns, Builtin.Int.intBits z ≤ 1048576) → m endL (.scr ns :: List.replicate (N.length - 1) .no)) : FnG P w K mg base (k + 1) f fd [s0] (spL K) := by
  refine fun_okG F SC (fun vs H Q E h => ?_) (fun cdv A outer s H vs Q E hr h => ?_)
  · obtain ⟨a, ns, rfl, _⟩ := h; rfl
  · obtain ⟨a, ns, rfl, hS, hl, hb, hq⟩ := h
    have no : ∀ (k i : Nat), sget (List.replicate k S.no) i = .no := by
      intro k
      induction k with
      | zero => intro _; rfl
      | succ k ih => intro i; cases i with
        | zero => rfl
        | succ i => exact ih i
    have own : ∀ i, isOwn (sget (S.scr ns :: List.replicate (N.length - 1) S.no) i) = false := fun i => by
      cases i with
      | zero => rfl
      | succ i => show isOwn (sget (List.replicate (N.length - 1) S.no) i) = false; rw [no]; rfl
    have R0 : Rs K ⟨H, H, fun _ => False, false⟩ H H (L2.start N [.ref a]) (.scr ns :: List.replicate (N.length - 1) .no) := by
      refine ⟨?_, Same.refl _, Same.refl _, fun a o h => .inl h, fun a o h _ => h, fun a h => h, fun i => ?_, fun i j p _ o => ?_⟩
      · unfold L2.start; simp
      · cases i with
        | zero => exact ⟨a, rfl, hS⟩
        | succ i => show SlotOk K _ H H _ (sget (List.replicate (N.length - 1) S.no) i); rw [no]; trivial
      · rw [own] at o; cases o
    refine ⟨_, hbody cdv A outer s H E ⟨H, H, fun _ => False, false⟩ rfl hr (takes_cxD fun cls d σ H' hw => ?_), H, _, endL, R0, ⟨fun F1 H1 σ sd _ R q => q.elim, fun F1 H1 σ sd v r _ R rv _ q => ?_, fun _ _ _ _ _ _ z => z.elim, fun _ _ _ _ _ _ z => z.elim⟩, rd ns hl hb⟩
    · obtain ⟨c, a, F1, sd, hc, _, _, R, q⟩ := hw
      exact q.elim
    · have q : r = .va (.bool true) := q
      subst q
      obtain ⟨v', e1, q⟩ := rv
      cases e1
      cases q
      exact hq H1
/-- the promise at the heap behind the top -/
theorem end_call {mb : Str → Option Value} {k : Nat} {fa a : Addr} {fd : FuncData} {x : Str} {s₁ : Shared} {vs : List Value} {ns : List Int} (KX : K.In s₁.heap) (hns : s₁.heap.Ns mainGlobals mg) (hb : s₁.heap.Ns builtinsNs mb)
    (hbb : ∀ x : Str, x ≠ "__name__" → mb x = bootBuiltins x) (hlim : s₁.heap.NoLimit) (hg : s₁.gens = #[]) (ha : s₁.heap.get? a = some { cls := .type "list", data := .seq vs.toArray }) (hi : IntsAre vs ns) (h63 : ns.length ≤ 63) (hbits : ∀ z ∈ ns, Builtin.Int.intBits z ≤ 1048576)
    (hr : RoomG k callerA) (F : ∀ base : Heap, K.In base → base.Ns mainGlobals mg → FnG P w K mg base k fa fd [x] (spL K)) (hbind : ∀ (s : Shared) (u : Value), BindsTo s fd ⟨[u], []⟩ [(x, u)]) :
    codeAny (model P w) callerA (.call (.ref fa) ⟨[.ref a], []⟩) (fun r s' => r = .ok (.ret (.bool true)) ∧ OldK s₁.heap s'.heap ∧ s'.os = s₁.os ∧ AllBare s'.gens) s₁ := by
  have rv := vals_ints hi
  have hl : ns.length ≤ sizeLine := Nat.le_trans h63 (by decide)
  -- the script alone may be tracked, and only if the written part does not have it
  let o₀ : Obj := { cls := .type "list", data := .seq vs.toArray }
  let H : Hp := fun b => if b = a ∧ K.lookup a = none then some (.frz o₀ (.lst (ns.map V.int))) else none
  have hH : ∀ {b u}, H b = some u → b = a ∧ K.lookup a = none ∧ u = .frz o₀ (.lst (ns.map V.int)) := fun {b u} e => by
    by_cases c : b = a ∧ K.lookup a = none
    · have e2 := (if_pos c).symm.trans e
      exact ⟨c.1, c.2, (Option.some.inj e2).symm⟩
    · have e2 := (if_neg c).symm.trans e
      cases e2
  have hS : SqL K H a (ns.map V.int) := by
    cases q : K.lookup a with
    | none => exact .inl (.inr ⟨o₀, if_pos ⟨rfl, q⟩⟩)
    | some o =>
      have e := (KX a o q).symm.trans ha
      cases e
      exact .inr ⟨o₀, vs.toArray, 0, q, rfl, rfl, rfl, by rw [List.size_toArray, hi.length]; exact hl, by simpa using rv⟩
  have hok : HOk P w H s₁.heap := fun b u e => by
    obtain ⟨rfl, _, rfl⟩ := hH e
    exact ⟨ha, by rw [List.length_map]; exact hl, vs, _, rv, ha⟩
  -- the heap without it
  have hid : ∀ {b : Addr} {o : Obj}, s₁.heap.get? b = some o → (b = a → o ≠ o₀ ∨ K.lookup a ≠ none) → (hidT s₁.heap H).get? b = some o := fun {b o} e n => hidT_get e (by
    cases q : H b with
    | none => rfl
    | some u =>
      obtain ⟨e1, e2, _⟩ := hH q
      rcases n e1 with z | z
      · subst e1; rw [ha] at e; exact absurd (Option.some.inj e).symm z
      · exact absurd e2 z)
  have names : ∀ {b : Addr} {m : Str → Option Value}, s₁.heap.Ns b m → (hidT s₁.heap H).Ns b m := fun {b m} h => by
    obtain ⟨o, es, ep, e, d, r⟩ := h
    refine ⟨o, es, ep, hid e fun _ => .inl fun z => ?_, d, r⟩
    subst z
    cases d
  have kin : K.In (hidT s₁.heap H) := fun b o e => hid (KX b o e) fun z => .inr (by subst z; rw [e]; exact fun q => nomatch q)
  have lim : (hidT s₁.heap H).NoLimit := by
    obtain ⟨mc, h1, h2⟩ := hlim
    exact ⟨mc, names h1, h2⟩
  have e0 : Env0 P w K mg (hidT s₁.heap H) callerA [] s₁ H := ⟨rfl, ⟨kin, names hns, ⟨mb, names hb, hbb⟩, lim⟩, fun b o e => of_hidT e, Nat.le_of_eq (hidT_size _ _), trivial, (fun b hb => nomatch hb), hok, .of_eq hg⟩
  refine codeAny_mono ((F _ kin (names hns)).run (H := H) (us := [.ref a]) (vs := [.ref a]) (Q := fun v _ => v = .bl true) (E := fun _ _ _ => False) hr e0 (hbind s₁ (.ref a)) (.cons rfl .nil) ⟨a, ns, rfl, hS, h63, hbits, fun _ => rfl⟩) fun r s' h => ?_
  cases r with
  | error e =>
    obtain ⟨_, _, _, _, _, _, _, _, _, _, _, _, z⟩ := h
    exact z.elim
  | ok fl =>
    cases fl with
    | next => exact h.elim
    | brk => exact h.elim
    | cont => exact h.elim
    | ret u =>
      obtain ⟨v, H', os, bare, un, hok', r', q⟩ := h
      have q : v = .bl true := q
      subst q
      have r' : u = Value.bool true := r'
      subst r'
      refine ⟨rfl, OldK.of_keep fun b o e => ?_, os, bare⟩
      cases q : H b with
      | none => exact un.keep b o e q (fun z => nomatch z) (fun z => nomatch z)
      | some u =>
        obtain ⟨rfl, h2, rfl⟩ := hH q
        have e2 := (hok' b _ (un.frzs b _ _ q)).1
        rw [ha] at e
        cases e
        exact e2
end
/-- the goal that k_head leaves, from the promise of the law's def -/
theorem end_law {l : PySem.W.OpenLaw} {k : Nat} {q : Program} {loose : List Str} {XP : (Str → Option Value) → Heap → Prop} {YP : World → Heap → Prop} {d : DefRec} {K : Params → PySem.W.Frag} {x : Str}
    (hn : l.most = some 63) (hdf : d.params.defaults = []) (hr : RoomG k callerA) (hY : ∀ (w : World) (h : Heap), YP w h → (K w.params).In h)
    (F : ∀ (w : World) (mg : Str → Option Value) (fa : Addr) (h : Heap), (K w.params).In h → h.Ns mainGlobals mg → mg d.name = some (.ref fa) →
      ∃ fd : FuncData, (∀ (s : Shared) (u : Value), BindsTo s fd ⟨[u], []⟩ [(x, u)]) ∧ ∀ base : Heap, (K w.params).In base → base.Ns mainGlobals mg → FnG l.prog w (K w.params) mg base k fa fd [x] (spL (K w.params))) :
    PySem.W.WalkO q loose XP YP l.row.toRowW d [] (fun f vs => PySem.call f vs) := by
  refine Att.attach_callB hn hdf fun w s₀ s₁ mg mb fa o pm cd doc a vs ns G Y ho hd hcd hmg hobj hints hlen hbits hg => ?_
  obtain ⟨fd, hb, hF⟩ := F w mg fa _ (hY w _ Y) G.T.g hmg
  exact end_call (hY w _ Y) G.T.g G.T.b G.T.builtins G.T.nolimit hg hobj hints hlen hbits hr hF hb
end DL
namespace DL
open PySem PySem.Spec PyProof.Rows L2
theorem RoomG.u64 {k : Nat} {A : Around} (h : RoomG k A) : A.units + 64 < cLine := by have := h.r.un; omega
section
variable {X : Cx} {C : Ct}
theorem dv (i : Nat) {x : Str} {pos : Pos} (hN : X.N[i]? = some x := by rfl) (hv : Vis X.env.scope x := by first | exact Or.inl rfl | exact Or.inr (Or.inl rfl) | exact Or.inr (Or.inr rfl)) (hd : (x == ("__debug__" : Str)) = false := by decide)
    (hcd : (x == ("__classdict__" : Str)) = false := by decide) : PE X (.Name x pos) (tD X.K C (mVar i)) := pd_var hN hv hd hcd
/-- a raise that cannot be -/
theorem takesF {K : PySem.W.Frag} {CN : String → Option Addr} : Takes X (wD K C CN wF) := takes0.imp fun cls d σ H h => by
  obtain ⟨_, _, _, _, _, _, _, _, q⟩ := h
  exact q.elim
theorem dg (i : Nat) {x : Str} {pos : Pos} (hN : X.N.Nodup) (hi : X.N[i]? = some x := by rfl) (hx : Loc X.env.scope x := by first | exact Or.inl rfl | exact Or.inr rfl) (hf : X.fn x = true ∨ X.env.scope.names.lookup x = some .local := by first | exact .inl rfl | exact .inr rfl) :
    PG X (.Name x pos) (tDG X.K C (mgName i)) := pdg_name hN hi hx hf
theorem gcons {e : Expr} {es : List Expr} {g : MG} {gs : MGs} (h1 : PG X e (tDG X.K C g)) (h2 : PGs X es (tDGs X.K C gs)) (hs : (assignEach (e :: es) X.env).map (·.2) = assign e X.env :: (assignEach es X.env).map (·.2) := by rfl) : PGs X (e :: es) (tDGs X.K C (mgCons g gs)) := pdgs_cons h1 h2 (pgs_cons h1 h2 hs)
theorem gvcons {vs : List Nat} {e : Expr} {es : List Expr} {g : MG} {gs : MGs} (h1 : PG X e (tDGv X.K C vs g)) (h2 : PGs X es (tDGsv X.K C vs gs)) (hs : (assignEach (e :: es) X.env).map (·.2) = assign e X.env :: (assignEach es X.env).map (·.2) := by rfl) : PGs X (e :: es) (tDGsv X.K C vs (mgCons g gs)) := pdgsv_cons (pgs_cons h1 h2 hs)
theorem dgv (i : Nat) {vs : List Nat} {x : Str} {pos : Pos} (hN : X.N.Nodup) (hv : i ∈ vs := by decide) (hi : X.N[i]? = some x := by rfl) (hx : Loc X.env.scope x := by first | exact Or.inl rfl | exact Or.inr rfl) (hf : X.fn x = true ∨ X.env.scope.names.lookup x = some .local := by first | exact .inl rfl | exact .inr rfl) :
    PG X (.Name x pos) (tDGv X.K C vs (mgName i)) := pdgv_name hv (pg_name hN hi hx hf)
theorem d_range1 {tg a : Expr} {p pos : Pos} {m : MA} (hm : X.mg "range" = none) (h : PA X [a] (tDA X.K C m)) (hg : Gl X "range" := by rfl) (hs : starEach [a] X.env = [(false, eval a X.env)] := by rfl) : PI X tg (.Call (.Name "range" p) [a] [] pos) (tDI X.K C (miRng1 m)) :=
  pdi_range1 hm h hg (pi_range1 hg hm h hs)
theorem d_range2 {tg a b : Expr} {p pos : Pos} {m : MA} (hm : X.mg "range" = none) (h : PA X [a, b] (tDA X.K C m)) (hg : Gl X "range" := by rfl) (hs : starEach [a, b] X.env = [(false, eval a X.env), (false, eval b X.env)] := by rfl) (hs2 : starEach [b] X.env = [(false, eval b X.env)] := by rfl) : PI X tg (.Call (.Name "range" p) [a, b] [] pos) (tDI X.K C (miRng2 m)) :=
  pdi_range2 hm h hg (pi_range2 hg hm h hs hs2)
end
end DL
namespace DL
open PySem PySem.Spec PyProof.Rows L2 HT
theorem rev_places (n : Nat) : Builtin.Slice.slicePlaces ((n : Int) - 1) (-1) (-1) = n := by
  unfold Builtin.Slice.slicePlaces
  have h1 : ¬ ((-1 : Int) > 0) := by omega
  rw [if_neg h1]
  by_cases h : (n : Int) - 1 > -1
  · rw [if_pos h, show (-(-1) : Int) = 1 from rfl, Int.ediv_one]; omega
  · rw [if_neg h]; omega
theorem fm_congr {α β : Type} {f g : α → Option β} : ∀ {l : List α}, (∀ x ∈ l, f x = g x) → l.filterMap f = l.filterMap g
  | [], _ => rfl
  | x :: l, h => by
    rw [List.filterMap_cons, List.filterMap_cons, h x (by simp), fm_congr (l := l) fun y hy => h y (by simp [hy])]
theorem rev_pick (xs : Array Value) : ((List.range xs.size).filterMap fun (m : Nat) => xs[(((xs.size : Int) - 1) + (m : Int) * (-1)).toNat]?).toArray = xs.toList.reverse.toArray := by
  have e : ((List.range xs.size).filterMap fun (m : Nat) => xs[(((xs.size : Int) - 1) + (m : Int) * (-1)).toNat]?) = ((List.range xs.size).map fun k => xs.size - 1 - k).filterMap (xs[·]?) := by
    rw [List.filterMap_map]
    refine fm_congr fun m hm => ?_
    have : (((xs.size : Int) - 1) + (m : Int) * (-1)).toNat = xs.size - 1 - m := by
      have := List.mem_range.mp hm
      omega
    rw [this]
    rfl
  rw [e, PySem.W.krv_range, List.filterMap_reverse, PySem.W.krv_all]
section
variable {prog : Program} {w : World} {A : Around} {E : Value → Shared → Prop} {s : Shared}
theorem rev_applied {sl : Addr} {vs : Value} {n : Nat} {Q : Int × Int × Nat → Shared → Prop} (hs : s.heap.IsSliceOf sl .none .none vs) (ps : IsPart vs (some (-1))) (h : Q ((n : Int) - 1, -1, n) s) :
    wpAny (model prog w) A (Builtin.Slice.sliceApplied (.ref sl) (pure (n : Int))) Q E s := by
  obtain ⟨oo, ho, hcc, hdd⟩ := id hs
  unfold Builtin.Slice.sliceApplied
  unfold Builtin.Slice.sliceFields
  refine wpAny_bind (wpAny_bind (wpAny_field ho hdd (x := .none) rfl (wpAny_bind (wpAny_field ho hdd (x := .none) rfl (wpAny_bind (wpAny_field ho hdd (x := vs) rfl (wpAny_pure ?_)))))))
  refine wpAny_bind (slicePart_ ps ?_)
  show wpAny _ _ (if ((-1 : Int) == 0) = true then _ else _) _ _ s
  rw [if_neg (by decide)]
  refine wpAny_bind (slicePart_none (wpAny_bind (slicePart_none (wpAny_bind (wpAny_pure ?_)))))
  show wpAny _ _ (pure ((n : Int) - 1, (-1 : Int), Builtin.Slice.slicePlaces ((n : Int) - 1) (-1) (-1))) _ _ s
  rw [rev_places]
  exact wpAny_pure h
theorem rev_item {t sl : Addr} {items : Array Value} {vs : Value} {Q : Value → Shared → Prop} (ht : IsTup s.heap t items) (hs : s.heap.IsSliceOf sl .none .none vs) (ps : IsPart vs (some (-1)))
    (h : Q (.ref s.heap.objs.size) { s with heap := s.heap.push { cls := .type "tuple", data := .seq items.toList.reverse.toArray } }) (hsz : items.size ≤ sizeLine) : wpAny (model prog w) A (getItem (.ref t) (.ref sl)) Q E s := by
  have fits : sizeOk (.seq items.toList.reverse.toArray) := by
    show items.toList.reverse.toArray.size ≤ sizeLine
    rw [List.size_toArray, List.length_reverse, Array.length_toList]
    exact hsz
  have isS : s.TypeIs (.ref sl) "slice" := hs.elim fun o q => ⟨o, q.1, q.2.1⟩
  unfold getItem
  try with_reducible refine wpAny_holding ?_
  first | refine wpAny_bind (wpAny_pure ?_) | skip
  refine wpAny_bind (wpAny_sequenceKey ht.typeIs (by decide) (wpAny_bind (wpAny_callSpecial?_slot (name := Str.ofString "__getitem__") ht.typeIs PyProof.Rows.slot_tuple_getitem (wpAny_call_entry PyProof.Rows.slot_tuple_getitem ht.typeIs entry_tuple_getitem ?_ (args_tuple_getitem _ _)))))
  show wpAny _ _ (Builtin.Tuple.tupleItemsOf (.ref t) >>= _) _ _ s
  refine wpAny_bind (tupleItemsOf_ ht (wpAny_bind (wpAny_typeOf isS ?_)))
  rw [if_pos (by decide)]
  refine wpAny_bind (rev_applied hs ps ?_)
  have other : ¬ (((items.size : Int) - 1 == 0 && (-1 : Int) == 1 && items.size == items.size) = true) := by
    intro q
    rw [Bool.and_eq_true, Bool.and_eq_true] at q
    exact absurd q.1.2 (by decide)
  show wpAny _ _ (if ((items.size : Int) - 1 == 0 && (-1 : Int) == 1 && items.size == items.size) = true then _ else _) _ _ s
  rw [if_neg other, rev_pick]
  first
    | exact wpAny_bind (m := Builtin.Tuple.tupleExact _) (wpAny_newObj_type (wpAny_pure ⟨_, rfl, wpAny_pure h⟩) fits)
    | exact wpAny_bind (m := Builtin.Tuple.tupleExact _) (wpAny_newObj_type (wpAny_bind (wpAny_pure (wpAny_pure ⟨_, rfl, wpAny_pure h⟩))) fits)
    | exact wpAny_bind (wpAny_bind (m := Builtin.Tuple.tupleExact _) (wpAny_newObj_type (wpAny_pure (wpAny_pure ⟨_, rfl, wpAny_pure h⟩)) fits))
    | exact wpAny_bind (wpAny_bind (m := Builtin.Tuple.tupleExact _) (wpAny_newObj_type (wpAny_pure ⟨_, rfl, wpAny_pure h⟩) fits))
end
section
variable {X : Cx} {C : Ct}
def tRev2 (K : PySem.W.Frag) (te : TE) : TE := fun σ H Q => te σ H fun x H1 => ∃ a xs, x = .ref a ∧ ((SqL K H1 a xs ∧ ∀ p, H1 p = none → Q (.ref p) (upd H1 p (.lst xs.reverse))) ∨ (SqT K H1 a xs ∧ ∀ p, H1 p = none → Q (.ref p) (upd H1 p (.tup xs.reverse))))
theorem pe_rev2 {e : Expr} {te : TE} {k : Nat} {p1 p2 p3 pos : Pos} (he : PE X e te) : PE X (.Subscript e (.Slice none none (some (.UnaryOp .USub (.Constant (.int 1) k p1) p2)) p3) pos) (tRev2 X.K te) := by
  refine ⟨fun pins s σ H Q I h => Subscript_ (thn (he.run pins s σ H _ I h) fun v s1 hh => ?_)⟩
  obtain ⟨x, H1, I1, r1, a, xs, ex, q⟩ := hh
  subst ex
  cases r1
  have one : PO X (some (.UnaryOp .USub (.Constant (.int 1) k p1) p2)) (tPart (tUn (rU fun i => .int (-i)) (tC (.int 1)))) := po_some (pe_un un_neg pe_int)
  refine wpAny_Slice (thn (po_none.run pins s1 σ H1 (fun o H2 => o = none ∧ H2 = H1) I1 ⟨rfl, rfl⟩) fun vl s2 z => ?_)
  obtain ⟨_, _, I2, pl, rfl, rfl⟩ := z
  refine thn (po_none.run pins s2 σ _ (fun o H3 => o = none ∧ H3 = _) I2 ⟨rfl, rfl⟩) fun vu s3 z => ?_
  obtain ⟨_, _, I3, pu, rfl, rfl⟩ := z
  refine thn (one.run pins s3 σ _ (fun o H4 => o = some (-1) ∧ H4 = _) I3 ⟨1, rfl, -1, rfl, rfl, rfl⟩) fun vs s4 z => ?_
  obtain ⟨_, H4, I4, ps, rfl, rfl⟩ := z
  have I5 : Inv X pins σ _ { s4 with heap := s4.heap.push { cls := .type "slice", data := .fields #[vl, vu, vs] } } := I4.kept (t' := s4.toks) fun b ob q => Heap.get?_push_of_some _ q
  cases pl
  cases pu
  show wpAny (model X.prog X.w) X.A (subscriptTail e _ (.ref a) (.ref s4.heap.objs.size)) (EP X pins σ Q) X.xe { s4 with heap := s4.heap.push { cls := .type "slice", data := .fields #[.none, .none, vs] } }
  rcases q with ⟨hx, q⟩ | ⟨hx, q⟩
  · obtain ⟨its, r, ht, hz⟩ := I5.list hx
    have hlen := r.length
    refine tail_any (ops := [.ref a, .ref s4.heap.objs.size]) ht.isList.typeIs (PySem.slot_list_getitem.lookup) ?_ (by with_unfolding_all rfl)
    refine wpAny_getItem_list_slice ht.isList (Heap.IsSliceOf.new _ _ _ vs) .none .none ps (by decide) ?_ (by rw [List.size_toArray]; omega)
    rw [PySem.W.krv_pick]
    exact ⟨.ref _, _, I5.laid (t' := s4.toks) (o := .lst xs.reverse) (fun b ob q => Heap.get?_push_of_some _ q) (Nat.le_refl _) ⟨by rw [List.length_reverse]; exact hz, _, 0, r.reverse, Heap.get?_push_size _ rfl⟩, rfl, q _ (I5.hok.fresh (Nat.le_refl _))⟩
  · obtain ⟨its, r, ht, hz⟩ := I5.tuple hx
    have hlen := r.length
    refine tail_any (ops := [.ref a, .ref s4.heap.objs.size]) ht.typeIs (PyProof.Rows.slot_tuple_getitem.lookup) ?_ (by with_unfolding_all rfl)
    refine rev_item ht (Heap.IsSliceOf.new _ _ _ vs) ps ?_ (by rw [List.size_toArray]; omega)
    exact ⟨.ref _, _, I5.laid (t' := s4.toks) (o := .tup xs.reverse) (fun b ob q => Heap.get?_push_of_some _ q) (Nat.le_refl _) ⟨by rw [List.length_reverse]; exact hz, _, r.reverse, IsTup.new _ _⟩, rfl, q _ (I5.hok.fresh (Nat.le_refl _))⟩
theorem rpA_reverse {K : PySem.W.Frag} {F : Hp} {vs : List V} {ds : List PyData} (r : RpA K F vs ds) : RpA K F vs.reverse ds.reverse := by
  have app : ∀ {vs : List V} {ds : List PyData} {ws : List V} {es : List PyData}, RpA K F vs ds → RpA K F ws es → RpA K F (vs.reverse ++ ws) (ds.reverse ++ es) := by
    intro vs
    induction vs with
    | nil => intro ds ws es r q; cases r; exact q
    | cons v vs ih =>
      intro ds ws es r q
      cases r with
      | cons h r =>
        rw [List.reverse_cons, List.reverse_cons, List.append_assoc, List.append_assoc]
        exact ih r (.cons h q)
  have := app r (RpA.nil (K := K) (F := F))
  simpa using this
theorem pd_rev {e : Expr} {me : ME} {k : Nat} {p1 p2 p3 pos : Pos} (he : PE X e (tD X.K C me)) : PE X (.Subscript e (.Slice none none (some (.UnaryOp .USub (.Constant (.int 1) k p1) p2)) p3) pos) (tD X.K C (mOp1 opRev me)) := pe_imp (pe_rev2 he) (by
  rintro σ H Q ⟨F, sd, Qd, R, h, k⟩
  refine ⟨F, sd, _, R, h, fun x H1 F1 a sd1 R1 S1 rx h1 => ?_⟩
  obtain ⟨z, e, q⟩ := h1
  cases rx with
  | lst h2 r2 =>
    cases e
    refine ⟨_, _, rfl, .inl ⟨.inl (.inl (R1.ext _ _ h2)), fun p hp => ?_⟩⟩
    exact k (.ref p) _ _ _ sd1 (R1.al (.new hp)) (S1.trans (.al R1 (.new hp))) (.lst upd_same (rpA_reverse (r2.mono (same_new (free_of R1.ext hp))))) q
  | tup h2 r2 =>
    cases e
    refine ⟨_, _, rfl, .inr ⟨same_t R1.ext h2, fun p hp => ?_⟩⟩
    exact k (.ref p) _ _ _ sd1 (R1.al (.new hp)) (S1.trans (.al R1 (.new hp))) (.tup (.inl (.inl upd_same)) (rpA_reverse (r2.mono (same_new (free_of R1.ext hp))))) q
  | _ => cases e)
end
end DL
namespace DL
open PySem PySem.Spec PyProof.Rows L2
section
variable {P : Program} {w : World} {K : PySem.W.Frag} {mg : Str → Option Value} {base : Heap} {CN : String → Option Addr}
theorem psw {N : List Str} {qual : Str} {sc : Scope} {f : Addr} {cdv : Value} {A : Around} {outer : List Env} {s : Shared} {H : Hp} {E : XK} :
    PassesOwn (model (cxD P w K mg base N qual sc f cdv A outer s H E).prog (cxD P w K mg base N qual sc f cdv A outer s H E).w) (cxD P w K mg base N qual sc f cdv A outer s H E).A (cxD P w K mg base N qual sc f cdv A outer s H E).env (cxD P w K mg base N qual sc f cdv A outer s H E).xe := passes_of (X := cxD P w K mg base N qual sc f cdv A outer s H E) rfl
inductive Sel where | p (i : Nat) | k (i : Nat)
def pick {α : Type} (us ws : List α) : List Sel → List α
  | [] => []
  | .p i :: r => us[i]?.toList ++ pick us ws r
  | .k i :: r => ws[i]?.toList ++ pick us ws r
/-- a places, b keywords, in this order -/
def gSel (a b : Nat) (ss : List Sel) {α : Type} (us ws : List α) : List α := if us.length = a ∧ ws.length = b then pick us ws ss else []
theorem paired_app {α β : Type} {R : α → β → Prop} : ∀ {as : List α} {bs : List β} {cs : List α} {ds : List β}, Paired R as bs → Paired R cs ds → Paired R (as ++ cs) (bs ++ ds)
  | _, _, _, _, .nil, q => q
  | _, _, _, _, .cons h r, q => .cons h (paired_app r q)
theorem paired_at {α β : Type} {R : α → β → Prop} : ∀ {as : List α} {bs : List β} (i : Nat), Paired R as bs → Paired R as[i]?.toList bs[i]?.toList
  | _, _, _, .nil => .nil
  | _, _, 0, .cons h _ => .cons h .nil
  | _ :: _, _ :: _, i + 1, .cons _ r => by simpa using paired_at i r
theorem paired_len {α β : Type} {R : α → β → Prop} : ∀ {as : List α} {bs : List β}, Paired R as bs → as.length = bs.length
  | _, _, .nil => rfl
  | _, _, .cons _ r => by simp [paired_len r]
theorem ord_sel (a b : Nat) (ss : List Sel) : Ord (fun {α} => gSel a b ss (α := α)) where
  rel := fun {α β} R {as cs bs ds} h1 h2 => by
    unfold gSel
    rw [paired_len h1, paired_len h2]
    split
    · induction ss with
      | nil => exact .nil
      | cons s ss ih =>
        cases s with
        | p i => exact paired_app (paired_at i h1) ih
        | k i => exact paired_app (paired_at i h2) ih
    · exact .nil
theorem kbinds_of {fd : FuncData} {ps ks : List Str} {a b : Nat} {ss : List Sel} (hp : ps ≠ []) (h : ∀ (s : Shared) (us ws : List Value), us.length = a → ws.length = b → BindsTo s fd ⟨us, ks.zip ws⟩ (ps.zip (pick us ws ss))) : KBinds K fd ps ks (gSel a b ss) (gSel a b ss) where
  to := fun s us ws _ hl => by
    unfold gSel at hl ⊢
    by_cases c : us.length = a ∧ ws.length = b
    · rw [if_pos c]; exact h s us ws c.1 c.2
    · rw [if_neg c] at hl
      exact absurd (List.eq_nil_of_length_eq_zero hl.symm) hp
  rel := fun {vs us zs ws} h1 h2 => (ord_sel a b ss).rel RelV h1 h2
def dDraw : WSpec := fun n ds Q => ∃ m : Int, ds = [.int m] ∧ 1 ≤ n ∧ 1 ≤ m ∧ m.natAbs.log2 < 9000 ∧ ∀ r : Int, 0 ≤ r → r < m → Q (.va (.int r)) (n - 1)
def spWell (K : PySem.W.Frag) : Sp := fun vs H Q _ => ∃ (a : Addr) (ns : List Int) (k : Int), vs = [.ref a, .int k] ∧ SqL K H a (ns.map V.int) ∧ ns.length ≤ 63 ∧ (∀ z ∈ ns, Builtin.Int.intBits z ≤ 1048576) ∧ 0 ≤ k ∧ k < 2 ^ 20 ∧
  ∀ H' p x y z, Same H H' → H p = none → H' p = some (.lst [.int x, .int y, .int z]) → WellOk (2 ^ 60) x y z → Q (.ref p) H'
structure CalL (P : Program) (w : World) (K : PySem.W.Frag) (mg : Str → Option Value) (base : Heap) (k : Nat) (x : Str) : Prop where
  ex : ∃ f fd ps, FnG P w K mg base k f fd ps (spWell K) ∧ mg x = some (.ref f) ∧ PySem.W.keepIn K (.ref f) = true ∧ Binds K fd ps []
end
/-- the well from the script in slot i -/
def mWell (i : Nat) (me : ME) : MR := fun sd Q => (∃ ns, sget sd i = .scr ns) ∧ me sd fun d s1 => ∃ ns k, sget s1 i = .scr ns ∧ ns.length ≤ 63 ∧ (∀ z ∈ ns, Builtin.Int.intBits z ≤ 1048576) ∧ d = .int k ∧ 0 ≤ k ∧ k < 2 ^ 20 ∧ Q (.well (2 ^ 60)) s1
section
variable {K : PySem.W.Frag} {X : Cx} {C : Ct}
theorem td_well {i : Nat} {me : ME} {E : L2.St → XK} (hw : C.isW = false) : ∀ σ H Q, tDR K C (mWell i me) σ H Q → tCallG (spWell K) E (tCons (tVar i) (tCons (tD K C me) tNil)) σ H Q := by
  rintro σ H Q ⟨F, sd, Qd, R, ⟨⟨n0, hn0⟩, h⟩, k⟩
  have hi := R.slot i
  rw [hn0] at hi
  obtain ⟨p, e1, _⟩ := hi
  refine ⟨.ref p, gv_some.mp e1, F, sd, _, R, h, fun v H1 F1 d sd1 R1 S1 rv h1 => ?_⟩
  obtain ⟨ns, kk, hs, hl, hb, rfl, k0, k1, q⟩ := h1
  have hi1 := R1.slot i
  rw [hs] at hi1
  obtain ⟨p', z1, z2⟩ := hi1
  rw [e1] at z1; cases z1
  cases rv
  refine ⟨p, ns, kk, rfl, R1.ext.seq z2, hl, hb, k0, k1, fun H' p2 x y z sm hp hn ok => ?_⟩
  have S2 : Stp σ sd1 F1 H1 F1 H' sd1 := ⟨Same.refl _, fun a o e _ => sm a o e, fun _ z => z, fun a o e => .inl e, fun a e => by
    cases q : H1 a with
    | none => rfl
    | some o => rw [sm a o q] at e; cases e⟩
  have hF : F1 p2 = none := R1.free hp
  have R2 : Rs K C F1 H' σ sd1 := by
    refine ⟨R1.len, R1.grow, fun a o e => sm a o (R1.ext a o e), R1.new, fun a o e n => sm a o (R1.keep a o e n), fun a e => R1.still a (S2.st a e), fun j => (R1.slot j).grow (Same.refl _) fun q x o e eh en => ⟨sm q x eh, en⟩, R1.sep⟩
  refine k _ H' F1 (.well (2 ^ 60)) sd1 R2 (S1.trans S2) ⟨p2, x, y, z, rfl, hn, hF, .inr ⟨hw, R1.still p2 hp⟩, ok⟩ (fun _ q e => by cases e; exact (R1.fresh hp).1) (fun _ q e => by cases e; exact S1.st p2 hp) q
theorem pdr_well {i : Nat} {me : ME} {x y : Str} {e2 : Expr} {p p2 pos : Pos} {k j : Nat} {W : WX} (hw : C.isW = false) (c : CalL X.prog X.w X.K X.mg X.base k x) (hr : RoomG j X.A) (hk : k ≤ j) (tk : Takes X W) (hy : PE X (.Name y p2) (tVar i)) (he2 : PE X e2 (tD X.K C me)) (hg : Gl X x := by rfl)
    (hdb : (x == ("__debug__" : Str)) = false := by decide) (he : starEach (.Name y p2 :: [e2]) X.env = (false, eval (.Name y p2) X.env) :: starEach [e2] X.env := by rfl) (he1 : starEach (e2 :: []) X.env = (false, eval e2 X.env) :: starEach [] X.env := by rfl) (hpl : (backTo pos (starEach [e2] X.env)).any (·.1) = false := by rfl) :
    PE X (.Call (.Name x p) [.Name y p2, e2] [] pos) (tDR X.K C (mWell i me)) := by
  obtain ⟨f, fd, ps, F, hm, hkp, hb⟩ := c.ex
  exact pe_imp (pe_callG F (hr.mono hk) hg hm hkp hb (passAt tk) (pa_cons hy (pa_cons he2 pa_nil he1) he) hdb he hpl) (td_well hw)
end
end DL
namespace DL
open PySem PySem.Spec PyProof.Rows L2
/-- a + b of lists, a new list that nobody else holds -/
def mrCat (ma mb : ME) : MR := fun sd Q => ma sd fun a s1 => mb s1 fun b s2 => ∃ xs ys, a = .list xs ∧ b = .list ys ∧ xs.length + ys.length ≤ 100000 ∧ Q (.own (xs ++ ys)) s2
section
variable {K : PySem.W.Frag} {X : Cx} {C : Ct}
theorem pdt_ofw {e : Expr} {t : MT} (h : PW X e (tDT X.K C t)) : PT X e (tDT X.K C t) := h.pt
theorem cmpI_bl {p : Int → Int → Bool} {a b z : PyData} (h : cmpI p a b = some z) : ∃ k, z = .bool k := by
  unfold cmpI at h
  split at h
  · cases h; exact ⟨_, rfl⟩
  · cases h
theorem eq_bl {a b z : PyData} (h : opEq a b = some z) : ∃ k, z = .bool k := by
  unfold opEq at h
  split at h
  · cases h; exact ⟨_, rfl⟩
  · obtain ⟨p, _, h⟩ := Option.map_eq_some_iff.mp h
    exact ⟨_, h.symm⟩
theorem ne_bl {a b z : PyData} (h : opNe a b = some z) : ∃ k, z = .bool k := by
  unfold opNe at h
  split at h
  · cases h; exact ⟨_, rfl⟩
  · obtain ⟨p, _, h⟩ := Option.map_eq_some_iff.mp h
    exact ⟨_, h.symm⟩
theorem pd_chain2 {op op'} {r r' : R2} {f g : PyData → PyData → Option PyData} {a b c : Expr} {ma mb mc : ME} {pos : Pos} (ho : OpR X (compareOp op) r) (ho' : OpR X (compareOp op') r') (L : RL2 X.K r f) (L' : RL2 X.K r' g)
    (ha : PE X a (tD X.K C ma)) (hb : PE X b (tD X.K C mb)) (hc : PE X c (tD X.K C mc)) (hu : ∀ {a b : PyData} {z : PyData}, f a b = some z → ∃ k, z = .bool k := by first | exact cmpI_bl | exact eq_bl | exact ne_bl)
    (hm : lastMarks [op, op'] [b, c] = false := by with_unfolding_all rfl) : PE X (.Compare a [op, op'] [b, c] pos) (tD X.K C (mChain f g ma mb mc)) := pd_chain ho ho' L L' ha hb hc hu (pe_chain ho ho' ha hb hc hm)
theorem pdt_chain2 {op op'} {r r' : R2} {f g : PyData → PyData → Option PyData} {a b c : Expr} {ma mb mc : ME} {pos : Pos} (ho : OpR X (compareOp op) r) (ho' : OpR X (compareOp op') r') (L : RL2 X.K r f) (L' : RL2 X.K r' g)
    (ha : PE X a (tD X.K C ma)) (hb : PE X b (tD X.K C mb)) (hc : PE X c (tD X.K C mc)) (hm : lastMarks [op, op'] [b, c] = false := by with_unfolding_all rfl) : PT X (.Compare a [op, op'] [b, c] pos) (tDT X.K C (mT (mChain f g ma mb mc))) := pdt_chain L L' (pt_chain ho ho' ha hb hc hm)
theorem pdr_cat {a b : Expr} {ma mb : ME} {pos : Pos} (ha : PE X a (tD X.K C ma)) (hb : PE X b (tD X.K C mb)) : PE X (.BinOp a .Add b pos) (tDR X.K C (mrCat ma mb)) := pe_imp (pe_op op_cat ha hb) (by
  rintro σ H Q ⟨F, sd, Qd, R, h, k⟩
  refine ⟨F, sd, _, R, h, fun x H1 F1 d sd1 R1 S1 rx h1 => ⟨F1, sd1, _, R1, h1, fun y H2 F2 e sd2 R2 S2 ry h2 => ?_⟩⟩
  obtain ⟨xs, ys, rfl, rfl, hl, q⟩ := h2
  cases rx with
  | lst a1 r1 =>
    cases ry with
    | lst a2 r2 =>
      refine ⟨_, _, _, _, rfl, rfl, R2.ext _ _ (S2.fr _ _ a1), R2.ext _ _ a2, ?_, fun p hp => ?_⟩
      · rw [r1.length, r2.length]; exact line_of hl
      · have S := S1.trans S2
        refine k (.ref p) _ F2 (.own (xs ++ ys)) sd2 (R2.allocH hp) (S.trans ⟨Same.refl _, fun a o e _ => same_new hp a o e, fun _ z => z, fun _ _ e => .inl e, fun a e => ?_⟩) ⟨p, _, rfl, upd_same, R2.free hp, R2.still p hp, (r1.mono S2.fr).append r2⟩ (fun _ q' e => ?_) (fun _ q' e => ?_) q
        · by_cases z : a = p
          · subst z; exact hp
          · rw [upd_ne z] at e; exact e
        · cases e; exact (R2.fresh hp).1
        · cases e; exact S.st p hp)
end
end DL
namespace DL
open PySem PySem.Spec PyProof.Rows L2
def bTup : List PyData → Option PyData
  | [.list xs] => some (.tuple xs)
  | [.tuple xs] => some (.tuple xs)
  | _ => none
section
variable {K : PySem.W.Frag} {X : Cx} {C : Ct}
theorem pd_tupOf {p pos : Pos} {a : Expr} {m : ME} (hm : X.mg "tuple" = none) (ha : PE X a (tD X.K C m)) (hg : Gl X "tuple" := by rfl) (na : starEach [a] X.env = (false, eval a X.env) :: starEach [] X.env := by rfl) :
    PE X (.Call (.Name "tuple" p) [a] [] pos) (tD X.K C (mCallB bTup (mCons m mNil))) := pe_imp (pe_tupleOf hg hm ha na) (by
  rintro σ H Q ⟨F, sd, Qd, R, h, k⟩
  refine ⟨F, sd, _, R, h, fun x H1 F1 d sd1 R1 S1 rx h1 => ?_⟩
  obtain ⟨r, e, q⟩ := h1
  cases rx with
  | lst h2 r2 =>
    cases e
    refine .inl ⟨_, _, rfl, .inl (.inl (R1.ext _ _ h2)), fun p hp => ?_⟩
    exact k (.ref p) _ _ _ sd1 (R1.al (.new hp)) (S1.trans (.al R1 (.new hp))) (.tup (.inl (.inl upd_same)) (r2.mono (same_new (free_of R1.ext hp)))) q
  | tup h2 r2 =>
    cases e
    exact .inr ⟨_, _, rfl, same_t R1.ext h2, k _ H1 F1 _ sd1 R1 S1 (.tup h2 r2) q⟩
  | _ => cases e)
end
section
variable {P : Program} {w : World} {K : PySem.W.Frag} {mg : Str → Option Value} {base : Heap} {CN : String → Option Addr}
/-- a promise that is never asked for -/
theorem fn_never {k : Nat} {f : Addr} {fd : FuncData} {ps : List Str} {spec : PSpec} (h : ∀ ds Q E, ¬ spec ds Q E) : FnG P w K mg base k f fd ps (spP K CN spec) where
  len := fun vs H Q E z => by
    obtain ⟨_, _, _, _, _, _, z, _⟩ := z
    exact (h _ _ _ z).elim
  run := fun _ _ _ _ z => by
    obtain ⟨_, _, _, _, _, _, z, _⟩ := z
    exact (h _ _ _ z).elim
end
end DL
namespace DL
open PySem
theorem fz_va {d : PyData} : fz (.va d) = some d := rfl
theorem fz_own {ds : List PyData} : fz (.own ds) = some (.list ds) := rfl
section
variable {a b : Int}
theorem opAdd_i : opAdd (.int a) (.int b) = some (.int (a + b)) := rfl
theorem opSub_i : opSub (.int a) (.int b) = some (.int (a - b)) := rfl
theorem opMul_i : opMul (.int a) (.int b) = if small a b = true then some (.int (a * b)) else none := rfl
theorem opMod_i : opMod (.int a) (.int b) = if 0 < b then some (.int (a % b)) else none := rfl
theorem opFdiv_i : opFdiv (.int a) (.int b) = if 0 < b ∧ b.natAbs.log2 < 9000 then some (.int (a / b)) else none := rfl
theorem opPow_i : opPow (.int a) (.int b) = if 0 ≤ b ∧ b ≤ 100 ∧ a.natAbs < 2 ^ 10000 then some (.int (a ^ b.toNat)) else none := rfl
theorem opLt_i : opLt (.int a) (.int b) = some (.bool (decide (a < b))) := rfl
theorem opLe_i : opLe (.int a) (.int b) = some (.bool (decide (a ≤ b))) := rfl
theorem opGt_i : opGt (.int a) (.int b) = some (.bool (decide (b < a))) := rfl
theorem opGe_i : opGe (.int a) (.int b) = some (.bool (decide (b ≤ a))) := rfl
theorem opIsB_b {a b : Bool} : opIsB (.bool a) (.bool b) = some (.bool (decide (a = b))) := rfl
theorem opNotB_b {a b : Bool} : opNotB (.bool a) (.bool b) = some (.bool (!decide (a = b))) := rfl
theorem opIsN_n {d : PyData} : opIsN2 d .none = some (.bool (isN d)) := rfl
theorem opNotN_n {d : PyData} : opNotN2 d .none = some (.bool (!isN d)) := rfl
theorem opNeg_i : opNeg (.int a) = some (.int (-a)) := rfl
theorem bAbs_i : bAbs [.int a] = some (.int (if a < 0 then -a else a)) := rfl
theorem bMax_i : bMax [.int a, .int b] = some (.int (if b > a then b else a)) := rfl
theorem bMin_i : bMin [.int a, .int b] = some (.int (if b < a then b else a)) := rfl
theorem bInt_i : bInt [.int a] = some (.int a) := rfl
theorem bGcd_i : bGcd [.int a, .int b] = some (.int ((Nat.gcd a.natAbs b.natAbs : Nat) : Int)) := rfl
theorem bLen_l {xs : List PyData} : bLen [.list xs] = some (.int (xs.length : Int)) := rfl
theorem bLen_t {xs : List PyData} : bLen [.tuple xs] = some (.int (xs.length : Int)) := rfl
theorem opAdd_t {xs ys : List PyData} : opAdd (.tuple xs) (.tuple ys) = if xs.length + ys.length ≤ 100000 then some (.tuple (xs ++ ys)) else none := rfl
theorem opAdd_l {xs ys : List PyData} : opAdd (.list xs) (.list ys) = if xs.length + ys.length ≤ 100000 then some (.list (xs ++ ys)) else none := rfl
theorem opIx_l {xs : List PyData} : opIx (.list xs) (.int a) = atI xs a := rfl
theorem opIx_t {xs : List PyData} : opIx (.tuple xs) (.int a) = atI xs a := rfl
end
theorem opSl_t {xs : List PyData} {lo hi : Option Int} : opSl (.tuple xs) lo hi = some (.tuple (cutL xs lo hi)) := rfl
theorem opSl_l {xs : List PyData} {lo hi : Option Int} : opSl (.list xs) lo hi = some (.list (cutL xs lo hi)) := rfl
theorem opRev_t {xs : List PyData} : opRev (.tuple xs) = some (.tuple xs.reverse) := rfl
theorem opRev_l {xs : List PyData} : opRev (.list xs) = some (.list xs.reverse) := rfl
theorem bTup_l {xs : List PyData} : bTup [.list xs] = some (.tuple xs) := rfl
theorem bTup_t {xs : List PyData} : bTup [.tuple xs] = some (.tuple xs) := rfl
theorem bList_l {xs : List PyData} : bList [.list xs] = some (.list xs) := rfl
theorem bList_t {xs : List PyData} : bList [.tuple xs] = some (.list xs) := rfl
theorem cutL_all {α : Type} {p : α → Bool} {xs : List α} {lo hi : Option Int} (h : xs.all p = true) : (cutL xs lo hi).all p = true := by
  rw [List.all_eq_true] at h ⊢
  intro x hx
  exact h x (List.mem_of_mem_drop (List.mem_of_mem_take hx))
theorem cutL_len {α : Type} {xs : List α} {lo hi : Option Int} : (cutL xs lo hi).length ≤ xs.length := by
  unfold cutL
  rw [List.length_take, List.length_drop]
  omega
theorem opEq_b {a b : Bool} : opEq (.bool a) (.bool b) = some (.bool (a == b)) := by
  unfold opEq SeqAt.shaped
  simp [PyData.canLay0, PyData.depth, PyData.eqv]
theorem opNe_b {a b : Bool} : opNe (.bool a) (.bool b) = some (.bool (!(a == b))) := by
  unfold opNe SeqAt.shaped
  simp [PyData.canLay0, PyData.depth, PyData.eqv]
theorem opEq_nn : opEq .none .none = some (.bool true) := by
  unfold opEq SeqAt.shaped
  simp [PyData.canLay0, PyData.depth, PyData.eqv]
theorem mgCons_c {g : MG} {gs : MGs} {d : PyData} {r : List PyData} {sd : DSt} {Q : DSt → Prop} : mgCons g gs (d :: r) sd Q = g d sd fun s1 => gs r s1 Q := propext ⟨fun ⟨_, _, e, h⟩ => by cases e; exact h, fun h => ⟨_, _, rfl, h⟩⟩
theorem mgNil_n {sd : DSt} {Q : DSt → Prop} : mgNil [] sd Q = Q sd := propext ⟨fun h => h.2, fun h => ⟨rfl, h⟩⟩
theorem mgTup_t {n : Nat} {gs : MGs} {ds : List PyData} {sd : DSt} {Q : DSt → Prop} : mgTup n gs (.tuple ds) sd Q = (ds.length = n ∧ gs ds sd Q) := propext ⟨fun ⟨_, e, h⟩ => by cases e; exact h, fun h => ⟨_, rfl, h⟩⟩
theorem mgTup_l {n : Nat} {gs : MGs} {ds : List PyData} {sd : DSt} {Q : DSt → Prop} : mgTup n gs (.list ds) sd Q = (ds.length = n ∧ gs ds sd Q) := propext ⟨fun ⟨_, e, h⟩ => by cases e; exact h, fun h => ⟨_, rfl, h⟩⟩
theorem items_t {xs : List PyData} : items (.tuple xs) = some xs := rfl
theorem items_l {xs : List PyData} : items (.list xs) = some xs := rfl
theorem atI0 {α : Type} {x : α} {r : List α} : atI (x :: r) 0 = some x := by
  unfold atI ixN
  simp
theorem atI1 {α : Type} {x y : α} {r : List α} : atI (x :: y :: r) 1 = some y := by
  unfold atI ixN
  rw [if_pos (by decide), if_pos (by simp only [List.length_cons]; omega)]
  rfl
theorem atI2 {α : Type} {x y z : α} {r : List α} : atI (x :: y :: z :: r) 2 = some z := by
  unfold atI ixN
  rw [if_pos (by decide), if_pos (by simp only [List.length_cons]; omega)]
  rfl
theorem atI3 {α : Type} {x y z w : α} {r : List α} : atI (x :: y :: z :: w :: r) 3 = some w := by
  unfold atI ixN
  rw [if_pos (by decide), if_pos (by simp only [List.length_cons]; omega)]
  rfl
theorem atI_mem {α : Type} {xs : List α} {r : Int} (h0 : 0 ≤ r) (h1 : r < xs.length) : ∃ d ∈ xs, atI xs r = some d := by
  have hl : r.toNat < xs.length := by omega
  refine ⟨xs[r.toNat], List.getElem_mem _, ?_⟩
  unfold atI ixN
  rw [if_pos h0, if_pos h1]
  exact List.getElem?_eq_getElem hl
theorem big10 : (10 : Int).natAbs < 2 ^ 10000 := Nat.lt_of_lt_of_le (show (10 : Int).natAbs < 2 ^ 200 by decide +kernel) (Nat.pow_le_pow_right (by decide) (by decide))
theorem opEq_int {a b : Int} : opEq (.int a) (.int b) = some (.bool (decide (a = b))) := by
  unfold opEq SeqAt.shaped
  simp [PyData.canLay0, PyData.depth, PyData.eqv]
  by_cases h : a = b <;> simp [h]
theorem opNe_int {a b : Int} : opNe (.int a) (.int b) = some (.bool (!decide (a = b))) := by
  unfold opNe SeqAt.shaped
  simp [PyData.canLay0, PyData.depth, PyData.eqv]
  by_cases h : a = b <;> simp [h]
theorem opEq_str {a b : Str} : opEq (.str a) (.str b) = some (.bool (decide (a = b))) := by
  unfold opEq
  split
  · have e : PyData.eqv (.str a) (.str b) = decide (a = b) := by
      by_cases h : a = b <;> simp [PyData.eqv, h]
    rw [e]
  · rfl
theorem opNe_str {a b : Str} : opNe (.str a) (.str b) = some (.bool (!decide (a = b))) := by
  unfold opNe
  split
  · have e : PyData.eqv (.str a) (.str b) = decide (a = b) := by
      by_cases h : a = b <;> simp [PyData.eqv, h]
    rw [e]
  · rfl
end DL
namespace DL
open PySem
theorem lcL_run {mg : MG} {mt : MT} {me : ME} {vs : List Nat} {Q : List PyData → DSt → Prop} (I : DSt → Prop) (k : PyData → Option PyData) :
    ∀ ds : List PyData, (∀ d ∈ ds, ∀ s, I s → ∀ (Y : PyData → DSt → Prop) (N : DSt → Prop), (∀ y s3, k d = some y → I s3 → Y y s3) → (∀ s2, k d = none → I s2 → N s2) → mg d (swipe s vs) fun s1 => mt s1 fun b s2 => if b = true then me s2 Y else N s2) →
      ∀ s acc, I s → acc.length + ds.length ≤ 100000 → (∀ s', I s' → Q (acc ++ ds.filterMap k) s') → lcL mg mt me vs Q ds s acc
  | [], _, s, acc, i, _, q => by
    have := q s i
    rw [List.filterMap_nil, List.append_nil] at this
    exact this
  | d :: ds, h, s, acc, i, hl, q => by
    refine h d (by simp) s i _ _ (fun y s3 e i3 => ⟨by simp at hl; omega, ?_⟩) (fun s2 e i2 => ?_)
    · refine lcL_run I k ds (fun d' hd => h d' (by simp [hd])) s3 (acc ++ [y]) i3 (by simp at hl ⊢; omega) fun s' i' => ?_
      have := q s' i'
      rw [List.filterMap_cons_some e] at this
      simpa using this
    · refine lcL_run I k ds (fun d' hd => h d' (by simp [hd])) s2 acc i2 (by simp at hl; omega) fun s' i' => ?_
      have := q s' i'
      rwa [List.filterMap_cons_none e] at this
theorem forL_run {mg : MG} {body : MS} {D : DE} (I : List PyData → DSt → Prop) (hs : ∀ d r s (N : DSt → Prop), I (d :: r) s → (∀ s', I r s' → N s') → mg d s fun s1 => body { D with nx := N, ct := N, bk := D.nx } s1) (he : ∀ s, I [] s → D.nx s) : ∀ ds s, I ds s → forL mg body D ds s
  | [], s, i => he s i
  | d :: r, s, i => hs d r s _ i fun s' i' => forL_run I hs he r s' i'
theorem whileN_run {t : MT} {body : MS} {D : DE} (I : Nat → DSt → Prop) (hs : ∀ n s (N : DSt → Prop), I n s → (∀ m s', m < n → I m s' → N s') → t s fun b s1 => if b = true then body { D with nx := N, ct := N, bk := D.nx } s1 else D.nx s1) :
    ∀ (k n : Nat) (s : DSt), n < k → I n s → whileN t body D k s
  | 0, n, s, h, _ => by omega
  | k + 1, n, s, h, i => hs n s _ i fun m s' hm i' => whileN_run I hs k m s' (by omega) i'
theorem whileM {t : MT} {body : MS} {D : DE} (I : Nat → DSt → Prop) {n : Nat} {s : DSt} (i : I n s) (hs : ∀ n s (N : DSt → Prop), I n s → (∀ m s', m < n → I m s' → N s') → t s fun b s1 => if b = true then body { D with nx := N, ct := N, bk := D.nx } s1 else D.nx s1) : mWhile t body D s :=
  ⟨n + 1, whileN_run I hs (n + 1) n s (Nat.lt_succ_self n) i⟩
theorem sget_eq {s : DSt} : sget s 0 = match s with
  | [] => .no
  | x :: _ => x := by cases s <;> rfl
end DL
local macro_rules | `(tactic| walk_at "rdm") => `(tactic| simp only [DL.mSeq, DL.mAsg, DL.mAsgR, DL.mAsgM, DL.mrs, DL.ssets, DL.mIf, DL.mRet, DL.mRetN, DL.mrOf, DL.mrLst, DL.mrCat, DL.mrCall, DL.mDrop, DL.mNext, DL.mBreak, DL.mCont, DL.mC, DL.mVar, DL.mOp2, DL.mOp1, DL.mAnd, DL.mOr, DL.mNot, DL.mIfE, DL.mChain, DL.mNil, DL.mCons, DL.mTup, DL.mLst, DL.mCallB, DL.mDict0, DL.mPart, DL.mNoPart, DL.mSl, DL.mCall, DL.mCallK, DL.mCallW, DL.mLenScr, DL.mWell, DL.mT, DL.mTAnd, DL.mTOr, DL.mTNot, DL.mTYes, DL.mgName, DL.mgNil, DL.mgCons, DL.mgTup, DL.miSeq, DL.miRng1, DL.miRng2, DL.mRaise, DL.mApp, DL.mFor, DL.mLc, DL.mrLc, DL.sget, DL.sset, DL.slots0, DL.slotsW, DL.endP, DL.endW, DL.endL, DL.wF, DL.fz_va, DL.fz_own, List.length_cons, List.length_nil, List.map_cons, List.map_nil, List.replicate_succ, List.replicate_zero, Nat.reduceAdd, Nat.reduceSub, Nat.reduceLeDiff, List.cons_append, List.nil_append, Nat.zero_add, Nat.add_zero, Nat.sub_self, Option.some.injEq, PySem.PyData.bool.injEq, PySem.PyData.int.injEq, PySem.PyData.tuple.injEq, PySem.PyData.list.injEq, PySem.PyData.str.injEq, List.cons.injEq, DL.S.va.injEq, DL.S.own.injEq, DL.S.well.injEq, DL.S.scr.injEq, and_true, true_and, exists_eq_left', exists_eq_left, exists_eq_right, exists_eq_right', exists_and_left, exists_and_right, exists_eq, exists_eq', reduceCtorEq, false_and, and_false, exists_const, if_true, if_false, Bool.false_eq_true, reduceIte, Bool.not_true, Bool.not_false, DL.bIsi, List.any_cons, List.any_nil, Bool.or_false, Bool.or_true, Bool.false_or, Bool.true_or, DL.isK, DL.opAdd_i, DL.opSub_i, DL.opMul_i, DL.opMod_i, DL.opFdiv_i, DL.opPow_i, DL.opLt_i, DL.opLe_i, DL.opGt_i, DL.opGe_i, DL.opEq_int, DL.opNe_int, DL.opEq_str, DL.opNe_str, DL.opIsN_n, DL.opNotN_n, DL.isN, DL.opIsB_b, DL.opNotB_b, DL.opNeg_i, DL.bAbs_i, DL.bMax_i, DL.bMin_i, DL.bInt_i, DL.bGcd_i, DL.bLen_l, DL.bLen_t, DL.opAdd_t, DL.opAdd_l, DL.opIx_l, DL.opIx_t, DL.opSl_t, DL.opSl_l, DL.opRev_t, DL.opRev_l, DL.bList_l, DL.bList_t, DL.bTup_l, DL.bTup_t, DL.atI0, DL.atI1, DL.atI2, DL.atI3])
local macro_rules | `(tactic| walk_at "rdn") => `(tactic| simp only [DL.mSeq, DL.mAsg, DL.mAsgR, DL.mAsgM, DL.mrs, DL.ssets, DL.mIf, DL.mRet, DL.mRetN, DL.mrOf, DL.mrLst, DL.mrCat, DL.mrCall, DL.mDrop, DL.mNext, DL.mBreak, DL.mCont, DL.mC, DL.mVar, DL.mOp2, DL.mOp1, DL.mAnd, DL.mOr, DL.mNot, DL.mIfE, DL.mChain, DL.mNil, DL.mCons, DL.mTup, DL.mLst, DL.mCallB, DL.mDict0, DL.mPart, DL.mNoPart, DL.mSl, DL.mCall, DL.mCallK, DL.mCallW, DL.mLenScr, DL.mWell, DL.mT, DL.mTAnd, DL.mTOr, DL.mTNot, DL.mTYes, DL.mgName, DL.mgNil_n, DL.mgCons_c, DL.mgTup_t, DL.mgTup_l, DL.miSeq, DL.miRng1, DL.miRng2, DL.mRaise, DL.mApp, DL.mFor, DL.mLc, DL.mrLc, DL.sget, DL.sset, DL.slots0, DL.slotsW, DL.endP, DL.endW, DL.endL, DL.wF, DL.fz_va, DL.fz_own, List.length_cons, List.length_nil, List.map_cons, List.map_nil, List.replicate_succ, List.replicate_zero, Nat.reduceAdd, Nat.reduceSub, Nat.reduceLeDiff, List.cons_append, List.nil_append, Nat.zero_add, Nat.add_zero, Nat.sub_self, Option.some.injEq, PySem.PyData.bool.injEq, PySem.PyData.int.injEq, PySem.PyData.tuple.injEq, PySem.PyData.list.injEq, PySem.PyData.str.injEq, List.cons.injEq, DL.S.va.injEq, DL.S.own.injEq, DL.S.well.injEq, DL.S.scr.injEq, and_true, true_and, exists_eq_left', exists_eq_left, exists_eq_right, exists_eq_right', exists_and_left, exists_and_right, exists_eq, exists_eq', reduceCtorEq, false_and, and_false, exists_const, if_true, if_false, Bool.false_eq_true, reduceIte, Bool.not_true, Bool.not_false, DL.bIsi, List.any_cons, List.any_nil, Bool.or_false, Bool.or_true, Bool.false_or, Bool.true_or, DL.isK, DL.opAdd_i, DL.opSub_i, DL.opLt_i, DL.opLe_i, DL.opGt_i, DL.opGe_i, DL.opEq_int, DL.opNe_int, DL.opEq_b, DL.opNe_b, DL.opEq_nn, beq_self_eq_true, DL.opEq_str, DL.opNe_str, DL.opIsN_n, DL.opNotN_n, DL.isN, DL.opIsB_b, DL.opNotB_b, DL.opNeg_i, DL.bAbs_i, DL.bMax_i, DL.bMin_i, DL.bInt_i, DL.bGcd_i, DL.bLen_l, DL.bLen_t, DL.opAdd_t, DL.opAdd_l, DL.opIx_l, DL.opIx_t, DL.opSl_t, DL.opSl_l, DL.opRev_t, DL.opRev_l, DL.bList_l, DL.bList_t, DL.bTup_l, DL.bTup_t, DL.atI0, DL.atI1, DL.atI2, DL.atI3, DL.items_t, DL.items_l])
namespace DL
open PySem
theorem bools_map {α : Type} (f : α → Bool) : ∀ xs : List α, bools (xs.map fun x => .bool (f x)) = some (xs.map f)
  | [] => rfl
  | x :: xs => by
    show (bools (xs.map fun x => .bool (f x))).map (f x :: ·) = _
    rw [bools_map f xs]
    rfl
theorem fm_some {α β : Type} (f : α → β) : ∀ xs : List α, xs.filterMap (fun d => some (f d)) = xs.map f
  | [] => rfl
  | x :: xs => by
    rw [List.filterMap_cons]
    simp [fm_some f xs]
end DL
namespace DL
open PySem
/-- a number of at most k binary digits -/
def sz (k : Nat) (z : Int) : Prop := z.natAbs < 2 ^ k
theorem sz_mono {k l : Nat} {z : Int} (h : sz k z) (hl : k ≤ l) : sz l z := Nat.lt_of_lt_of_le h (Nat.pow_le_pow_right (by decide) hl)
theorem sz_neg {k : Nat} {z : Int} (h : sz k z) : sz k (-z) := by
  unfold sz at *
  rwa [Int.natAbs_neg]
theorem sz_mul {k l : Nat} {a b : Int} (ha : sz k a) (hb : sz l b) : sz (k + l) (a * b) := by
  unfold sz at *
  rw [Int.natAbs_mul, Nat.pow_add]
  exact Nat.mul_lt_mul'' ha hb
theorem sz_add {k : Nat} {a b : Int} (ha : sz k a) (hb : sz k b) : sz (k + 1) (a + b) := by
  unfold sz at *
  have := Int.natAbs_add_le a b
  rw [Nat.pow_succ]
  omega
theorem sz_sub {k : Nat} {a b : Int} (ha : sz k a) (hb : sz k b) : sz (k + 1) (a - b) := by
  rw [Int.sub_eq_add_neg]
  exact sz_add ha (sz_neg hb)
theorem sz_le {k : Nat} {a b : Int} (hb : sz k b) (h : a.natAbs ≤ b.natAbs) : sz k a := Nat.lt_of_le_of_lt h hb
theorem sz_mod {k : Nat} {a b : Int} (hb : sz k b) (h : 0 < b) : sz k (a % b) := by
  have h1 := Int.emod_nonneg a (show b ≠ 0 by omega)
  have h2 := Int.emod_lt_of_pos a h
  exact sz_le hb (by omega)
theorem natAbs_div_le (a : Int) {b : Int} (h : 0 < b) : (a / b).natAbs ≤ a.natAbs := Int.natAbs_ediv_le_natAbs a b
theorem sz_div {k : Nat} {a b : Int} (ha : sz k a) (h : 0 < b) : sz k (a / b) := sz_le ha (natAbs_div_le a h)
theorem sz_log {k : Nat} {z : Int} (h : sz k z) : z.natAbs.log2 ≤ k := by
  by_cases h0 : z.natAbs = 0
  · rw [h0, show Nat.log2 0 = 0 by decide]
    exact Nat.zero_le _
  · exact Nat.le_of_lt ((Nat.log2_lt h0).mpr h)
theorem small_sz {a b : Int} {k l : Nat} (ha : sz k a) (hb : sz l b) (h : k + l < 1000000) : small a b = true := by
  have := sz_log ha
  have := sz_log hb
  exact decide_eq_true (by omega)
theorem opMul_ok {a b : Int} {k l : Nat} (ha : sz k a) (hb : sz l b) (h : k + l < 1000000) : opMul (.int a) (.int b) = some (.int (a * b)) := by rw [opMul_i, if_pos (small_sz ha hb h)]
theorem opMod_ok {a b : Int} (h : 0 < b) : opMod (.int a) (.int b) = some (.int (a % b)) := by rw [opMod_i, if_pos h]
theorem opFdiv_ok {a b : Int} {k : Nat} (h : 0 < b) (hb : sz k b) (hk : k < 9000) : opFdiv (.int a) (.int b) = some (.int (a / b)) := by
  have := sz_log hb
  rw [opFdiv_i, if_pos ⟨h, by omega⟩]
end DL
namespace DL
open PySem PySem.Spec PyProof.Rows L2
/-- body; an error of a class that is caught: the suite, with the error in slot i; else on -/
def mTry (body : WD → MS) (i : Nat) (cat : String → Bool) (suite : String → Addr → MS) (Wout : WD) : MS := fun D sd =>
  body (fun c sd' => (cat c = true → ∀ a, suite c a { nx := fun s => D.nx (sset s i .no), rt := D.rt, bk := fun s => D.bk (sset s i .no), ct := fun s => D.ct (sset s i .no) } (sset sd' i (.exc a))) ∧ (cat c = false → Wout c sd')) D sd
/-- isinstance(e, ..), e what slot i holds, at a -/
def mIsE (i : Nat) (a : Addr) (b : Bool) : ME := fun sd Q => sget sd i = .exc a ∧ Q (.bool b) sd
/-- from F on -/
abbrev Ct.on (C : Ct) (F : Hp) : Ct := { C with F0 := F }
section
variable {K : PySem.W.Frag} {X : Cx} {C : Ct} {F H F1 : Hp} {σ : L2.St} {sd : DSt}
theorem slot_on {v : Option V} {s : S} : SlotOk K (C.on F1) F H v s ↔ SlotOk K C F H v s := by cases s <;> exact Iff.rfl
theorem Rs.on (R : Rs K C F H σ sd) : Rs K (C.on F) F H σ sd :=
  ⟨R.len, Same.refl _, R.ext, fun _ _ e => .inl e, R.keep, R.still, fun i => slot_on.mpr (R.slot i), R.sep⟩
theorem Rs.off {F0 H0 : Hp} {σ0 : L2.St} {sd0 : DSt} (R0 : Rs K C F0 H0 σ0 sd0) (R : Rs K (C.on F0) F H σ sd) : Rs K C F H σ sd :=
  ⟨R.len, R0.grow.trans R.grow, R.ext, fun a o e => (R.new a o e).elim (fun z => R0.new a o z) .inr, R.keep, R.still, fun i => slot_on.mp (R.slot i), R.sep⟩
theorem EndOk.on {Dd : DE} {D : Ends} (R : Rs K C F H σ sd) (E : EndOk K C F Dd D) : EndOk K (C.on F) F Dd D :=
  ⟨fun F1 H1 σ1 sd1 e R1 q => E.nx F1 H1 σ1 sd1 e (R.off R1) q, fun F1 H1 σ1 sd1 v r e R1 rv o q => E.rt F1 H1 σ1 sd1 v r e (R.off R1) (slot_on.mp rv) o q, fun F1 H1 σ1 sd1 e R1 q => E.bk F1 H1 σ1 sd1 e (R.off R1) q, fun F1 H1 σ1 sd1 e R1 q => E.ct F1 H1 σ1 sd1 e (R.off R1) q⟩
variable {CN : String → Option Addr}
/-- the suite's wish, whatever the class is -/
def tSuite (K : PySem.W.Frag) (C : Ct) (CN : String → Option Addr) (suite : String → Addr → MS) : Addr → Value → Option Addr → TS := fun a cls d D σ H => ∃ c A, CN c = some A ∧ cls = .ref A ∧ d = none ∧ tDS K C (suite c a) D σ H
def tBody (K : PySem.W.Frag) (C : Ct) (CN : String → Option Addr) (mb : WD → MS) : WX → TS := fun W D σ H => ∃ F Wd, (∀ cls d σ H, wD K (C.on F) CN Wd cls d σ H → W cls d σ H) ∧ tDS K (C.on F) (mb Wd) D σ H
theorem td_try {hc : Value} {i : Nat} {cat : String → Bool} {mb : WD → MS} {suite : String → Addr → MS} {Wout : WD} (hx : ∀ c A, CN c = some A → PySem.W.exmOne K (.ref A) hc = some (cat c)) :
    ∀ D σ H, tDS K C (mTry mb i cat suite Wout) D σ H → tBody K C CN mb (wAs K hc i (tSuite K C CN suite) (wD K C CN Wout) D) D σ H := by
  rintro D σ H ⟨F, sd, Dd, R, E, h⟩
  refine ⟨F, _, ?_, F, sd, Dd, R.on, E.on R, h⟩
  rintro cls d σ1 H1 ⟨c, A, F1, sd1, hcn, rfl, rfl, R1, q1, q2⟩
  have R2 := R.off R1
  refine ⟨cat c, hx c A hcn, fun hb a ha => ⟨c, A, hcn, rfl, rfl, F1, _, _, R2.setr (v := .ref a) (r := .exc a) rfl (fun z => nomatch z), ?_, q1 hb a⟩, fun hb => ⟨c, A, F1, sd1, hcn, rfl, rfl, R2, q2 hb⟩⟩
  have E2 := E.mono R1.grow
  exact ⟨fun F3 H3 σ3 sd3 e R3 q => E2.nx F3 H3 _ _ e R3.setno q, E2.rt, fun F3 H3 σ3 sd3 e R3 q => E2.bk F3 H3 _ _ e R3.setno q, fun F3 H3 σ3 sd3 e R3 q => E2.ct F3 H3 _ _ e R3.setno q⟩
variable {x n : Str} {c : Value} {i : Nat} {body suite : List Stmt} {b₀ : Stmt} {np pos pos' : Pos}
theorem pds_try {hc : Value} {cat : String → Bool} {mb : WD → MS} {ms : String → Addr → MS} {Wout : WD} (hs : X.stack = X.env :: X.outer) (hf : X.env.frame = some X.env.locals) (hN : X.N.Nodup) (hi : X.N[i]? = some n) (hln : X.env.kindOf n = some .local) (hcn : Names X x hc) (tk : Takes X (wD X.K C CN Wout))
    (hx : ∀ c A, CN c = some A → PySem.W.exmOne X.K (.ref A) hc = some (cat c))
    (hb : ∀ (F : Hp) (Wd : WD) (pn : List (Addr × Obj)) (xe : Value → Shared → Prop), Takes (X.tr pn xe) (wD X.K (C.on F) CN Wd) → PassesOwn (model X.prog X.w) X.A X.env xe → PSs (X.tr pn xe) body (tDS X.K (C.on F) (mb Wd)))
    (hsu : ∀ (a : Addr) (oe : Obj) (pn : List (Addr × Obj)) (c : String) (A : Addr), CN c = some A → Zc (.ref A) none oe → (∃ vs, oe.data = .fields vs) → PSs (X.suite a ((a, oe) :: pn)) (b₀ :: suite) (tDS X.K C (ms c a))) :
    PS X (.Try body [.ExceptHandler (some (.Name x np)) (some n) (b₀ :: suite) pos'] [] [] pos) (tDS X.K C (mTry mb i cat ms Wout)) := by
  refine ps_imp (ps_try_as (ts := tSuite X.K C CN ms) (tb := tBody X.K C CN mb) hs hf hN hi hln hcn tk (fun W pn xe tk' po => ?_) (fun a oe cls d pn hz hfl => ?_)) (td_try hx)
  · refine ⟨fun pins s σ H D I h => ?_⟩
    obtain ⟨F, Wd, hw, h⟩ := h
    exact (hb F Wd pn xe (tk'.imp hw) po).run pins s σ H D I h
  · refine ⟨fun pins s σ H D I h => ?_⟩
    obtain ⟨c, A, hA, rfl, rfl, h⟩ := h
    exact (hsu a oe pn c A hA hz hfl).run pins s σ H D I h
/-- isinstance(n, T) in a suite -/
theorem pd_isE {a A : Addr} {oe : Obj} {pn : List (Addr × Obj)} {i : Nat} {y : Str} {p p2 pos : Pos} {b : Bool} {tv : V} {cv : Value} {te : Expr} (EC : ExcC X.K A) (hz : Zc (.ref A) none oe) (hfl : ∃ vs, oe.data = .fields vs) (hm : X.mg "isinstance" = none)
    (hk : PySem.W.kitOne X.K (.ref A) cv = some b) (hcv : ∀ u, RelV tv u → u = cv) (hN : (X.suite a ((a, oe) :: pn)).N[i]? = some y) (hv : Vis (X.suite a ((a, oe) :: pn)).env.scope y) (hT : PE (X.suite a ((a, oe) :: pn)) te (tC tv))
    (hg : Gl (X.suite a ((a, oe) :: pn)) "isinstance" := by rfl) (hd : (y == ("__debug__" : Str)) = false := by decide) (hcd : (y == ("__classdict__" : Str)) = false := by decide)
    (he : starEach (.Name y p2 :: [te]) X.env = (false, eval (.Name y p2) X.env) :: starEach [te] X.env := by rfl) (he1 : starEach (te :: []) X.env = (false, eval te X.env) :: starEach [] X.env := by rfl) (hpl : (backTo pos (starEach [te] X.env)).any (·.1) = false := by rfl) :
    PE (X.suite a ((a, oe) :: pn)) (.Call (.Name "isinstance" p) [.Name y p2, te] [] pos) (tD X.K C (mIsE i a b)) := pe_imp (pe_callB (call_isE EC hz hfl) hg hm (by decide +kernel) (pa_cons (pe_var hN hv hd hcd) (pa_cons hT pa_nil he1) he) (by decide) (by decide) he hpl) (by
  rintro σ H Q ⟨F, sd, Qd, R, ⟨hs, h⟩, k⟩
  have hi := R.slot i
  rw [hs] at hi
  refine ⟨.ref a, gv_some.mp hi, tv, cv, b, rfl, hcv, hk, ?_⟩
  exact k _ H F _ sd R .refl (.bl _) h)
end
end DL
namespace DL
open PySem PySem.Spec PyProof.Rows L2
/-- xs.f(x) -/
def mMeth (f : List PyData → PyData → Option PyData) (ma mb : ME) : ME := fun sd Q => ma sd fun a s1 => ∃ xs, a = .list xs ∧ mb s1 fun b s2 => ∃ r, f xs b = some r ∧ Q r s2
def opCnt (xs : List PyData) (b : PyData) : Option PyData := if (flatD b && xs.all flatD) = true then some (.int (xs.countP (fun d => PyData.eqv d b) : Nat)) else none
def firstAt (b : PyData) : List PyData → Option Nat
  | [] => none
  | d :: ds => if PyData.eqv d b = true then some 0 else (firstAt b ds).map (· + 1)
def opIdx (xs : List PyData) (b : PyData) : Option PyData := if (flatD b && xs.all flatD) = true then (firstAt b xs).map fun n => .int (n : Nat) else none
section
variable {K : PySem.W.Frag} {X : Cx} {C : Ct}
def rCntF (K : PySem.W.Frag) : V → List V → Hp → VK → Prop := fun x xs H Q => ∃ (p : Addr) (ys : List V) (y : V), x = .ref p ∧ xs = [y] ∧ SqL K H p ys ∧ flatV y = true ∧ ys.all flatV = true ∧ Q (.int (ys.countP (fun z => eqV z y) : Nat)) H
theorem countU {y : V} : ∀ {ys : List V} {us : List Value}, Vals ys us → ys.all flatV = true → us.countP (eqU y) = ys.countP (fun z => eqV z y)
  | _, _, .nil, _ => rfl
  | z :: ys, u :: us, .cons r rr, f => by
    rw [List.all_cons, Bool.and_eq_true] at f
    rw [List.countP_cons, List.countP_cons, countU rr f.2, eqU_of r f.1]
theorem mt_countF : MtR X "list.count" (rCntF X.K) := by
  intro pins s σ H x xs v us Q I rx rxs h
  obtain ⟨p, ys, y, rfl, rfl, hs, fy, fys, q⟩ := h
  cases rx
  obtain ⟨u, rfl, ru⟩ := rxs.one
  obtain ⟨its, rv, ⟨⟨cls, dd, data, sl⟩, n, ho, hc, hdn, hd⟩, hlen⟩ := I.list hs
  simp only at hc hd
  subst hc hd
  refine call_meets PySem.F.slot_list_count ⟨_, ho, rfl⟩ PySem.F.entry_list_count (PySem.F.args_list_count_2 _ _) (SeqAt.list_countAt p its.toArray n dd sl u (eqU y)) ⟨ho, fun u' hu' => mem_eqAt ru fy rv fys u' (by simpa using hu'), ?_⟩
  have ec : its.toArray.toList.countP (eqU y) = ys.countP (fun z => eqV z y) := countU rv fys
  refine ⟨.int (ys.countP (fun z => eqV z y) : Nat), H, I.tok _, ⟨s.toks, ?_⟩, q⟩
  show Value.int ((its.toArray.toList.countP (eqU y) : Nat) : Int) s.toks = _
  rw [ec]
theorem flats_rp {F : Hp} : ∀ {vs : List V} {ds : List PyData}, RpA K F vs ds → ds.all flatD = true → vs.all flatV = true
  | _, _, .nil, _ => rfl
  | v :: vs, d :: ds, .cons h r, hf => by
    rw [List.all_cons, Bool.and_eq_true] at hf
    rw [List.all_cons, flatV_rp h hf.1, flats_rp r hf.2]
    rfl
theorem count_rp {F : Hp} {y : V} {b : PyData} (ry : Rp K F y b) (hb : flatD b = true) : ∀ {vs : List V} {ds : List PyData}, RpA K F vs ds → ds.all flatD = true → vs.countP (fun z => eqV z y) = ds.countP (fun d => PyData.eqv d b)
  | _, _, .nil, _ => rfl
  | v :: vs, d :: ds, .cons h r, hf => by
    rw [List.all_cons, Bool.and_eq_true] at hf
    rw [List.countP_cons, List.countP_cons, count_rp ry hb r hf.2, eqV_rp h ry hf.1 hb]
theorem first_rp {F : Hp} {y : V} {b : PyData} (ry : Rp K F y b) (hb : flatD b = true) : ∀ {vs : List V} {ds : List PyData} {n : Nat}, RpA K F vs ds → ds.all flatD = true → firstAt b ds = some n →
    ∃ z, vs[n]? = some z ∧ eqV z y = true ∧ ∀ (m : Nat) (z' : V), m < n → vs[m]? = some z' → eqV z' y = false
  | _, _, _, .nil, _, e => by cases e
  | v :: vs, d :: ds, n, .cons h r, hf, e => by
    rw [List.all_cons, Bool.and_eq_true] at hf
    unfold firstAt at e
    by_cases c : PyData.eqv d b = true
    · rw [if_pos c] at e
      cases e
      exact ⟨v, rfl, (eqV_rp h ry hf.1 hb).trans c, fun m z' hm _ => by omega⟩
    · rw [if_neg c] at e
      obtain ⟨k, hk, rfl⟩ := Option.map_eq_some_iff.mp e
      obtain ⟨z, z1, z2, z3⟩ := first_rp ry hb r hf.2 hk
      refine ⟨z, by simpa using z1, z2, fun m z' hm hz => ?_⟩
      cases m with
      | zero =>
        cases hz
        rw [eqV_rp h ry hf.1 hb]
        simpa using c
      | succ m => exact z3 m z' (by omega) (by simpa using hz)
theorem td_meth {r : V → List V → Hp → VK → Prop} {f : List PyData → PyData → Option PyData} {ma mb : ME}
    (L : ∀ (F H : Hp) (p : Addr) (vs : List V) (ds : List PyData) (y : V) (b z : PyData) (Q : VK), Same F H → F p = some (.lst vs) → RpA K F vs ds → Rp K F y b → f ds b = some z → (∀ v, Rp K F v z → Q v H) → r (.ref p) [y] H Q) :
    ∀ σ H Q, tD K C (mMeth f ma mb) σ H Q → tBM K "list" r (tD K C ma) (tCons (tD K C mb) tNil) σ H Q := by
  rintro σ H Q ⟨F, sd, Qd, R, h, k⟩
  refine ⟨F, sd, _, R, h, fun x H1 F1 a sd1 R1 S1 rx h1 => ?_⟩
  obtain ⟨xs, rfl, h1⟩ := h1
  cases rx with
  | lst hp ra =>
    refine ⟨.inl ⟨rfl, _, .inl (.inl (R1.ext _ _ hp))⟩, F1, sd1, _, R1, h1, fun y H2 F2 b sd2 R2 S2 ry h2 => ?_⟩
    obtain ⟨z, e, q⟩ := h2
    exact L F2 H2 _ _ xs y b z Q R2.ext (S2.fr _ _ hp) (ra.mono S2.fr) ry e fun v rz => k v H2 F2 z sd2 R2 (S1.trans S2) rz q
variable {o e : Expr} {apos cpos : Pos} {ma mb : ME}
theorem pd_count (ho : PE X o (tD X.K C ma)) (he : PE X e (tD X.K C mb)) (t : PE X (.Call (.Attribute o "count" apos) [e] [] cpos) (tBM X.K "list" (rCntF X.K) (tD X.K C ma) (tCons (tD X.K C mb) tNil))) : PE X (.Call (.Attribute o "count" apos) [e] [] cpos) (tD X.K C (mMeth opCnt ma mb)) := pe_imp t (td_meth (by
  intro F H p vs ds y b z Q e hp ra ry h k
  unfold opCnt at h
  split at h
  · rename_i hc
    cases h
    rw [Bool.and_eq_true] at hc
    refine ⟨p, vs, y, rfl, rfl, .inl (.inl (e _ _ hp)), flatV_rp ry hc.1, flats_rp ra hc.2, ?_⟩
    rw [count_rp ry hc.1 ra hc.2]
    exact k _ (.int _)
  · cases h))
theorem pd_index (ho : PE X o (tD X.K C ma)) (he : PE X e (tD X.K C mb)) (t : PE X (.Call (.Attribute o "index" apos) [e] [] cpos) (tBM X.K "list" (rIndex X.K) (tD X.K C ma) (tCons (tD X.K C mb) tNil))) : PE X (.Call (.Attribute o "index" apos) [e] [] cpos) (tD X.K C (mMeth opIdx ma mb)) := pe_imp t (td_meth (by
  intro F H p vs ds y b z Q e hp ra ry h k
  unfold opIdx at h
  split at h
  · rename_i hc
    rw [Bool.and_eq_true] at hc
    obtain ⟨n, hn, rfl⟩ := Option.map_eq_some_iff.mp h
    obtain ⟨z, z1, z2, z3⟩ := first_rp ry hc.1 ra hc.2 hn
    exact ⟨p, vs, y, n, z, rfl, rfl, .inl (.inl (e _ _ hp)), flatV_rp ry hc.1, flats_rp ra hc.2, z1, z2, z3, k _ (.int _)⟩
  · cases h))
end
end DL
namespace DL
open PySem PySem.Spec PyProof.Rows L2
/-- x[k] = e, x a slot that owns its list -/
def mSet (i : Nat) (mi me : ME) : MS := fun D sd => me sd fun v s1 => (∃ ds, sget s1 i = .own ds) ∧ mi s1 fun k s2 => ∃ ds j n, sget s2 i = .own ds ∧ k = .int j ∧ DL.ixN ds.length j = some n ∧ D.nx (sset s2 i (.own (ds.set n v)))
/-- list(e), a list that nobody else holds -/
def mrListOf (me : ME) : MR := fun sd Q => me sd fun d s1 => ∃ ds, items d = some ds ∧ Q (.own ds) s1
theorem RpA.set {K : PySem.W.Frag} {F : Hp} {v : V} {d : PyData} (q : Rp K F v d) : ∀ {vs : List V} {ds : List PyData} (n : Nat), RpA K F vs ds → RpA K F (vs.set n v) (ds.set n d)
  | _, _, _, .nil => .nil
  | _, _, 0, .cons _ r => .cons q r
  | _, _, n + 1, .cons h r => .cons h (RpA.set q n r)
/-- a; b, by what holds between them -/
theorem seq_run {a b : MS} {D : DE} {sd : DSt} (P : DSt → Prop) (h1 : ∀ N : DSt → Prop, (∀ s, P s → N s) → a { D with nx := N } sd) (h2 : ∀ s, P s → b D s) : mSeq a b D sd := h1 _ h2
/-- if t: a else b, where t is known to say c -/
theorem if_run {t : MT} {a b : MS} {D : DE} {sd : DSt} (c : Bool) (ht : ∀ Q : Bool → DSt → Prop, Q c sd → t sd Q) (ha : c = true → a D sd) (hb : c = false → b D sd) : mIf t a b D sd := ht _ (by
  cases c with
  | true => exact ha rfl
  | false => exact hb rfl)
/-- x = e, where e is known to be d -/
theorem asg_run {e : ME} {i : Nat} {D : DE} {sd : DSt} (d : PyData) (he : ∀ Q : PyData → DSt → Prop, Q d sd → e sd Q) (h : D.nx (sset sd i (.va d))) : mAsg e (mgName i) D sd := he _ h
theorem opIn_2 {x a b : Int} : opIn (.int x) (.tuple [.int a, .int b]) = some (.bool (decide (a = x) || decide (b = x))) := by
  simp [opIn, opInS, items, flatD, PyData.eqv]
  congr 1 <;> exact decide_eq_decide.mpr Iff.rfl
theorem opNotIn_2 {x a b : Int} : opNotIn (.int x) (.tuple [.int a, .int b]) = some (.bool (!(decide (a = x) || decide (b = x)))) := by
  simp [opNotIn, opInS, items, flatD, PyData.eqv]
  congr 1 <;> exact decide_eq_decide.mpr Iff.rfl
section
variable {K : PySem.W.Frag} {X : Cx} {C : Ct}
theorem pds_setIx {i : Nat} {tg e : Expr} {pos : Pos} {mi me : ME} (t : PS X (.Assign [tg] e pos) (tAsg (tD X.K C me) (gSub (tVar i) (tD X.K C mi) rSetL))) : PS X (.Assign [tg] e pos) (tDS X.K C (mSet i mi me)) := ps_imp t (by
  rintro D σ H ⟨F, sd, Dd, R, E, h⟩
  refine ⟨F, sd, _, R, h, fun v H1 F1 d sd1 R1 S1 rv hh => ?_⟩
  obtain ⟨⟨ds0, h0⟩, h2⟩ := hh
  have hi := R1.slot i
  rw [h0] at hi
  obtain ⟨q, vs, e1, e2, e3, e4, r⟩ := hi
  refine ⟨.ref q, gv_some.mp e1, F1, sd1, _, R1, h2, fun k H2 F2 kd sd2 R2 S2 rk h3 => ?_⟩
  obtain ⟨ds, j, n, g1, rfl, g2, hnx⟩ := h3
  cases rk
  have hi2 := R2.slot i
  rw [g1] at hi2
  obtain ⟨q', vs2, z1, z2, z3, z4, r2⟩ := hi2
  rw [e1] at z1; cases z1
  refine ⟨q, vs2, j, n, rfl, rfl, z2, by rw [r2.length]; exact g2, ?_⟩
  exact E.nx F2 _ σ _ (S1.fr.trans S2.fr) (R2.setOwn g1 e1 (RpA.set (rv.mono S2.fr) n r2)) hnx)
theorem pdr_listOf {e : Expr} {x : Str} {p pos : Pos} {me : ME} (hm : X.mg x = none) (hv : bootBuiltins x = some (.type "list"))
    (ha : PE X e (tD X.K C me)) (hg : Gl X x := by rfl) (hn : x ≠ "__name__" := by decide) (hdb : (x == ("__debug__" : Str)) = false := by decide)
    (he1 : starEach [e] X.env = (false, eval e X.env) :: starEach [] X.env := by rfl) (hpl : (backTo pos (starEach [] X.env)).any (·.1) = false := by rfl) : PE X (.Call (.Name x p) [e] [] pos) (tDR X.K C (mrListOf me)) :=
  pe_imp (pe_callTy call_list_of hg hm hv (pa_cons ha pa_nil he1) hn hdb he1 hpl) (by
  rintro σ H Q ⟨F, sd, Qd, R, h, k⟩
  refine ⟨F, sd, _, R, h, fun v H1 F1 d sd1 R1 S1 rv hh => ?_⟩
  obtain ⟨ds, hd, q⟩ := hh
  cases d with
  | list xs =>
    cases hd
    cases rv with
    | lst h1 r1 => exact ⟨_, _, rfl, .inl (.inl (.inl (R1.ext _ _ h1))), fun l hl => k (.ref l) _ F1 (.own _) sd1 (R1.allocH hl) (S1.trans ⟨Same.refl _, fun x o e _ => same_new hl x o e, fun _ z => z, fun _ _ z => .inl z, fun x e => by
        by_cases z : x = l
        · subst z; exact hl
        · rw [upd_ne z] at e; exact e⟩) ⟨l, _, rfl, upd_same, R1.free hl, R1.still l hl, r1⟩ (fun _ w ew ow => by
          cases ew
          obtain ⟨i, o1, o2⟩ := ow
          have hi := R1.slot i
          generalize hs : sget sd1 i = s at hi o1
          cases s with
          | own es => obtain ⟨p2, vs2, a1, a2, _⟩ := hi; rw [o2] at a1; cases a1; rw [hl] at a2; cases a2
          | ins c fs => obtain ⟨p2, _, _, _, a1, a2, _⟩ := hi; rw [o2] at a1; cases a1; rw [hl] at a2; cases a2
          | well m => obtain ⟨p2, _, _, _, a1, a2, _⟩ := hi; rw [o2] at a1; cases a1; rw [hl] at a2; cases a2
          | _ => cases o1) (fun _ w ew => by
          cases ew
          exact S1.st l hl) q⟩
  | tuple xs =>
    cases hd
    cases rv with
    | tup h1 r1 => exact ⟨_, _, rfl, .inr (same_t R1.ext h1), fun l hl => k (.ref l) _ F1 (.own _) sd1 (R1.allocH hl) (S1.trans ⟨Same.refl _, fun x o e _ => same_new hl x o e, fun _ z => z, fun _ _ z => .inl z, fun x e => by
        by_cases z : x = l
        · subst z; exact hl
        · rw [upd_ne z] at e; exact e⟩) ⟨l, _, rfl, upd_same, R1.free hl, R1.still l hl, r1⟩ (fun _ w ew ow => by
          cases ew
          obtain ⟨i, o1, o2⟩ := ow
          have hi := R1.slot i
          generalize hs : sget sd1 i = s at hi o1
          cases s with
          | own es => obtain ⟨p2, vs2, a1, a2, _⟩ := hi; rw [o2] at a1; cases a1; rw [hl] at a2; cases a2
          | ins c fs => obtain ⟨p2, _, _, _, a1, a2, _⟩ := hi; rw [o2] at a1; cases a1; rw [hl] at a2; cases a2
          | well m => obtain ⟨p2, _, _, _, a1, a2, _⟩ := hi; rw [o2] at a1; cases a1; rw [hl] at a2; cases a2
          | _ => cases o1) (fun _ w ew => by
          cases ew
          exact S1.st l hl) q⟩
  | _ => cases hd)
end
end DL
namespace DL
open PySem PySem.Spec PyProof.Rows L2
def bLcm : List PyData → Option PyData
  | [.int i, .int j] => if i.natAbs.log2 < 13000 ∧ j.natAbs.log2 < 13000 then some (.int ((Nat.lcm i.natAbs j.natAbs : Nat) : Int)) else none
  | _ => none
def ints? : List PyData → Option (List Int)
  | [] => some []
  | .int i :: r => (ints? r).map (i :: ·)
  | _ :: _ => none
def bSum : List PyData → Option PyData
  | [.list xs] => (ints? xs).map fun ns => .int ns.sum
  | [.tuple xs] => (ints? xs).map fun ns => .int ns.sum
  | _ => none
section
variable {K : PySem.W.Frag} {X : Cx} {C : Ct}
def rLcm : List V → Hp → VK → Prop := fun vs H Q => ∃ a b : Int, vs = [.int a, .int b] ∧ (a.natAbs.log2 < 13000 ∧ b.natAbs.log2 < 13000) ∧ Q (.int ((Nat.lcm a.natAbs b.natAbs : Nat) : Int)) H
theorem max_log {a b k : Nat} (ha : a.log2 < k) (hb : b.log2 < k) : (max a b).log2 < k := by
  rcases Nat.le_total a b with h | h
  · rw [Nat.max_eq_right h]; exact hb
  · rw [Nat.max_eq_left h]; exact ha
theorem cr_lcm : CallR X (.builtin "math.lcm") rLcm := by
  intro pins s σ H vs us Q I r h
  obtain ⟨a, b, rfl, ⟨l1, l2⟩, q⟩ := h
  obtain ⟨t, u, rfl⟩ := Vals.int2 r
  have h1 : (max 1 a.natAbs).log2 < 13000 := max_log (by decide) l1
  have h2 : (max a.natAbs b.natAbs).log2 < 13000 := max_log l1 l2
  have e : ((Nat.lcm 1 a.natAbs).lcm b.natAbs) = Nat.lcm a.natAbs b.natAbs := by rw [Nat.lcm_one_left]
  have hsz : ((((Nat.lcm 1 a.natAbs).lcm b.natAbs : Nat) : Int)).natAbs.log2 < bitsLine := by
    rw [e]
    have pa : a.natAbs < 2 ^ 13000 := by
      by_cases z : a.natAbs = 0
      · rw [z]; exact Nat.two_pow_pos _
      · exact (Nat.log2_lt z).mp l1
    have pb : b.natAbs < 2 ^ 13000 := by
      by_cases z : b.natAbs = 0
      · rw [z]; exact Nat.two_pow_pos _
      · exact (Nat.log2_lt z).mp l2
    by_cases z : (((Nat.lcm a.natAbs b.natAbs : Nat) : Int)).natAbs = 0
    · rw [z, Nat.log2_zero]; decide
    · refine (Nat.log2_lt z).mpr ?_
      rw [Int.natAbs_natCast]
      have le : Nat.lcm a.natAbs b.natAbs ≤ a.natAbs * b.natAbs := Nat.div_le_self _ _
      have lt : a.natAbs * b.natAbs < 2 ^ 13000 * 2 ^ 13000 := Nat.mul_lt_mul_of_lt_of_lt pa pb
      rw [← Nat.pow_add] at lt
      exact Nat.lt_of_lt_of_le (Nat.lt_of_le_of_lt le lt) (Nat.pow_le_pow_right (by decide) (by decide))
  refine call_function_meets PySem.W.MGF.kind_lcm PySem.W.MGF.plain_lcm PySem.W.MGF.entry_lcm (PySem.W.MGF.args_lcm _ _) (PySem.W.mg_run_lcm a t b u (by omega) (by omega) hsz).meets ?_
  rw [e]
  exact ⟨.int _, H, I.tok _, ⟨_, rfl⟩, q⟩
theorem rc_lcm : RLC K rLcm bLcm := by
  intro F H xs as z Q e _ rx h k
  unfold bLcm at h
  split at h
  · obtain ⟨x, y, rfl, r1, r2⟩ := rpA2 rx
    split at h
    · rename_i hl
      cases h
      cases r1; cases r2
      exact ⟨_, _, rfl, hl, k _ F H .id (.int _)⟩
    · cases h
  · cases h
theorem pd_lcm {x : Str} {p pos : Pos} {e : Expr} {es : List Expr} {ma : MA} (hm : X.mg x = some (.builtin "math.lcm")) (ha : PA X (e :: es) (tDA X.K C ma)) (hg : Gl X x := by rfl) (hdb : (x == ("__debug__" : Str)) = false := by decide)
    (he : starEach (e :: es) X.env = (false, eval e X.env) :: starEach es X.env := by rfl) (hpl : (backTo pos (starEach es X.env)).any (·.1) = false := by rfl) : PE X (.Call (.Name x p) (e :: es) [] pos) (tD X.K C (mCallB bLcm ma)) :=
  pe_imp (pe_callBfun cr_lcm hg hm ha hdb he hpl) (td_cb rc_lcm)
def rSum2 (K : PySem.W.Frag) : List V → Hp → VK → Prop := fun vs H Q => ∃ (a : Addr) (ns : List Int), vs = [V.ref a] ∧ (SqL K H a (ns.map V.int) ∨ SqT K H a (ns.map V.int)) ∧ Q (.int ns.sum) H
theorem cr_sum2 (hc : X.calm = true) : CallR X (.builtin "sum") (rSum2 X.K) := by
  intro pins s σ H vs us Q I r h
  obtain ⟨a, ns, rfl, hs, q⟩ := h
  rcases hs with hs | hs
  · exact cr_sum hc pins s σ H _ us Q I r ⟨a, ns, rfl, hs, q⟩
  · obtain ⟨its, rv, hl, _⟩ := I.tuple hs
    rw [Vals.ref1 r]
    have hi := rv.ints
    obtain ⟨xs, e⟩ := hi.allInts.items
    have hn : numsOf (intItems xs).toList = ns := by rw [← e]; exact hi.numsOf
    rw [nums_intItems] at hn
    rw [e] at hl
    refine PySem.W.ktm_sumG (I.ok.hd hc) hl fun h' tk t' hk => ?_
    rw [preSum_eq, List.take_of_length_le (by simp), hn]
    exact ⟨.int _, H, I.kept hk, ⟨_, rfl⟩, q⟩
theorem ints_rp {F : Hp} : ∀ {ds : List PyData} {vs : List V} {ns : List Int}, RpA K F vs ds → ints? ds = some ns → vs = ns.map V.int
  | [], _, _, .nil, h => by cases h; rfl
  | .int i :: r, _, _, .cons h1 h2, h => by
    unfold ints? at h
    obtain ⟨ms, e, rfl⟩ := Option.map_eq_some_iff.mp h
    cases h1
    rw [ints_rp h2 e]
    rfl
theorem rc_sum : RLC K (rSum2 K) bSum := by
  intro F H xs as z Q e _ rx h k
  unfold bSum at h
  split at h
  · obtain ⟨x, rfl, r⟩ := rpA1 rx
    obtain ⟨ns, en, rfl⟩ := Option.map_eq_some_iff.mp h
    cases r with
    | lst h1 r1 =>
      rw [ints_rp r1 en] at h1
      exact ⟨_, ns, rfl, .inl (.inl (.inl (e _ _ h1))), k _ F H .id (.int _)⟩
  · obtain ⟨x, rfl, r⟩ := rpA1 rx
    obtain ⟨ns, en, rfl⟩ := Option.map_eq_some_iff.mp h
    cases r with
    | tup h1 r1 =>
      rw [ints_rp r1 en] at h1
      exact ⟨_, ns, rfl, .inr (same_t e h1), k _ F H .id (.int _)⟩
  · cases h
end
end DL
namespace DL
open PySem PySem.Spec PyProof.Rows L2
section
variable {K : PySem.W.Frag} {X : Cx} {C : Ct}
theorem walk_rev {a : Addr} {xs : List V} : Walk (Itv K a xs.length) xs.length (fun H => SqL K H a xs) (YAt xs.reverse) := by
  refine ⟨fun i H hi q => ⟨hi, xs, xs[xs.length - 1 - i]'(by omega), q, by simp [show xs.length - 1 - i < xs.length by omega]⟩, fun H _ => Nat.le_refl _, fun i H x H' hi q y => ?_⟩
  obtain ⟨rfl, y⟩ := y
  refine ⟨rfl, ?_⟩
  rw [List.getElem?_reverse hi]
  exact y xs q
theorem walk_revT {a : Addr} {xs : List V} : Walk (RT.ItvT K a xs.length) xs.length (fun H => SqT K H a xs) (YAt xs.reverse) := by
  refine ⟨fun i H hi q => ⟨hi, xs, xs[xs.length - 1 - i]'(by omega), q, by simp [show xs.length - 1 - i < xs.length by omega]⟩, fun H _ => Nat.le_refl _, fun i H x H' hi q y => ?_⟩
  obtain ⟨rfl, y⟩ := y
  refine ⟨rfl, ?_⟩
  rw [List.getElem?_reverse hi]
  exact y xs q
theorem wk_revs {J : It} {F : Hp} {xs : List V} {ds : List PyData} {G : Hp → Prop} (hG : ∀ H, Same F H → G H) (w : Walk J xs.length G (YAt xs.reverse)) (r : RpA K F xs ds) : Wk K J F ds.reverse := by
  have l := r.length
  refine ⟨G, YAt xs.reverse, by rw [List.length_reverse, ← l]; exact w, hG, fun i H x H' F' hi e1 e2 y => ?_⟩
  obtain ⟨rfl, y⟩ := y
  rw [List.length_reverse] at hi
  rw [List.getElem?_reverse (by omega)] at y
  obtain ⟨d, hd, q⟩ := rpA_at r y
  refine ⟨F', d, .id, ?_, q.mono e1⟩
  rw [List.getElem?_reverse hi, ← l]
  exact hd
theorem pdi_rev {tg e : Expr} {p pos : Pos} {m : ME} (hm : X.mg "reversed" = none) (h : PE X e (tD X.K C m)) (hg : Gl X "reversed" := by rfl) (hs : starEach [e] X.env = (false, eval e X.env) :: starEach [] X.env := by rfl) :
    PI X tg (.Call (.Name "reversed" p) [e] [] pos) (tDI X.K C (miRev m)) := pi_imp (RT.pi_revA hg hm h hs) (by
  rintro σ H R0 ⟨F, sd, Qd, R, h, k⟩
  refine ⟨F, sd, _, R, h, fun x H1 F1 a sd1 R1 S1 rx h1 => ?_⟩
  obtain ⟨ds, hd, q⟩ := h1
  cases rx with
  | tup h2 r2 => cases hd; exact ⟨_, _, rfl, .inr ⟨same_t R1.ext h2, k _ H1 F1 _ sd1 R1 S1 (wk_revs (fun H e => same_t e h2) walk_revT r2) q⟩⟩
  | lst h2 r2 => cases hd; exact ⟨_, _, rfl, .inl ⟨.inl (.inl (R1.ext _ _ h2)), k _ H1 F1 _ sd1 R1 S1 (wk_revs (fun H e => .inl (.inl (e _ _ h2))) walk_rev r2) q⟩⟩
  | _ => cases hd)
end
end DL
namespace DL
open PySem PySem.Spec PyProof.Rows L2
/-- the least, or None -/
def bMinD : List PyData → List PyData → Option PyData
  | [.list xs], [.none] => match ints? xs with
    | some [] => some .none
    | some (n :: ns) => some (.int (ns.foldl min n))
    | none => none
  | _, _ => none
def mCallBK (f : List PyData → List PyData → Option PyData) (ma mk : MA) : ME := fun sd Q => ma sd fun ds s1 => mk s1 fun es s2 => ∃ r, f ds es = some r ∧ Q r s2
section
variable {K : PySem.W.Frag} {X : Cx} {C : Ct}
theorem alike_ints (ns : List Int) : PySem.W.AlikeAll (ns.map .int) := by
  have h := PySem.W.alikeAll_datum (α := Int) ns
  exact h
theorem depth_ints : ∀ ns : List Int, PyData.depthAll (ns.map .int) ≤ 1
  | [] => by decide
  | n :: ns => by
    have := depth_ints ns
    simp only [List.map_cons, PyData.depthAll, PyData.depth]
    omega
def rMinD (K : PySem.W.Frag) : List V → List V → Hp → VK → Prop := fun vs zs H Q => ∃ (a : Addr) (ns : List Int), vs = [V.ref a] ∧ zs = [V.non] ∧ SqL K H a (ns.map V.int) ∧ match ns with
  | [] => Q .non H
  | n :: r => Q (.int (r.foldl min n)) H
theorem cr_minD (hc : X.calm = true) (hu : X.A.units + 64 < cLine) : CallRK X (.builtin "min") [Str.ofString "default"] (rMinD X.K) := by
  intro pins s σ H vs zs us ws Q I r rz h
  obtain ⟨a, ns, rfl, rfl, hs, q⟩ := h
  obtain ⟨its, rv, hl, _⟩ := I.list hs
  rw [Vals.ref1 r]
  obtain ⟨w1, rfl, e1⟩ := vals1 rz
  obtain rfl : w1 = Value.none := e1
  have hi := rv.ints
  have hd := depth_ints ns
  refine PySem.W.min_list_default (I.ok.hd hc) hl.isList (IntsAre.reads s.heap hi) (alike_ints ns) (by omega) (fun e h' tk hk => ?_) fun y ys i v h' tk bs e hv hr hk => ?_
  · cases ns with
    | nil => exact ⟨.non, H, I.kept hk, rfl, q⟩
    | cons n r => cases e
  · cases ns with
    | nil => cases e
    | cons n r =>
      rw [List.map_cons] at e
      injection e with e1 e2
      subst e1 e2
      rw [PySem.W.minD_ints] at hr
      cases hr
      exact ⟨.int _, H, I.kept hk, ⟨_, rfl⟩, q⟩
theorem td_cbK {r : List V → List V → Hp → VK → Prop} {f : List PyData → List PyData → Option PyData} {ma mk : MA} (L : ∀ (F H : Hp) (xs zs : List V) (as bs : List PyData) (z : PyData) (Q : VK), Same F H → RpA K F xs as → RpA K F zs bs → f as bs = some z → (∀ v, Rp K F v z → Q v H) → r xs zs H Q) : ∀ σ H Q, tD K C (mCallBK f ma mk) σ H Q → tCKw r (tDA K C ma) (tDA K C mk) σ H Q := by
  rintro σ H Q ⟨F, sd, Qd, R, h, k⟩
  refine ⟨F, sd, _, R, h, fun xs H1 F1 as sd1 R1 S1 rx h1 => ?_⟩
  refine ⟨F1, sd1, _, R1, h1, fun zs H2 F2 bs sd2 R2 S2 rz h2 => ?_⟩
  obtain ⟨z, e, q⟩ := h2
  exact L F2 H2 xs zs as bs z Q R2.ext (RpA.mono S2.fr rx) rz e fun v rv => k v H2 F2 z sd2 R2 (S1.trans S2) rv q
theorem rc_minD : ∀ (F H : Hp) (xs zs : List V) (as bs : List PyData) (z : PyData) (Q : VK), Same F H → RpA K F xs as → RpA K F zs bs → bMinD as bs = some z → (∀ v, Rp K F v z → Q v H) → rMinD K xs zs H Q := by
  intro F H xs zs as bs z Q e rx rz h k
  unfold bMinD at h
  split at h
  · obtain ⟨x, rfl, r⟩ := rpA1 rx
    obtain ⟨y, rfl, r'⟩ := rpA1 rz
    cases r'
    cases r with
    | lst h1 r1 =>
      split at h
      · rename_i hn
        cases h
        rw [ints_rp r1 hn] at h1
        exact ⟨_, [], rfl, rfl, .inl (.inl (e _ _ h1)), k _ .non⟩
      · rename_i n ns hn
        cases h
        rw [ints_rp r1 hn] at h1
        exact ⟨_, n :: ns, rfl, rfl, .inl (.inl (e _ _ h1)), k _ (.int _)⟩
      · cases h
  · cases h
theorem pd_minD {p pos : Pos} {e : Expr} {kws : List Keyword} {ma mk : MA} (hc : X.calm = true) (hu : X.A.units + 64 < cLine) (hm : X.mg "min" = none) (ha : PA X [e] (tDA X.K C ma)) (hk : PK X kws (tDA X.K C mk)) (hg : Gl X "min" := by rfl)
    (he : backTo pos (starEach [e] X.env) = (false, eval e X.env) :: backTo pos (starEach [] X.env) := by rfl) (hpl : (backTo pos (starEach [e] X.env)).any (·.1) = false := by rfl)
    (hall : (backToKw pos (keywordEach kws X.env)).all (·.1.isSome) = true := by rfl) (hnone : (backToKw pos (keywordEach kws X.env)).any (·.1.isNone) = false := by rfl) (hks : (backToKw pos (keywordEach kws X.env)).filterMap (·.1) = [Str.ofString "default"] := by rfl) :
    PE X (.Call (.Name "min" p) [e] kws pos) (tD X.K C (mCallBK bMinD ma mk)) :=
  pe_imp (pe_callBK (cr_minD hc hu) hg hm PyProof.Rows.boot_min ha hk (by decide) (by decide) he hpl hall hnone hks) (td_cbK rc_minD)
end
end DL
namespace DL
/-- at k a whole number lies from (g k + b) / c to (G k + B) / C -/
def Btw (g b c G B C k : Int) : Prop := 0 ≤ k ∧ ∃ j, g * k + b ≤ c * j ∧ C * j ≤ G * k + B
def Least (P : Int → Prop) : Option Int → Prop
  | some k => P k ∧ ∀ k', P k' → k ≤ k'
  | none => ∀ k, ¬ P k
theorem least_unique {P : Int → Prop} : ∀ {o o' : Option Int}, Least P o → Least P o' → o = o'
  | none, none, _, _ => rfl
  | some k, none, h, h' => absurd h.1 (h' k)
  | none, some k, h, h' => absurd h'.1 (h k)
  | some k, some k', h, h' => by
    have := h.2 _ h'.1
    have := h'.2 _ h.1
    rw [show k = k' by omega]
theorem least_iff {P P' : Int → Prop} (h : ∀ k, P k ↔ P' k) {o : Option Int} : Least P o → Least P' o := by
  cases o with
  | none => exact fun z k hk => z k ((h k).mpr hk)
  | some k => exact fun z => ⟨(h k).mp z.1, fun k' hk => z.2 k' ((h k').mpr hk)⟩
theorem pos_fac {c x : Int} (hc : 0 < c) (h : 0 < c * x) : 0 < x := by
  refine Classical.byContradiction fun z => ?_
  have := Int.mul_le_mul_of_nonneg_left (show x ≤ 0 by omega) (show 0 ≤ c by omega)
  omega
theorem ceil_spec {b c : Int} (h : 1 ≤ c) : b ≤ c * -(-b / c) ∧ c * -(-b / c) < b + c := by
  have e := Int.emod_add_mul_ediv (-b) c
  have e1 := Int.emod_nonneg (-b) (show c ≠ 0 by omega)
  have e2 := Int.emod_lt_of_pos (-b) (show 0 < c by omega)
  rw [Int.mul_neg]
  omega
theorem ceil_le {b c j : Int} (h : 1 ≤ c) : -(-b / c) ≤ j ↔ b ≤ c * j := by
  obtain ⟨h1, h2⟩ := ceil_spec (b := b) h
  constructor
  · intro z
    have := Int.mul_le_mul_of_nonneg_left z (show 0 ≤ c by omega)
    omega
  · intro z
    refine Classical.byContradiction fun w => ?_
    have := Int.mul_le_mul_of_nonneg_left (show j + 1 ≤ -(-b / c) by omega) (show 0 ≤ c by omega)
    rw [Int.mul_add] at this
    omega
section
variable {g b c G B C : Int}
/-- what the lines keep: no steeper below than above, and if less steep, below at 0 -/
structure Inv (g b c G B C : Int) : Prop where
  c1 : 1 ≤ c
  C1 : 1 ≤ C
  sl : g * C ≤ G * c
  st : g * C < G * c → b * C ≤ B * c
theorem btw_none (I : Inv g b c G B C) (h : ¬ b * C ≤ B * c) : Least (Btw g b c G B C) none := by
  rintro k ⟨k0, j, h1, h2⟩
  have e : g * C = G * c := by
    have := I.sl
    have := I.st
    by_cases z : g * C < G * c
    · exact absurd (I.st z) h
    · omega
  have m1 := Int.mul_le_mul_of_nonneg_right h1 (show 0 ≤ C by have := I.C1; omega)
  have m2 := Int.mul_le_mul_of_nonneg_right h2 (show 0 ≤ c by have := I.c1; omega)
  rw [Int.add_mul] at m1 m2
  have e1 : g * k * C = k * (g * C) := by simp only [Int.mul_assoc, Int.mul_comm, Int.mul_left_comm]
  have e2 : G * k * c = k * (G * c) := by simp only [Int.mul_assoc, Int.mul_comm, Int.mul_left_comm]
  have e3 : c * j * C = C * j * c := by simp only [Int.mul_assoc, Int.mul_comm, Int.mul_left_comm]
  rw [e] at e1
  omega
theorem btw_zero (I : Inv g b c G B C) (h : C * -(-b / c) ≤ B) : Least (Btw g b c G B C) (some 0) := by
  refine ⟨⟨Int.le_refl 0, -(-b / c), ?_, ?_⟩, fun k' z => z.1⟩
  · have := (ceil_spec (b := b) I.c1).1
    omega
  · omega
/-- moved by l whole numbers -/
theorem btw_move (l k : Int) : Btw g (b - l * c) c G (B - l * C) C k ↔ Btw g b c G B C k := by
  have e1 : ∀ j, c * (j + l) = c * j + l * c := fun j => by rw [Int.mul_add, Int.mul_comm l c]
  have e2 : ∀ j, C * (j + l) = C * j + l * C := fun j => by rw [Int.mul_add, Int.mul_comm l C]
  constructor
  · rintro ⟨k0, j, h1, h2⟩
    refine ⟨k0, j + l, ?_, ?_⟩
    · rw [e1]; omega
    · rw [e2]; omega
  · rintro ⟨k0, j, h1, h2⟩
    have a1 := e1 (j - l)
    have a2 := e2 (j - l)
    rw [show j - l + l = j by omega] at a1 a2
    exact ⟨k0, j - l, by omega, by omega⟩
/-- both slopes less by r -/
theorem btw_tilt (r k : Int) : Btw (g - r * c) b c (G - r * C) B C k ↔ Btw g b c G B C k := by
  have e1 : ∀ j, c * (j + r * k) = c * j + r * c * k := fun j => by rw [Int.mul_add]; simp only [Int.mul_assoc, Int.mul_comm, Int.mul_left_comm]
  have e2 : ∀ j, C * (j + r * k) = C * j + r * C * k := fun j => by rw [Int.mul_add]; simp only [Int.mul_assoc, Int.mul_comm, Int.mul_left_comm]
  unfold Btw
  rw [Int.sub_mul, Int.sub_mul]
  constructor
  · rintro ⟨k0, j, h1, h2⟩
    refine ⟨k0, j + r * k, ?_, ?_⟩
    · rw [e1]; omega
    · rw [e2]; omega
  · rintro ⟨k0, j, h1, h2⟩
    have a1 := e1 (j - r * k)
    have a2 := e2 (j - r * k)
    rw [show j - r * k + r * k = j by omega] at a1 a2
    exact ⟨k0, j - r * k, by omega, by omega⟩
/-- what _first_out finds: the line below falls to -1, or the line above rises to 0 -/
def outs (g b c G B : Int) : List Int := (if g < 0 then [-(-(b + c) / -g)] else []) ++ (if G > 0 then [-(B / G)] else [])
def minO : List Int → Option Int
  | [] => none
  | a :: l => match minO l with
    | none => some a
    | some m => some (if m < a then m else a)
theorem btw_out (c1 : 1 ≤ c) (C1 : 1 ≤ C) (b0 : b ≤ 0) (b1 : -c < b) (B0 : B < 0) (st : b * C ≤ B * c) (g0 : g ≤ 0) (G0 : 0 ≤ G) : Least (Btw g b c G B C) (minO (outs g b c G B)) := by
  have BC : -C < B := by
    refine Classical.byContradiction fun z => ?_
    have m1 := Int.mul_le_mul_of_nonneg_right (show B ≤ -C by omega) (show 0 ≤ c by omega)
    have m2 := Int.mul_le_mul_of_nonneg_right (show -c + 1 ≤ b by omega) (show 0 ≤ C by omega)
    rw [Int.add_mul, Int.neg_mul, Int.one_mul] at m2
    rw [Int.neg_mul, Int.mul_comm C c] at m1
    omega
  have low : ∀ k, Btw g b c G B C k → (g < 0 ∧ -(-(b + c) / -g) ≤ k) ∨ (G > 0 ∧ -(B / G) ≤ k) := by
    rintro k ⟨k0, j, h1, h2⟩
    by_cases z : j ≤ -1
    · left
      have m := Int.mul_le_mul_of_nonneg_left z (show 0 ≤ c by omega)
      have hg : g < 0 := by
        by_cases w : g = 0
        · rw [w, Int.zero_mul] at h1
          omega
        · omega
      refine ⟨hg, (ceil_le (by omega)).mpr ?_⟩
      rw [Int.neg_mul]
      omega
    · right
      have m := Int.mul_nonneg (show 0 ≤ C by omega) (show 0 ≤ j by omega)
      have hG : G > 0 := by
        by_cases w : G = 0
        · rw [w, Int.zero_mul] at h2
          omega
        · omega
      refine ⟨hG, ?_⟩
      have := (ceil_le (b := -B) (j := k) (show 1 ≤ G by omega)).mpr (by omega)
      rw [Int.neg_neg] at this
      exact this
  have up1 : g < 0 → Btw g b c G B C (-(-(b + c) / -g)) := by
    intro hg
    obtain ⟨h1, h2⟩ := ceil_spec (b := b + c) (c := -g) (by omega)
    generalize -(-(b + c) / -g) = k at *
    have k0 : 0 ≤ k := by
      refine Classical.byContradiction fun z => ?_
      have := Int.mul_le_mul_of_nonneg_left (show k ≤ 0 by omega) (show 0 ≤ -g by omega)
      omega
    refine ⟨k0, -1, ?_, ?_⟩
    · rw [Int.neg_mul] at h1
      omega
    · have := Int.mul_nonneg G0 k0
      omega
  have up2 : G > 0 → Btw g b c G B C (-(B / G)) := by
    intro hG
    obtain ⟨h1, h2⟩ := ceil_spec (b := -B) (c := G) (by omega)
    rw [Int.neg_neg] at h1 h2
    generalize -(B / G) = k at *
    have k0 : 0 ≤ k := by
      refine Classical.byContradiction fun z => ?_
      have := Int.mul_le_mul_of_nonneg_left (show k ≤ 0 by omega) (show 0 ≤ G by omega)
      omega
    refine ⟨k0, 0, ?_, ?_⟩
    · have := Int.mul_le_mul_of_nonneg_right g0 k0
      omega
    · omega
  unfold outs
  by_cases hg : g < 0
  · by_cases hG : G > 0
    · rw [if_pos hg, if_pos hG]
      show Least _ (some (if -(B / G) < -(-(b + c) / -g) then -(B / G) else -(-(b + c) / -g)))
      split
      · rename_i h
        refine ⟨up2 hG, fun k' z => ?_⟩
        rcases low k' z with ⟨-, l⟩ | ⟨-, l⟩ <;> omega
      · rename_i h
        refine ⟨up1 hg, fun k' z => ?_⟩
        rcases low k' z with ⟨-, l⟩ | ⟨-, l⟩ <;> omega
    · rw [if_pos hg, if_neg hG]
      refine ⟨up1 hg, fun k' z => ?_⟩
      rcases low k' z with ⟨-, l⟩ | ⟨h, -⟩
      · exact l
      · exact absurd h hG
  · by_cases hG : G > 0
    · rw [if_neg hg, if_pos hG]
      refine ⟨up2 hG, fun k' z => ?_⟩
      rcases low k' z with ⟨h, -⟩ | ⟨-, l⟩
      · exact absurd h hg
      · exact l
    · rw [if_neg hg, if_neg hG]
      intro k z
      rcases low k z with ⟨h, -⟩ | ⟨h, -⟩
      · exact hg h
      · exact hG h
/-- lines and whole numbers exchanged -/
theorem btw_turn (b1 : -c < b) (B0 : B < 0) (c1 : 1 ≤ c) (C1 : 1 ≤ C) (g0 : 0 < g) (G0 : 0 < G) {o : Option Int} (h : Least (Btw C (-B) G c (-b) g) o) : Least (Btw g b c G B C) (o.map fun j => -(-(C * j + -B) / G)) := by
  have to : ∀ k j, 0 ≤ k → g * k + b ≤ c * j → C * j ≤ G * k + B → Btw C (-B) G c (-b) g j := by
    intro k j k0 h1 h2
    refine ⟨?_, k, by omega, by omega⟩
    refine Classical.byContradiction fun z => ?_
    have m1 := Int.mul_nonneg (show 0 ≤ g by omega) k0
    have m2 := Int.mul_le_mul_of_nonneg_left (show j ≤ -1 by omega) (show 0 ≤ c by omega)
    omega
  cases o with
  | none =>
    rintro k ⟨k0, j, h1, h2⟩
    exact h j (to k j k0 h1 h2)
  | some j =>
    obtain ⟨⟨j0, k0, h1, h2⟩, h3⟩ := h
    show Least _ (some (-(-(C * j + -B) / G)))
    have l := (ceil_le (b := C * j + -B) (c := G) (j := k0) (by omega)).mpr h1
    obtain ⟨s1, s2⟩ := ceil_spec (b := C * j + -B) (c := G) (by omega)
    have least : ∀ k', Btw g b c G B C k' → -(-(C * j + -B) / G) ≤ k' := by
      rintro k' ⟨k0', j', h1', h2'⟩
      have jj := h3 j' (to k' j' k0' h1' h2')
      refine (ceil_le (by omega)).mpr ?_
      have := Int.mul_le_mul_of_nonneg_left jj (show 0 ≤ C by omega)
      omega
    refine ⟨?_, least⟩
    generalize -(-(C * j + -B) / G) = k at *
    have mj := Int.mul_nonneg (show 0 ≤ C by omega) j0
    refine ⟨?_, j, ?_, by omega⟩
    · refine Classical.byContradiction fun z => ?_
      have := Int.mul_le_mul_of_nonneg_left (show k ≤ 0 by omega) (show 0 ≤ G by omega)
      omega
    · have := Int.mul_le_mul_of_nonneg_left l (show 0 ≤ g by omega)
      omega
/-- the lines behind the move: from -1 to 0 at 0 -/
theorem move_facts (I : Inv g b c G B C) (h0 : b * C ≤ B * c) (h : ¬ C * -(-b / c) ≤ B) {l : Int} (hl : l = -(-b / c)) : -c < b - l * c ∧ b - l * c < 0 ∧ B - l * C < 0 ∧ (b - l * c) * C ≤ (B - l * C) * c := by
  obtain ⟨h1, h2⟩ := ceil_spec (b := b) I.c1
  rw [← hl] at h h1 h2
  have c1 := I.c1
  have C1 := I.C1
  have e1 : l * c = c * l := Int.mul_comm _ _
  have e2 : l * C = C * l := Int.mul_comm _ _
  have st : (b - l * c) * C ≤ (B - l * C) * c := by
    rw [Int.sub_mul, Int.sub_mul]
    have : l * c * C = l * C * c := by simp only [Int.mul_assoc, Int.mul_comm, Int.mul_left_comm]
    omega
  refine ⟨by omega, ?_, by omega, st⟩
  refine Classical.byContradiction fun z => ?_
  have m1 := Int.mul_nonneg (show 0 ≤ b - l * c by omega) (show 0 ≤ C by omega)
  have m2 := Int.mul_lt_mul_of_pos_right (show B - l * C < 0 by omega) (show 0 < c by omega)
  omega
/-- the next pair of lines -/
theorem turn_facts (c1 : 1 ≤ c) (C1 : 1 ≤ C) (sl : g * C ≤ G * c) (b0 : b < 0) (st : b * C ≤ B * c) (h : ¬ C * -(-g / c) ≤ G) {q : Int} (hq : q = g / c) : 0 < g % c ∧ g % c < c ∧ 0 < G - q * C ∧ G - q * C < C ∧ g % c = g - q * c ∧ Inv C (-B) (G - q * C) c (-b) (g % c) := by
  obtain ⟨h1, h2⟩ := ceil_spec (b := g) c1
  have e := Int.emod_add_mul_ediv g c
  have e1 := Int.emod_nonneg g (show c ≠ 0 by omega)
  have e2 := Int.emod_lt_of_pos g (show 0 < c by omega)
  rw [← hq] at e
  have em : g % c = g - q * c := by rw [Int.mul_comm q c]; omega
  have sl' : g % c * C ≤ (G - q * C) * c := by
    rw [em, Int.sub_mul, Int.sub_mul]
    have : q * c * C = q * C * c := by simp only [Int.mul_assoc, Int.mul_comm, Int.mul_left_comm]
    omega
  generalize hr : -(-g / c) = r at *
  have g0 : 0 < g % c := by
    refine Classical.byContradiction fun z => ?_
    have z0 : g % c = 0 := by omega
    have rq : r = q := by
      have a1 : c * q ≤ c * r := by omega
      have a2 : c * r < c * (q + 1) := by rw [Int.mul_add]; omega
      have b1 := Int.le_of_mul_le_mul_left a1 (by omega)
      have b2 := Int.lt_of_mul_lt_mul_left a2 (by omega)
      omega
    rw [z0, Int.zero_mul] at sl'
    rw [rq, Int.mul_comm] at h
    have := Int.mul_lt_mul_of_pos_right (show G - q * C < 0 by omega) (show 0 < c by omega)
    omega
  have rq : r = q + 1 := by
    have a1 : c * q < c * r := by omega
    have a2 : c * r < c * (q + 2) := by rw [Int.mul_add]; omega
    have b1 := Int.lt_of_mul_lt_mul_left a1 (by omega)
    have b2 := Int.lt_of_mul_lt_mul_left a2 (by omega)
    omega
  have G0 : 0 < G - q * C := by
    refine pos_fac (c := c) (by omega) ?_
    rw [Int.mul_comm]
    have := Int.mul_pos g0 (show 0 < C by omega)
    omega
  have GC : G - q * C < C := by
    rw [rq, Int.mul_add, Int.mul_comm C q] at h
    omega
  refine ⟨g0, e2, G0, GC, em, ⟨by omega, by omega, ?_, fun _ => ?_⟩⟩
  · rw [Int.mul_comm C, Int.mul_comm c]
    exact sl'
  · generalize g % c = g' at *
    generalize G - q * C = G' at *
    refine Int.le_of_mul_le_mul_left (a := c) ?_ (by omega)
    have m1 := Int.mul_le_mul_of_nonneg_right st (show 0 ≤ g' by omega)
    have m2 := Int.mul_le_mul_of_nonneg_left sl' (show 0 ≤ -b by omega)
    have q1 : c * (-B * g') = -(B * c * g') := by rw [Int.neg_mul, Int.mul_neg]; congr 1; simp only [Int.mul_assoc, Int.mul_comm, Int.mul_left_comm]
    have q2 : c * (-b * G') = -b * (G' * c) := by simp only [Int.mul_assoc, Int.mul_comm, Int.mul_left_comm]
    have q3 : -b * (g' * C) = -(b * C * g') := by rw [Int.neg_mul]; congr 1; simp only [Int.mul_assoc, Int.mul_comm, Int.mul_left_comm]
    omega
theorem out_bound (c1 : 1 ≤ c) (C1 : 1 ≤ C) (b0 : b < 0) (b1 : -c < b) (B0 : B < 0) (B1 : -C < B) {k : Int} (h : minO (outs g b c G B) = some k) : k ≤ 2 * (c * C) := by
  have cC : c ≤ c * C := by have := Int.mul_le_mul_of_nonneg_left C1 (show 0 ≤ c by omega); omega
  have Cc : C ≤ c * C := by have := Int.mul_le_mul_of_nonneg_right c1 (show 0 ≤ C by omega); omega
  have k1 : g < 0 → -(-(b + c) / -g) ≤ c := fun hg => (ceil_le (by omega)).mpr (by
    have := Int.mul_le_mul_of_nonneg_right (show 1 ≤ -g by omega) (show 0 ≤ c by omega)
    omega)
  have k2 : G > 0 → -(B / G) ≤ C := fun hG => by
    have := (ceil_le (b := -B) (j := C) (show 1 ≤ G by omega)).mpr (by
      have := Int.mul_le_mul_of_nonneg_right (show 1 ≤ G by omega) (show 0 ≤ C by omega)
      omega)
    rw [Int.neg_neg] at this
    exact this
  unfold outs at h
  by_cases hg : g < 0
  · by_cases hG : G > 0
    · rw [if_pos hg, if_pos hG] at h
      have h : some (if -(B / G) < -(-(b + c) / -g) then -(B / G) else -(-(b + c) / -g)) = some k := h
      have h := Option.some.inj h
      have := k1 hg
      have := k2 hG
      split at h <;> omega
    · rw [if_pos hg, if_neg hG] at h
      have h := Option.some.inj h
      have := k1 hg
      omega
  · by_cases hG : G > 0
    · rw [if_neg hg, if_pos hG] at h
      have h := Option.some.inj h
      have := k2 hG
      omega
    · rw [if_neg hg, if_neg hG] at h
      cases h
theorem turn_bound (c1 : 1 ≤ c) (C1 : 1 ≤ C) (gc : g < c) (g0 : 0 < g) (G0 : 0 < G) (B1 : -C < B) {j : Int} (h : j ≤ 2 * (G * g)) : -(-(C * j + -B) / G) ≤ 2 * (c * C) := by
  refine (ceil_le (by omega)).mpr ?_
  have m1 := Int.mul_le_mul_of_nonneg_left h (show 0 ≤ C by omega)
  have e1 : C * (2 * (G * g)) = G * (2 * (g * C)) := by simp only [Int.mul_assoc, Int.mul_comm, Int.mul_left_comm]
  have m2 : g * C + C ≤ c * C := by
    have := Int.mul_le_mul_of_nonneg_right (show g + 1 ≤ c by omega) (show 0 ≤ C by omega)
    rw [Int.add_mul] at this
    omega
  have m3 := Int.mul_le_mul_of_nonneg_left (show 2 * (g * C) + C ≤ 2 * (c * C) by omega) (show 0 ≤ G by omega)
  rw [Int.mul_add] at m3
  have m4 := Int.mul_le_mul_of_nonneg_right (show 1 ≤ G by omega) (show 0 ≤ C by omega)
  omega
/-- two lines -/
structure Two where
  g : Int
  b : Int
  c : Int
  G : Int
  B : Int
  C : Int
def Two.I (p : Two) : Prop := Inv p.g p.b p.c p.G p.B p.C
def Two.Ans (p : Two) (o : Option Int) : Prop := Least (Btw p.g p.b p.c p.G p.B p.C) o ∧ ∀ k, o = some k → k ≤ 2 * (p.c * p.C)
def Two.l (p : Two) : Int := -(-p.b / p.c)
/-- moved -/
def Two.mv (p : Two) : Two := ⟨p.g, p.b - p.l * p.c, p.c, p.G, p.B - p.l * p.C, p.C⟩
def Two.turn (p : Two) : Two := ⟨p.C, -(p.B - p.l * p.C), p.G - p.g / p.c * p.C, p.c, -(p.b - p.l * p.c), p.g % p.c⟩
def Two.back (p : Two) (j : Int) : Int := -(-(p.C * j + -(p.B - p.l * p.C)) / (p.G - p.g / p.c * p.C))
theorem Two.none (p : Two) (I : p.I) (h : ¬ p.b * p.C ≤ p.B * p.c) : p.Ans .none := ⟨btw_none I h, fun _ e => by cases e⟩
theorem Two.zero (p : Two) (I : p.I) (h : p.C * p.l ≤ p.B) : p.Ans (some 0) := ⟨btw_zero I h, fun k e => by
  cases e
  have := Int.mul_pos (show 0 < p.c by have := I.c1; omega) (show 0 < p.C by have := I.C1; omega)
  omega⟩
theorem Two.low (p : Two) (I : p.I) (h0 : p.b * p.C ≤ p.B * p.c) (h : ¬ p.C * p.l ≤ p.B) : -p.C < p.B - p.l * p.C := by
  obtain ⟨a1, a2, a3, a4⟩ := move_facts I h0 h rfl
  have c1 := I.c1
  have C1 := I.C1
  refine Classical.byContradiction fun z => ?_
  have m1 := Int.mul_le_mul_of_nonneg_right (show p.B - p.l * p.C ≤ -p.C from by omega) (show 0 ≤ p.c by omega)
  have m2 := Int.mul_lt_mul_of_pos_right a1 (show 0 < p.C by omega)
  have a4 : (p.b - p.l * p.c) * p.C ≤ (p.B - p.l * p.C) * p.c := a4
  rw [Int.neg_mul] at m1 m2
  have : p.C * p.c = p.c * p.C := Int.mul_comm _ _
  have m2 : -(p.c * p.C) < (p.b - p.l * p.c) * p.C := m2
  omega
theorem Two.out (p : Two) (I : p.I) (h0 : p.b * p.C ≤ p.B * p.c) (h : ¬ p.C * p.l ≤ p.B) (hr : p.C * -(-p.g / p.c) ≤ p.G) : p.Ans (minO (outs (p.g - -(-p.g / p.c) * p.c) (p.b - p.l * p.c) p.c (p.G - -(-p.g / p.c) * p.C) (p.B - p.l * p.C))) := by
  obtain ⟨a1, a2, a3, a4⟩ := move_facts I h0 h rfl
  obtain ⟨r1, r2⟩ := ceil_spec (b := p.g) I.c1
  have B1 := p.low I h0 h
  have e1 : -(-p.g / p.c) * p.c = p.c * -(-p.g / p.c) := Int.mul_comm _ _
  have e2 : -(-p.g / p.c) * p.C = p.C * -(-p.g / p.c) := Int.mul_comm _ _
  have L := btw_out (g := p.g - -(-p.g / p.c) * p.c) (G := p.G - -(-p.g / p.c) * p.C) I.c1 I.C1 (Int.le_of_lt a2) a1 a3 a4 (by omega) (by omega)
  exact ⟨least_iff (fun k => (btw_tilt _ k).trans (btw_move _ k)) L, fun k e => out_bound I.c1 I.C1 a2 a1 a3 B1 e⟩
/-- what a turn of the loop leaves -/
theorem Two.turns (p : Two) (I : p.I) (h0 : p.b * p.C ≤ p.B * p.c) (h : ¬ p.C * p.l ≤ p.B) (hr : ¬ p.C * -(-p.g / p.c) ≤ p.G) : p.turn.I ∧ 0 < p.turn.c ∧ p.turn.c < p.C ∧ 0 < p.turn.C ∧ p.turn.C < p.c ∧ (0 < p.turn.b ∧ p.turn.b < p.C) ∧ (0 < p.turn.B ∧ p.turn.B < p.c) ∧ ∀ o, p.turn.Ans o → p.Ans (o.map p.back) := by
  obtain ⟨a1, a2, a3, a4⟩ := move_facts I h0 h rfl
  have B1 := p.low I h0 h
  obtain ⟨t1, t2, t3, t4, t5, t6⟩ := turn_facts I.c1 I.C1 I.sl a2 a4 hr rfl
  have a1 : -p.c < p.b - p.l * p.c := a1
  have a2 : p.b - p.l * p.c < 0 := a2
  have a3 : p.B - p.l * p.C < 0 := a3
  refine ⟨t6, t3, t4, t1, t2, ⟨?_, ?_⟩, ⟨?_, ?_⟩, ?_⟩
  · show 0 < -(p.B - p.l * p.C); omega
  · show -(p.B - p.l * p.C) < p.C; omega
  · show 0 < -(p.b - p.l * p.c); omega
  · show -(p.b - p.l * p.c) < p.c; omega
  · rintro o ⟨A, bd⟩
    have L := btw_turn (g := p.g % p.c) (G := p.G - p.g / p.c * p.C) a1 a3 I.c1 I.C1 t1 t3 A
    rw [t5] at L
    refine ⟨least_iff (fun k => (btw_tilt _ k).trans (btw_move _ k)) L, fun k e => ?_⟩
    cases o with
    | none => cases e
    | some j =>
      cases e
      exact turn_bound I.c1 I.C1 t2 t1 t3 B1 (bd j rfl)
/-- the problems that the turns go through, the last one first, each with the line that was kept -/
inductive Chain (p0 : Two) : List Two → Two → Prop
  | nil : Chain p0 [] p0
  | cons {ps p} : Chain p0 ps p → (∀ o, p.turn.Ans o → p.Ans (o.map p.back)) → Chain p0 (p :: ps) p.turn
end
end DL
namespace DL
open PySem
theorem seq_step {a b : MS} {D : DE} {sd : DSt} (h : ∀ N : DSt → Prop, N = b D → a { D with nx := N } sd) : mSeq a b D sd := h _ rfl
end DL
namespace DL
open PySem PySem.Spec PyProof.Rows L2
/-- the value is these data, as it stands in the module -/
def cstOk (K : PySem.W.Frag) : Nat → Value → PyData → Bool
  | _ + 1, .none, .none => true
  | _ + 1, .bool b, .bool c => b == c
  | _ + 1, .int i _, .int j => i == j
  | _ + 1, .str x _, .str y => x == y
  | n + 1, .ref a, .tuple ds => match K.lookup a with
    | some o => (o.cls == .type "tuple" && o.dict.isNone) && (match o.data with
      | .seq its _ => its.size ≤ 100000 && (its.toList.length == ds.length && (its.toList.zip ds).all fun p => cstOk K n p.1 p.2)
      | _ => false)
    | none => false
  | _, _, _ => false
theorem cst_tup {K : PySem.W.Frag} {n : Nat} {a : Addr} {ds : List PyData} (h : cstOk K (n + 1) (.ref a) (.tuple ds) = true) : ∃ (o : Obj) (its : Array Value) (k : Nat), K.lookup a = some o ∧ o.cls = .type "tuple" ∧ o.dict = none ∧ o.data = .seq its k ∧ its.size ≤ 100000 ∧ its.toList.length = ds.length ∧ ((its.toList.zip ds).all fun p => cstOk K n p.1 p.2) = true := by
  unfold cstOk at h
  split at h
  · rename_i o ho
    rw [Bool.and_eq_true, Bool.and_eq_true] at h
    obtain ⟨⟨h1, h3⟩, h2⟩ := h
    have h1 : o.cls = .type "tuple" := by simpa using h1
    have h3 : o.dict = none := by simpa using h3
    split at h2
    · rename_i its k hd
      simp only [Bool.and_eq_true, decide_eq_true_eq, beq_iff_eq] at h2
      exact ⟨o, its, k, ho, h1, h3, hd, h2.1, h2.2.1, h2.2.2⟩
    · cases h2
  · cases h
theorem cst_rp {K : PySem.W.Frag} {F : Hp} : ∀ (n : Nat) (u : Value) (d : PyData), cstOk K n u d = true → ∃ v, RelV v u ∧ Rp K F v d
  | 0, _, _, h => by simp [cstOk] at h
  | n + 1, u, d, h => by
    cases u with
    | none =>
      cases d with
      | none => exact ⟨.non, rfl, .non⟩
      | _ => cases h
    | bool b =>
      cases d with
      | bool c =>
        have e : b = c := by simpa [cstOk] using h
        subst e
        exact ⟨.bl b, rfl, .bl b⟩
      | _ => cases h
    | int i t =>
      cases d with
      | int j =>
        have e : i = j := by simpa [cstOk] using h
        subst e
        exact ⟨.int i, ⟨t, rfl⟩, .int i⟩
      | _ => cases h
    | str x t =>
      cases d with
      | str y =>
        have e : x = y := by simpa [cstOk] using h
        subst e
        exact ⟨.str x, ⟨t, rfl⟩, .str x⟩
      | _ => cases h
    | ref a =>
      cases d with
      | tuple ds =>
        obtain ⟨o, its, k, ho, h1, h3, hd, hs, hl, ha⟩ := cst_tup h
        have main : ∀ (us : List Value) (ds : List PyData), us.length = ds.length → ((us.zip ds).all fun p => cstOk K n p.1 p.2) = true → ∃ vs, Vals vs us ∧ RpA K F vs ds := by
          intro us
          induction us with
          | nil =>
            intro ds hl _
            cases ds with
            | nil => exact ⟨[], .nil, .nil⟩
            | cons _ _ => cases hl
          | cons u us ih =>
            intro ds hl ha
            cases ds with
            | nil => cases hl
            | cons d ds =>
              simp only [List.zip_cons_cons, List.all_cons, Bool.and_eq_true] at ha
              obtain ⟨v, r1, r2⟩ := cst_rp n u d ha.1
              obtain ⟨vs, q1, q2⟩ := ih ds (by simpa using hl) ha.2
              exact ⟨v :: vs, .cons r1 q1, .cons r2 q2⟩
        obtain ⟨vs, q1, q2⟩ := main _ _ hl ha
        exact ⟨.ref a, rfl, .tup (.inr ⟨o, its, k, ho, h1, hd, line_of hs, q1⟩) q2⟩
      | _ => cases h
    | _ => cases h
theorem relV_ref {v : V} {a : Addr} (r : RelV v (.ref a)) : v = .ref a := by
  have e := r.abs
  cases v <;> simp_all [absV]
theorem cst_ref {K : PySem.W.Frag} {n : Nat} {a : Addr} {d : PyData} (h : cstOk K n (.ref a) d = true) (F : Hp) : Rp K F (.ref a) d := by
  obtain ⟨v, r, q⟩ := cst_rp (F := F) n _ d h
  rw [relV_ref r] at q
  exact q
section
variable {K : PySem.W.Frag} {X : Cx} {C : Ct}
/-- a module's tuple -/
theorem pd_cst {x : Str} {d : PyData} {pos : Pos} (h : ∃ a, X.mg x = some (.ref a) ∧ cstOk X.K 4 (.ref a) d = true) (hg : Gl X x := by rfl) (hd : (x == ("__debug__" : Str)) = false := by decide) : PE X (.Name x pos) (tD X.K C (mC d)) := by
  obtain ⟨a, h1, h2⟩ := h
  exact pd_glob (v := .ref a) h1 rfl (cst_ref h2) hg hd
def mIdxC (xs : List PyData) (mb : ME) : ME := fun sd Q => mb sd fun b s2 => ∃ r, opIdx xs b = some r ∧ Q r s2
def rIndexT (K : PySem.W.Frag) : V → List V → Hp → VK → Prop := fun x xs H Q => ∃ (a : Addr) (ys : List V) (y : V) (j : Nat) (z : V), x = V.ref a ∧ xs = [y] ∧ SqT K H a ys ∧ flatV y = true ∧ ys.all flatV = true ∧ ys[j]? = some z ∧ eqV z y = true ∧
  (∀ (m : Nat) (z' : V), m < j → ys[m]? = some z' → eqV z' y = false) ∧ Q (.int (j : Nat)) H
theorem mt_indexT : MtR X "tuple.index" (rIndexT X.K) := by
  intro pins s σ H x xs v us Q I rx rxs h
  obtain ⟨a, ys, y, j, z, rfl, rfl, hs, fy, fys, hz, hzj, hno, q⟩ := h
  cases rx
  cases rxs with
  | cons ry rt =>
    rename_i uy ut
    cases rt
    obtain ⟨its, rv, ⟨⟨cls, dd, data, sl⟩, ho, hc, n, hd⟩, hlen⟩ := I.tuple hs
    simp only at hc hd
    subst hc hd
    obtain ⟨u, hu, ru⟩ := rv.get hz
    obtain ⟨hjl, hje⟩ := List.getElem?_eq_some_iff.mp hu
    have hvl := rv.length
    have hj : j < its.toArray.size := by simpa using hjl
    refine call_meets PySem.F.slot_tuple_index ⟨_, ho, rfl⟩ PySem.F.entry_tuple_index (PySem.F.args_tuple_index_2 _ _)
      (TI.tuple_indexAt a its.toArray n dd sl uy (eqU y) j hj ?_ ?_) ⟨ho, fun u' hu' => mem_eqAt ry fy rv fys u' (by simpa using hu'), ⟨.int (j : Nat), H, I.tok _, ⟨_, rfl⟩, q⟩⟩
    · have e1 : its.toArray[j] = u := by simpa using hje
      rw [e1, eqU_of ru (flat_at fys hz)]
      exact hzj
    · intro m hm hmj
      have hml : m < its.length := by simpa using hm
      have hmy : m < ys.length := by omega
      have hy' : ys[m]? = some ys[m] := List.getElem?_eq_getElem hmy
      obtain ⟨u2, hu2, ru2⟩ := rv.get hy'
      obtain ⟨_, hme⟩ := List.getElem?_eq_some_iff.mp hu2
      have e1 : its.toArray[m] = u2 := by simpa using hme
      rw [e1, eqU_of ru2 (flat_at fys hy')]
      exact hno m _ hmj hy'
variable {e : Expr} {p apos cpos : Pos} {mb : ME}
theorem pd_idxC {x : Str} {ds : List PyData} (h : ∃ a, X.mg x = some (.ref a) ∧ cstOk X.K 4 (.ref a) (.tuple ds) = true) (he : PE X e (tD X.K C mb)) (t : ∀ a, X.mg x = some (.ref a) → PE X (.Call (.Attribute (.Name x p) "index" apos) [e] [] cpos) (tBM X.K "tuple" (rIndexT X.K) (tC (.ref a)) (tCons (tD X.K C mb) tNil))) : PE X (.Call (.Attribute (.Name x p) "index" apos) [e] [] cpos) (tD X.K C (mIdxC ds mb)) := by
  obtain ⟨a, h1, h2⟩ := h
  refine pe_imp (t a h1) ?_
  rintro σ H Q ⟨F, sd, Qd, R, h, k⟩
  obtain ⟨o, its, n, ho, hc, hdn, hd, hs, hl, ha⟩ := cst_tup h2
  refine ⟨.inr (.inl ⟨rfl, o, ho, hc, hdn⟩), F, sd, _, R, h, fun y H2 F2 b sd2 R2 S2 ry hh => ?_⟩
  obtain ⟨z, e, q⟩ := hh
  have rp := cst_ref h2 F2
  cases rp with
  | tup hp ra =>
    unfold opIdx at e
    split at e
    · rename_i hc
      rw [Bool.and_eq_true] at hc
      obtain ⟨n, hn, rfl⟩ := Option.map_eq_some_iff.mp e
      obtain ⟨z, z1, z2, z3⟩ := first_rp ry hc.1 ra hc.2 hn
      exact ⟨_, _, y, n, z, rfl, rfl, same_t R2.ext hp, flatV_rp ry hc.1, flats_rp ra hc.2, z1, z2, z3, k _ H2 F2 _ sd2 R2 S2 (.int _) q⟩
    · cases e
end
end DL
namespace DL
open PySem PySem.Spec PyProof.Rows L2
def miEnumT (ma : MA) : MI := fun sd Q => ma sd fun ds s1 => ∃ xs, ds = [.tuple xs] ∧ Q (enumL 0 xs) s1
end DL
namespace PySem
open Sem (wp)
set_option maxHeartbeats 1000000 in
theorem dl_enumerate_newB {v : Value} {o : Obj} {H : Heap → Prop} (B : Begins v o H) :
    Meets (Builtin.«enumerate.__new__» ⟨[.type "enumerate", v], []⟩) (fun _ R s => H s.heap ∧
      R (.ok (.ret (.ref (s.heap.push o).objs.size))) { s with heap := (s.heap.push o).push { cls := .type "enumerate", data := .fields #[.none, .bool false, .ref s.heap.objs.size, rawInt 0, .none, .none] } }) :=
  .of_wp fun prog w A R s h => by
    obtain ⟨hp, g, d, tk, os⟩ := s; obtain ⟨h1, h⟩ := h
    have hsub := sub_enumerate
    have q1 : ∀ {A' : Around} {E : Value → Shared → Prop} {Q : Value → Shared → Prop}, Q (.ref hp.objs.size) ⟨hp.push o, g, d, tk, os⟩ → wpAny (model prog w) A' (pyIter v) Q E ⟨hp, g, d, tk, os⟩ :=
      fun q => B.iter prog w _ _ ⟨hp, g, d, tk, os⟩ _ h1 q
    wp_walk using q1
    refine wpAny_stack_any fun st => wpAny_pure ?_
    split
    · rename_i c _ _ _ _ _
      cases (c == Value.type "enumerate")
      · wp_walk using q1
        exact ⟨_, rfl, h⟩
      · wp_walk using q1
        exact ⟨_, rfl, h⟩
    · wp_walk using q1
      exact ⟨_, rfl, h⟩
section
variable {prog : Program} {w : World} {A : Around} {E : Value → Shared → Prop} {s : Shared}
theorem dl_call_enumerate {v : Value} {o : Obj} {H : Heap → Prop} {Q : Value → Shared → Prop} (B : Begins v o H) (h1 : H s.heap)
    (h : ∀ h', IsEnum h' (s.heap.objs.size + 1) s.heap.objs.size 0 .none → h'.get? s.heap.objs.size = some o → h'.objs.size = s.heap.objs.size + 2 →
      (∀ b o, s.heap.get? b = some o → h'.get? b = some o) → Q (.ref (s.heap.objs.size + 1)) { s with heap := h' }) :
    wpAny (model prog w) A (call (.type "enumerate") [v]) Q E s := by
  refine callType_new F.called_enumerate (by decide) (F.typeCall_enumerate_1 _) (F.newCall_enumerate_1 _) (fun obj => F.args_object_init_2 obj _) F.entry_enumerate_new
    (dl_enumerate_newB B) ⟨h1, ?_⟩
  have hz : (s.heap.push o).objs.size = s.heap.objs.size + 1 := Heap.size_push ..
  show _ ∧ _
  rw [hz]
  have he : IsEnum ((s.heap.push o).push { cls := .type "enumerate", data := .fields #[.none, .bool false, .ref s.heap.objs.size, rawInt 0, .none, .none] }) (s.heap.objs.size + 1) s.heap.objs.size 0 .none := by
    have := Heap.get?_push_size (s.heap.push o) (o := { cls := .type "enumerate", data := .fields #[.none, .bool false, .ref s.heap.objs.size, rawInt 0, .none, .none] }) rfl
    rw [hz] at this; exact this
  refine ⟨⟨_, he, rfl⟩, h _ he (Heap.get?_push_of_some _ (Heap.get?_push_size _ B.free)) (by rw [Heap.size_push, hz]) fun b o x => Heap.get?_push_of_some _ (Heap.get?_push_of_some _ x)⟩
end
end PySem
namespace DL
open PySem PySem.Spec PyProof.Rows L2
/-- the tuple at a as it stands at each turn, each item in a new pair -/
def IteT (K : PySem.W.Frag) (a : Addr) : It :=
  ⟨fun i H => ∃ (xs : List V) (x : V), SqT K H a xs ∧ xs[i]? = some x, fun i H v H' => ∃ T x, v = .ref T ∧ H T = none ∧ H' = upd H T (.tup [.int (i : Nat), x]) ∧ ∀ xs, SqT K H a xs → xs[i]? = some x, fun i H => ∃ xs : List V, SqT K H a xs ∧ xs.length = i⟩
theorem turn_enumT {P : Program} {w : World} {K : PySem.W.Frag} {elts : List Expr} {kk : Nat} {tpos : Pos} (a e it : Addr) :
    Turn P w K (.Tuple elts kk tpos) (IteT K a) [e, it] e (fun i h => (∃ old, IsEnum h e it ((i : Nat) : Int) old) ∧ h.IsTupleIter it a i ∧ e ≠ it ∧ e ≠ a ∧ a ≠ it) where
  mem := by simp
  obj := fun i h st b hb => by
    obtain ⟨⟨old, he⟩, ⟨o, ho, hc, hd⟩, _⟩ := st
    have e' : b = e ∨ b = it := by simpa using hb
    rcases e' with z | z
    · rw [z]; exact ⟨_, he, fun v q => nomatch q⟩
    · rw [z]; exact ⟨o, ho, fun v q => by rw [hd] at q; cases q⟩
  keep := fun i h h' st k => let ⟨⟨old, he⟩, hi, hne⟩ := st; ⟨⟨old, k e (by simp) _ he⟩, hi.at fun o q => k it (by simp) o q, hne⟩
  item := by
    intro X hP hw hK hc i pins s σ H E I hf st hg
    subst hP hw hK
    obtain ⟨⟨old, he⟩, hit, hne, hea, hai⟩ := st
    obtain ⟨xs, x, hq, hx⟩ := hg
    obtain ⟨its, rv, p, hz⟩ := I.tuple hq
    obtain ⟨u, hu, ru⟩ := rv.get hx
    obtain ⟨hul, hue⟩ := List.getElem?_eq_some_iff.mp hu
    have hel : e < s.heap.objs.size := Heap.lt_size he
    have hil : it < s.heap.objs.size := by obtain ⟨_, q, _⟩ := hit; exact Heap.lt_size q
    have D := Draws.tuple (prog := X.prog) (w := X.w) (A := X.A.in1) (show X.A.in1.handled = none from I.ok.hd hc) it a hai its.toArray
    refine wpAny_pyNext_enum_itemC D he ⟨hit, p⟩ (by simpa using hul) hne (by simp [hne, hea]) fun x' h' tk hP ho hs' hT hsz hk => ?_
    obtain ⟨hit', p'⟩ := hs'
    have ex : x' = u := by
      have h1 : its[i]? = some x' := by simpa using hP
      rw [hu] at h1
      exact (Option.some.inj h1).symm
    subst ex
    refine ⟨_, rfl, wpAny_letOwnedTupleGo_enum (s := { s with heap := h', toks := tk + 1 }) ho fun h'' he' sb => ?_⟩
    have hT2 : h''.get? s.heap.objs.size = some { cls := .type "tuple", data := .seq #[.int i tk, x'] } := (sb.2 _ (Nat.ne_of_gt hel)).trans hT
    have new : ObjOk X.prog X.w (upd H s.heap.objs.size (.tup [.int (i : Nat), x])) h'' s.heap.objs.size (.tup [.int (i : Nat), x]) :=
      ⟨by show 2 ≤ sizeLine; decide, [.int i tk, x'], .cons ⟨_, rfl⟩ (.cons ru .nil), ⟨_, hT2, rfl, _, rfl⟩⟩
    have I1 : L2.Inv X pins σ (upd H s.heap.objs.size (.tup [.int (i : Nat), x])) { s with heap := h'', toks := tk + 1 } :=
      I.turnedNew (ch := [e, it]) (fun b ob hb q => (sb.2 b (fun z => hb (by simp [z]))).trans (hk b ob (fun z => hb (by simp [z])) (fun z => hb (by simp [z])) q)) hf (Nat.le_refl _) new
    refine ⟨.ref s.heap.objs.size, _, I1, rfl, ⟨_, x, rfl, I.hok.fresh (Nat.le_refl _), rfl, fun ys hy => by rw [I.tuple_inj hy hq]; exact hx⟩, ⟨⟨x', ?_⟩, hit'.at fun o q => (sb.2 it (Ne.symm hne)).trans q, hne, hea, hai⟩, fun b hb => ?_⟩
    · have e1 : ((i + 1 : Nat) : Int) = (i : Int) + 1 := by omega
      rw [e1]; exact he'
    · have hb' : b < s.heap.objs.size := by
        have e' : b = e ∨ b = it := by simpa using hb
        rcases e' with z | z
        · rw [z]; exact hel
        · rw [z]; exact hil
      rw [upd_ne (Nat.ne_of_lt hb')]
      exact (hf b hb).1
  done := by
    intro X hP hw hK hc i pins s σ H E I hf st hg
    subst hP hw hK
    obtain ⟨⟨old, he⟩, hit, hne, hea, hai⟩ := st
    obtain ⟨xs, hq, hx⟩ := hg
    obtain ⟨its, rv, p, hz⟩ := I.tuple hq
    obtain ⟨f0, f1, f2, f3, f4, f5⟩ := hf it (by simp)
    have hl := rv.length
    have ei : i = its.toArray.size := by simp; omega
    have D := Draws.tuple (prog := X.prog) (w := X.w) (A := X.A.in1) (show X.A.in1.handled = none from I.ok.hd hc) it a hai its.toArray
    refine wpAny_pyNext_enum_endD D he ⟨by rw [← ei]; exact hit, p⟩ fun h' eb => ⟨rfl, I.turned (t' := s.toks) (fun b o hb q => eb b o hb q) f0 f1 f3 f4 f5⟩
  self := fun A i s Q E st h => let ⟨⟨_, he⟩, _⟩ := st; wpAny_pyIter_enum he h
theorem walk_enumT {K : PySem.W.Frag} {a : Addr} {xs : List V} : Walk (IteT K a) xs.length (fun H => SqT K H a xs) (YPair (fun i => some (.int (i : Nat))) (fun i => xs[i]?)) := by
  refine ⟨fun i _ hi q => ⟨xs, xs[i], q, by simp [hi]⟩, fun _ q => ⟨xs, q, rfl⟩, fun i H v H' _ q y => ?_⟩
  obtain ⟨T, x, h1, h2, h3, h4⟩ := y
  exact ⟨T, _, x, h1, h2, h3, rfl, h4 xs q⟩
section
variable {X : Cx} {C : Ct}
def iEnumT (K : PySem.W.Frag) (ta : TA) : TI := fun σ H R => ta σ H fun vs H1 => ∃ a xs, vs = [.ref a] ∧ SqT K H1 a xs ∧ R (IteT K a) H1
theorem pi_enumT {e : Expr} {ta : TA} {p pos tpos : Pos} {elts : List Expr} {kk : Nat} (hg : Gl X "enumerate") (hm : X.mg "enumerate" = none) (ha : PA X [e] ta) (hs : starEach [e] X.env = [(false, eval e X.env)] := by rfl) :
    PI X (.Tuple elts kk tpos) (.Call (.Name "enumerate" p) [e] [] pos) (iEnumT X.K ta) := by
  refine ⟨fun pins s σ H R I h => ?_⟩
  refine Call_ (ld_blt I hg hm boot_enumerate (PyProof.Rows.callWith_type1 (thn (ha.run pos pins s σ H _ I h) fun us s1 ⟨vs, H1, I1, r1, q1⟩ => ?_) hs rfl))
  obtain ⟨a, xs, ex, hq, q⟩ := q1
  subst ex
  cases r1 with
  | cons r rr =>
    cases rr
    cases r
    obtain ⟨its, rv, p', hz⟩ := I1.tuple hq
    have hal : a < s1.heap.objs.size := by obtain ⟨_, q, _⟩ := p'; exact Heap.lt_size q
    refine dl_call_enumerate (begins_tuple a its.toArray) p' fun h' he hit hsz hk => wpAny_pyIter_enum he ?_
    have I2 : L2.Inv X pins σ H1 { s1 with heap := h' } := I1.kept (t' := s1.toks) hk
    refine ⟨s1.heap.objs.size + 1, [s1.heap.objs.size + 1, s1.heap.objs.size], _, _, H1, rfl, I2, turn_enumT a (s1.heap.objs.size + 1) s1.heap.objs.size, ⟨⟨.none, he⟩, ⟨_, hit, rfl, rfl⟩, Nat.succ_ne_self _, fun e => absurd hal (by rw [← e]; exact Nat.not_lt.mpr (Nat.le_succ _)), fun e => absurd hal (by rw [e]; exact Nat.lt_irrefl _)⟩, fun b hb => ?_, q⟩
    have e' : b = s1.heap.objs.size + 1 ∨ b = s1.heap.objs.size := by simpa using hb
    have hle : s1.heap.objs.size ≤ b := by
      rcases e' with z | z
      · rw [z]; exact Nat.le_add_right _ _
      · rw [z]; exact Nat.le_refl _
    exact I1.fpOk hle (I1.hok.fresh hle)
theorem pdi_enumT {elts : List Expr} {kk : Nat} {tpos : Pos} {e : Expr} {p pos : Pos} {m : MA} (t : PI X (.Tuple elts kk tpos) (.Call (.Name "enumerate" p) [e] [] pos) (iEnumT X.K (tDA X.K C m))) :
    PI X (.Tuple elts kk tpos) (.Call (.Name "enumerate" p) [e] [] pos) (tDI X.K C (miEnumT m)) := pi_imp t (by
  rintro σ H R0 ⟨F, sd, Qd, R, h, k⟩
  refine ⟨F, sd, _, R, h, fun vs H1 F1 ds sd1 R1 S1 rs q => ?_⟩
  obtain ⟨xs, rfl, q⟩ := q
  obtain ⟨x, rfl, r⟩ := rpA1 rs
  cases r with
  | @tup a ys _ h2 r2 =>
    refine ⟨_, _, rfl, same_t R1.ext h2, k _ H1 F1 _ sd1 R1 S1 ?_ q⟩
    have hl : (enumL 0 xs).length = ys.length := by
      rw [r2.length]
      have : ∀ (l : List PyData) n, (enumL n l).length = l.length := fun l => by
        induction l with
        | nil => intro _; rfl
        | cons d l ih => intro n; simp [enumL, ih]
      exact this xs 0
    refine ⟨fun H => SqT X.K H a ys, YPair (fun i => some (.int (i : Nat))) (fun i => ys[i]?), by rw [hl]; exact walk_enumT, fun H e => same_t e h2, fun i H x H' F' hi e1 e2 y => ?_⟩
    obtain ⟨T, x1, x2, rfl, hT, hH, y1, y2⟩ := y
    cases y1
    obtain ⟨d, hd, rd⟩ := rpA_at r2 y2
    obtain ⟨F2, al, rr⟩ := pair_al hT e2 hH (.int (i : Int)) (rd.mono e1)
    refine ⟨F2, _, al, ?_, rr⟩
    rw [enumL_get, hd]
    simp)
end
end DL
namespace DL
open PySem PySem.Spec PyProof.Rows L2
def miZipM (ma : MA) : MI := fun sd Q => ma sd fun ds s1 => ∃ z ys, ds = [.str z, .tuple ys] ∧ Q (zipL (signsD z) ys) s1
/-- the text z, and the tuple at b as it stands at each turn, the items in new pairs -/
def ItzM (K : PySem.W.Frag) (z : Str) (b : Addr) : It :=
  ⟨fun i H => i < z.cps.size ∧ ∃ (ys : List V) (y : V), SqT K H b ys ∧ ys[i]? = some y,
    fun i H v H' => ∃ T c y, v = .ref T ∧ H T = none ∧ H' = upd H T (.tup [.str ⟨#[c]⟩, y]) ∧ z.cps[i]? = some c ∧ ∀ ys, SqT K H b ys → ys[i]? = some y,
    fun i H => ∃ ys : List V, SqT K H b ys ∧ i = min z.cps.size ys.length⟩
theorem turn_zipM {P : Program} {w : World} {K : PySem.W.Frag} {elts : List Expr} {kk : Nat} {tpos : Pos} {x : Str} {t : Tok} {b z TI TO i1 i2 : Addr} (S : ZipSep2 z TI TO i1 i2 [i1] [i2, b]) :
    Turn P w K (.Tuple elts kk tpos) (ItzM K x b) [z, TI, TO, i1, i2] z (fun i h => IsZip h z TI TO .none ∧ IsTupOf2 h TI (.ref i1) (.ref i2) ∧ (∃ a1 a2, IsTupOf2 h TO a1 a2) ∧ h.IsStrIter i1 (strIterType x) x t i ∧ h.IsTupleIter i2 b i) where
  mem := by simp
  obj := fun i h st c hc => by
    obtain ⟨hz, hTI, ⟨a1, a2, hTO⟩, ⟨o1, e1, _, d1⟩, ⟨o2, e2, _, d2⟩⟩ := st
    have e' : c = z ∨ c = TI ∨ c = TO ∨ c = i1 ∨ c = i2 := by simpa using hc
    rcases e' with q | q | q | q | q
    · rw [q]; exact ⟨_, hz, fun v q => nomatch q⟩
    · rw [q]; exact ⟨_, hTI, fun v q => nomatch q⟩
    · rw [q]; exact ⟨_, hTO, fun v q => nomatch q⟩
    · rw [q]; exact ⟨o1, e1, fun v q => by rw [d1] at q; cases q⟩
    · rw [q]; exact ⟨o2, e2, fun v q => by rw [d2] at q; cases q⟩
  keep := fun i h h' st k => by
    obtain ⟨hz, hTI, ⟨a1, a2, hTO⟩, ⟨o1, e1, r1⟩, h2⟩ := st
    exact ⟨k z (by simp) _ hz, k TI (by simp) _ hTI, ⟨a1, a2, k TO (by simp) _ hTO⟩, ⟨o1, k i1 (by simp) _ e1, r1⟩, h2.at fun o q => k i2 (by simp) o q⟩
  item := by
    intro X hP hw hK hc i pins s σ H E I hf st hg
    subst hP hw hK
    obtain ⟨hz, hTI, ⟨a1, a2, hTO⟩, h1, h2⟩ := st
    obtain ⟨hlt, ys, y, hqy, hy⟩ := hg
    obtain ⟨its, rv, p, _⟩ := I.tuple hqy
    obtain ⟨u, hu, ru⟩ := rv.get hy
    obtain ⟨hul, hue⟩ := List.getElem?_eq_some_iff.mp hu
    have hzl : z < s.heap.objs.size := Heap.lt_size hz
    have D1 := Draws.text (prog := X.prog) (w := X.w) (A := X.A.in1) (show X.A.in1.handled = none from I.ok.hd hc) i1 x t
    have D2 := Draws.tuple (prog := X.prog) (w := X.w) (A := X.A.in1) (show X.A.in1.handled = none from I.ok.hd hc) i2 b (fun e => by have := S.mem2; exact absurd e (by have hbz := hf i2 (by simp); intro e; obtain ⟨f0, _⟩ := hbz; obtain ⟨o, ho, _⟩ := p; obtain ⟨o', ho', hc', _⟩ := h2; subst e; rw [ho] at ho'; cases ho'; simp_all)) its.toArray
    refine wpAny_pyNext_zipD2_item S D1 D2 hz hTI hTO h1 ⟨h2, p⟩ hlt (by simpa using hul) fun x1 x2 h' tk p1 p2 z' TO' h1' h2' hT hsz hk => ?_
    obtain ⟨c, u1, hc1, rfl⟩ := p1
    have ex : x2 = u := by
      have q1 : its[i]? = some x2 := by simpa using p2
      rw [hu] at q1
      exact (Option.some.inj q1).symm
    subst ex
    refine ⟨_, rfl, wpAny_letOwnedTupleGo_zip (s := { s with heap := h', toks := tk }) z' fun h'' z'' sb => ?_⟩
    have hT2 : h''.get? s.heap.objs.size = some { cls := .type "tuple", data := .seq #[.str ⟨#[c]⟩ u1, x2] } := (sb.2 _ (Nat.ne_of_gt hzl)).trans hT
    have new : ObjOk X.prog X.w (upd H s.heap.objs.size (.tup [.str ⟨#[c]⟩, y])) h'' s.heap.objs.size (.tup [.str ⟨#[c]⟩, y]) :=
      ⟨by show 2 ≤ sizeLine; decide, [.str ⟨#[c]⟩ u1, x2], .cons ⟨_, rfl⟩ (.cons ru .nil), ⟨_, hT2, rfl, _, rfl⟩⟩
    have I1 : L2.Inv X pins σ (upd H s.heap.objs.size (.tup [.str ⟨#[c]⟩, y])) { s with heap := h'', toks := tk } :=
      I.turnedNew (ch := [z, TI, TO, i1, i2]) (fun c o hb q => (sb.2 c (fun q' => hb (by simp [q']))).trans (hk c o (fun q' => hb (by simp [q'])) (fun q' => hb (by simp [q'])) (fun q' => hb (by simp [q'])) (fun q' => hb (by simp [q'])) q)) hf (Nat.le_refl _) new
    refine ⟨.ref s.heap.objs.size, _, I1, rfl, ⟨_, c, y, rfl, I.hok.fresh (Nat.le_refl _), rfl, hc1, fun l hl => by rw [I.tuple_inj hl hqy]; exact hy⟩, ⟨z'', ?_, ⟨.str ⟨#[c]⟩ u1, x2, ?_⟩, ?_, ?_⟩, fun c hcm => ?_⟩
    · exact (sb.2 _ S.TIz).trans (hk _ _ S.TIz S.TITO S.TIi1 S.TIi2 hTI)
    · exact (sb.2 _ S.TOz).trans TO'
    · obtain ⟨o1, e1, r1⟩ := h1'
      exact ⟨o1, (sb.2 _ S.zi1.symm).trans e1, r1⟩
    · exact h2'.1.at fun o q => (sb.2 _ S.zi2.symm).trans q
    · have hlt : c < s.heap.objs.size := by
        have e' : c = z ∨ c = TI ∨ c = TO ∨ c = i1 ∨ c = i2 := by simpa using hcm
        rcases e' with q | q | q | q | q
        · rw [q]; exact hzl
        · rw [q]; exact Heap.lt_size hTI
        · rw [q]; exact Heap.lt_size hTO
        · rw [q]; obtain ⟨_, e1, _⟩ := h1; exact Heap.lt_size e1
        · rw [q]; obtain ⟨_, e2, _⟩ := h2; exact Heap.lt_size e2
      rw [upd_ne (Nat.ne_of_lt hlt)]
      exact (hf c hcm).1
  done := by
    intro X hP hw hK hc i pins s σ H E I hf st hg
    subst hP hw hK
    obtain ⟨hz, hTI, ⟨a1, a2, hTO⟩, h1, h2⟩ := st
    obtain ⟨ys, hqy, hend⟩ := hg
    obtain ⟨its, rv, p, _⟩ := I.tuple hqy
    have l2 := rv.length
    have hsz : its.toArray.size = ys.length := by simp; omega
    have D1 := Draws.text (prog := X.prog) (w := X.w) (A := X.A.in1) (show X.A.in1.handled = none from I.ok.hd hc) i1 x t
    have D2 := Draws.tuple (prog := X.prog) (w := X.w) (A := X.A.in1) (show X.A.in1.handled = none from I.ok.hd hc) i2 b (fun e => by obtain ⟨o, ho, _⟩ := p; obtain ⟨o', ho', hc', _⟩ := h2; subst e; rw [ho] at ho'; cases ho'; simp_all) its.toArray
    exact wpAny_pyNext_zipD2_end S D1 D2 hz hTI hTO h1 ⟨h2, p⟩ (by omega) (by omega) (by omega) fun h' tk hk => ⟨rfl, I.turnedL (t' := tk) (ch := [z, TI, TO, i1, i2]) (fun c o hb q =>
      hk c o (fun q' => hb (by simp [q'])) (fun q' => hb (by simp [q'])) (fun q' => hb (by simp [q'])) (fun q' => hb (by simp [q'])) q) hf⟩
  self := fun A i s Q E st h => wpAny_pyIter_zip st.1 h
theorem walk_zipM {K : PySem.W.Frag} {z : Str} {b : Addr} {ys : List V} : Walk (ItzM K z b) (min z.cps.size ys.length) (fun H => SqT K H b ys) (YPair (fun i => z.cps[i]?.map fun c => .str ⟨#[c]⟩) (fun i => ys[i]?)) := by
  refine ⟨fun i _ hi q => ?_, fun _ q => ⟨ys, q, rfl⟩, fun i H v H' _ q y => ?_⟩
  · have h2 : i < ys.length := by omega
    exact ⟨by omega, ys, ys[i], q, by simp [h2]⟩
  · obtain ⟨T, c, y, h1, h2, h3, h4, h5⟩ := y
    exact ⟨T, .str ⟨#[c]⟩, y, h1, h2, h3, by show z.cps[i]?.map _ = _; rw [h4]; rfl, h5 ys q⟩
section
variable {X : Cx} {C : Ct}
def iZipM (K : PySem.W.Frag) (ta : TA) : TI := fun σ H R => ta σ H fun vs H1 => ∃ z b ys, vs = [.str z, .ref b] ∧ SqT K H1 b ys ∧ R (ItzM K z b) H1
theorem pi_zipM {e e2 : Expr} {ta : TA} {p pos tpos : Pos} {elts : List Expr} {kk : Nat} (hg : Gl X "zip") (hm : X.mg "zip" = none) (ha : PA X [e, e2] ta)
    (hs : starEach [e, e2] X.env = (false, eval e X.env) :: starEach [e2] X.env := by rfl) (hpl : (backTo pos (starEach [e2] X.env)).any (·.1) = false := by rfl) :
    PI X (.Tuple elts kk tpos) (.Call (.Name "zip" p) [e, e2] [] pos) (iZipM X.K ta) := by
  refine ⟨fun pins s σ H R I h => ?_⟩
  refine Call_ (ld_blt I hg hm PyProof.Rows.boot_zip (PyProof.Rows.callWith_type1 (thn (ha.run pos pins s σ H _ I h) fun us s1 ⟨vs, H1, I1, r1, q1⟩ => ?_) hs hpl))
  obtain ⟨z, b, ys, ex, hqy, q⟩ := q1
  subst ex
  cases r1 with
  | cons r rr =>
    cases rr with
    | cons r' rr =>
      cases rr
      obtain ⟨t, rfl⟩ := r
      cases r'
      have fresh5 : ∀ c, c ∈ [s1.heap.objs.size + 4, s1.heap.objs.size + 2, s1.heap.objs.size + 3, s1.heap.objs.size, s1.heap.objs.size + 1] → FpOk X pins H1 c := fun c hcm => by
        have e' : c = s1.heap.objs.size + 4 ∨ c = s1.heap.objs.size + 2 ∨ c = s1.heap.objs.size + 3 ∨ c = s1.heap.objs.size ∨ c = s1.heap.objs.size + 1 := by simpa using hcm
        have hle : s1.heap.objs.size ≤ c := by
          rcases e' with z | z | z | z | z
          · rw [z]; exact Nat.le_add_right _ _
          · rw [z]; exact Nat.le_add_right _ _
          · rw [z]; exact Nat.le_add_right _ _
          · rw [z]; exact Nat.le_refl _
          · rw [z]; exact Nat.le_add_right _ _
        exact I1.fpOk hle (I1.hok.fresh hle)
      obtain ⟨its2, rv2, p2, _⟩ := I1.tuple hqy
      obtain ⟨o2, ho2, _⟩ := id p2
      have hbl : b < s1.heap.objs.size := Heap.lt_size ho2
      refine zip_begins2 (begins_text z t) (begins_tuple b its2.toArray) trivial p2 fun h' hz hTI hTO h1 h2 hsz hk => wpAny_pyIter_zip hz ?_
      have I2 : L2.Inv X pins σ H1 { s1 with heap := h' } := I1.kept (t' := s1.toks) hk
      have sep : ZipSep2 (s1.heap.objs.size + 4) (s1.heap.objs.size + 2) (s1.heap.objs.size + 3) s1.heap.objs.size (s1.heap.objs.size + 1) [s1.heap.objs.size] [s1.heap.objs.size + 1, b] :=
        zip_sep2 (fp1 := []) (fp2 := [b]) (fun _ h => by cases h) (fun c h => by rw [List.mem_singleton.mp h]; exact hbl)
      exact ⟨s1.heap.objs.size + 4, [s1.heap.objs.size + 4, s1.heap.objs.size + 2, s1.heap.objs.size + 3, s1.heap.objs.size, s1.heap.objs.size + 1], _, _, H1, rfl, I2, turn_zipM (t := t) sep, ⟨hz, hTI, ⟨_, _, hTO⟩, ⟨_, h1, rfl, rfl⟩, ⟨_, h2, rfl, rfl⟩⟩, fresh5, q⟩
theorem pdi_zipM {elts : List Expr} {kk : Nat} {tpos : Pos} {e e2 : Expr} {p pos : Pos} {m : MA} (t : PI X (.Tuple elts kk tpos) (.Call (.Name "zip" p) [e, e2] [] pos) (iZipM X.K (tDA X.K C m))) :
    PI X (.Tuple elts kk tpos) (.Call (.Name "zip" p) [e, e2] [] pos) (tDI X.K C (miZipM m)) := pi_imp t (by
  rintro σ H R0 ⟨F, sd, Qd, R, h, k⟩
  refine ⟨F, sd, _, R, h, fun vs H1 F1 ds sd1 R1 S1 rs q => ?_⟩
  obtain ⟨z, ys, rfl, q⟩ := q
  obtain ⟨x, y, rfl, r, r'⟩ := rpA2 rs
  cases r
  cases r' with
  | @tup a zs _ h2 r2 =>
    refine ⟨_, _, _, rfl, same_t R1.ext h2, k _ H1 F1 _ sd1 R1 S1 ?_ q⟩
    have zl : ∀ (l m : List PyData), (zipL l m).length = min l.length m.length := fun l => by
      induction l with
      | nil => intro m; simp [zipL]
      | cons a l ih => intro m; cases m with
        | nil => simp [zipL]
        | cons b m => simp only [zipL, List.length_cons, ih]; omega
    have zg : ∀ (l m : List PyData) (i : Nat) (a b : PyData), l[i]? = some a → m[i]? = some b → (zipL l m)[i]? = some (.tuple [a, b]) := fun l => by
      induction l with
      | nil => intro m i a b h; simp at h
      | cons a l ih =>
        intro m i a' b' h1 h2
        cases m with
        | nil => simp at h2
        | cons b m =>
          cases i with
          | zero => simp at h1 h2; subst h1; subst h2; rfl
          | succ i => simp at h1 h2; simp only [zipL]; rw [List.getElem?_cons_succ]; exact ih m i a' b' h1 h2
    have hl : (zipL (signsD z) ys).length = min z.cps.size zs.length := by
      rw [zl, r2.length]
      simp [signsD]
    refine ⟨fun H => SqT X.K H a zs, YPair (fun i => z.cps[i]?.map fun c => .str ⟨#[c]⟩) (fun i => zs[i]?), by rw [hl]; exact walk_zipM, fun H e => same_t e h2, fun i H x H' F' hi e1 e2 y => ?_⟩
    obtain ⟨T, x1, x2, rfl, hT, hH, y1, y2⟩ := y
    obtain ⟨d, hd, rd⟩ := rpA_at r2 y2
    have y1 : z.cps[i]?.map (fun c => V.str ⟨#[c]⟩) = some x1 := y1
    cases hcz : z.cps[i]? with
    | none => rw [hcz] at y1; cases y1
    | some c =>
      rw [hcz] at y1
      cases y1
      obtain ⟨F2, al, rr⟩ := pair_al hT e2 hH (.str _) (rd.mono e1)
      refine ⟨F2, _, al, ?_, rr⟩
      refine zg _ _ _ _ _ ?_ hd
      unfold signsD
      rw [List.getElem?_map, Array.getElem?_toList, hcz]
      rfl)
end
end DL
namespace DL
open PySem PySem.Spec PyProof.Rows L2
/-- behind each item of the first source the second source's own loop; the list goes on growing -/
def lc2L (mg : MG) (mt : MT) (mi1 : MI) (mg1 : MG) (mt1 : MT) (me : ME) (vs vs1 : List Nat) (Q : List PyData → DSt → Prop) : List PyData → DSt → List PyData → Prop
  | [], s, acc => Q acc s
  | d :: ds, s, acc => mg d (swipe s vs) fun s1 => mt s1 fun b s2 => if b = true then mi1 s2 fun ds1 s3 => unOwn s3 vs1 = true ∧ lcL mg1 mt1 me vs1 (fun acc' s4 => lc2L mg mt mi1 mg1 mt1 me vs vs1 Q ds (swipe s4 vs1) acc') ds1 s3 acc
      else lc2L mg mt mi1 mg1 mt1 me vs vs1 Q ds s2 acc
def mLc2 (mi : MI) (mg : MG) (mt : MT) (mi1 : MI) (mg1 : MG) (mt1 : MT) (me : ME) (vs vs1 : List Nat) : ME := fun sd Q => mi sd fun ds s => unOwn s vs = true ∧ lc2L mg mt mi1 mg1 mt1 me vs vs1 (fun out s' => Q (.list out) (sback s s' vs)) ds s []
theorem wipe_sub {σ : L2.St} {vs : List Nat} : ∀ {vs1 : List Nat}, (∀ i ∈ vs1, i ∈ vs) → wipe (wipe σ vs1) vs = wipe σ vs
  | [], _ => rfl
  | v :: vs1, h => by
    show wipe ((wipe σ vs1).set v none) vs = _
    rw [wipe_set (h v (by simp)), wipe_sub fun i hi => h i (by simp [hi])]
section
variable {K : PySem.W.Frag} {X : Cx} {C : Ct}
/-- one turn's beginning, the slots vb of σb wiped -/
structure LcG (K : PySem.W.Frag) (C : Ct) (σ : L2.St) (s1 : DSt) (F1 H1 : Hp) (σb : L2.St) (vb : List Nat) (Dl : Addr) (F' H' : Hp) (s : DSt) (acc : List PyData) : Prop where
  R : Rs K C F' H' (wipe σb vb) (swipe s vb)
  fr : Same F1 F'
  kp : ∀ a o, H1 a = some o → ¬ Owned σ s1 a → H' a = some o
  ow : ∀ a, Owned (wipe σb vb) (swipe s vb) a → Owned σ s1 a
  nw : ∀ a o, F' a = some o → F1 a = some o ∨ H1 a = none ∨ Owned σ s1 a
  st : ∀ a, H' a = none → H1 a = none
  dl : ∃ vacc, H' Dl = some (.lst vacc) ∧ RpA K F' vacc acc
  df : F' Dl = none
theorem LcG.to {σ : L2.St} {s1 s : DSt} {F1 H1 F' H' : Hp} {vs : List Nat} {Dl : Addr} {acc : List PyData} (L : LcG K C σ s1 F1 H1 σ vs Dl F' H' s acc) : LcSt K C σ s1 F1 H1 vs Dl F' H' s acc := ⟨L.R, L.fr, L.kp, L.ow, L.nw, L.st, L.dl, L.df⟩
theorem lcg_turn {σ σb σ2 σc : L2.St} {s1 s s2 : DSt} {F1 H1 F' H' F2 H2 F3 H3 : Hp} {vb vc : List Nat} {Dl : Addr} {acc : List PyData} (R1 : Rs K C F1 H1 σ s1) (hD : H1 Dl = none) (L : LcG K C σ s1 F1 H1 σb vb Dl F' H' s acc) (al : Al F' H' F2 H2)
    {s0 : DSt} (ho : ∀ a, Owned σ2 s0 a → Owned (wipe σb vb) (swipe s vb) a) (S3 : Stp σ2 s0 F2 H2 F3 H3 s2) (Rn : Rs K C F3 H3 (wipe σc vc) (swipe s2 vc)) (on : ∀ a, Owned (wipe σc vc) (swipe s2 vc) a → Owned σ2 s2 a) : LcG K C σ s1 F1 H1 σc vc Dl F3 H3 s2 acc ∧ ¬ Owned (wipe σc vc) (swipe s2 vc) Dl ∧ C.H0 Dl = none := by
  have A := Stp.al L.R al
  have ow3 : ∀ a, Owned (wipe σc vc) (swipe s2 vc) a → Owned σ s1 a := fun a z => L.ow a (ho a (S3.ow a (on a z)))
  have nD : ¬ Owned σ s1 Dl := fun z => by
    obtain ⟨x, e⟩ := owned_at R1 z
    rw [hD] at e; cases e
  obtain ⟨vacc, h1, h2⟩ := L.dl
  have h12 : H2 Dl = some (.lst vacc) := A.kp _ _ h1 fun z => nD (L.ow _ z)
  have nD0 : ¬ Owned σ2 s0 Dl := fun z => nD (L.ow _ (ho _ z))
  refine ⟨⟨Rn, (L.fr.trans A.fr).trans S3.fr, fun a o e n => S3.kp a o (A.kp a o (L.kp a o e n) fun z => n (L.ow a z)) fun z => n (L.ow a (ho a z)), ow3, fun a o e => ?_, fun a e => L.st a (A.st a (S3.st a e)), ⟨vacc, S3.kp _ _ h12 nD0, (h2.mono A.fr).mono S3.fr⟩, ?_⟩, fun z => nD (ow3 _ z), R1.still _ hD⟩
  · rcases S3.nw a o e with e | e | e
    · rcases A.nw a o e with e | e | e
      · exact L.nw a o e
      · exact .inr (.inl (L.st a e))
      · exact .inr (.inr (L.ow a e))
    · exact .inr (.inl (L.st a (A.st a e)))
    · exact .inr (.inr (L.ow a (ho a e)))
  · cases e : F3 Dl with
    | none => rfl
    | some o =>
      rcases S3.nw _ o e with e | e | e
      · rcases A.nw _ o e with e | e | e
        · rw [L.df] at e; cases e
        · rw [h1] at e; cases e
        · exact (nD (L.ow _ e)).elim
      · rw [h12] at e; cases e
      · exact (nD0 e).elim
/-- the new list grows by an item -/
theorem LcG.push {σ σb : L2.St} {s1 s : DSt} {F1 H1 F' H' : Hp} {vb : List Nat} {Dl : Addr} {acc : List PyData} {vacc : List V} {y : V} {dy : PyData} (hD : H1 Dl = none) (L : LcG K C σ s1 F1 H1 σb vb Dl F' H' s acc) (no : ¬ Owned (wipe σb vb) (swipe s vb) Dl) (h0 : C.H0 Dl = none)
    (e1 : H' Dl = some (.lst vacc)) (e2 : RpA K F' vacc acc) (ry : Rp K F' y dy) : LcG K C σ s1 F1 H1 σb vb Dl F' (upd H' Dl (.lst (vacc ++ [y]))) s (acc ++ [dy]) := by
  refine ⟨L.R.updH L.df no h0, L.fr, fun a o e n => ?_, L.ow, L.nw, fun a e => ?_, ⟨_, upd_same, e2.snoc ry⟩, L.df⟩
  · have : a ≠ Dl := fun z => by subst z; rw [hD] at e; cases e
    rw [upd_ne this]; exact L.kp a o e n
  · by_cases z : a = Dl
    · subst z; exact hD
    · rw [upd_ne z] at e; exact L.st a e
theorem td_lc2 {mi mi1 : MI} {mg mg1 : MG} {mt mt1 : MT} {me : ME} {vs vs1 : List Nat} (hv : ∀ i ∈ vs1, i ∈ vs) {σ : L2.St} {H : Hp} {Q : VK} {F : Hp} {sd : DSt} {P : List PyData → DSt → Prop} (R : Rs K C F H σ sd) (h : mi sd fun ds s => unOwn s vs = true ∧ lc2L mg mt mi1 mg1 mt1 me vs vs1 (fun out s' => P out (sback s s' vs)) ds s [])
    (k : ∀ Dl H' F' out vout sd', Rs K C F' H' σ sd' → Stp σ sd F H F' H' sd' → H' Dl = some (.lst vout) → RpA K F' vout out → F' Dl = none → C.H0 Dl = none → ¬ Owned σ sd' Dl → H Dl = none → P out sd' → Q (.ref Dl) H') :
    tLc2 (tDI K C mi) (tDGv K C vs mg) (tDT K C mt) (tDI K C mi1) (tDGv K C vs1 mg1) (tDT K C mt1) (tD K C me) vs vs1 σ H Q := by
  refine ⟨F, sd, _, R, h, fun J H1 F1 ds s1 R1 S1 W h1 => fun Dl hD => ?_⟩
  obtain ⟨hu, h1⟩ := h1
  obtain ⟨G, Y, w, hG, hY⟩ := W.ex
  have nD : ¬ Owned σ s1 Dl := fun z => by
    obtain ⟨x, e⟩ := owned_at R1 z
    rw [hD] at e; cases e
  let Pv : Nat → Hp → Prop := fun i H' => ∃ F' s acc, LcG K C σ s1 F1 H1 σ vs Dl F' H' s acc ∧ lc2L mg mt mi1 mg1 mt1 me vs vs1 (fun out s' => P out (sback s1 s' vs)) (ds.drop i) s acc
  have p0 : Pv 0 (upd H1 Dl (.lst [])) := by
    refine ⟨F1, s1, [], ⟨rs_wipe (R1.allocH hD) vs, Same.refl _, fun a o e _ => same_new hD a o e, fun a z => owned_wipe z, fun a o e => .inl e, fun a e => ?_, ⟨[], upd_same, .nil⟩, R1.free hD⟩, h1⟩
    by_cases z : a = Dl
    · subst z; exact hD
    · rw [upd_ne z] at e; exact e
  refine ⟨fun i m H => m = ds.length - i ∧ i ≤ ds.length ∧ Pv i H, ⟨_, rfl, Nat.zero_le _, p0⟩, ?_⟩
  rintro i m H' ⟨rfl, hi, p⟩
  obtain ⟨F', s, acc, L, q⟩ := p
  have gH : G H' := hG H' (L.fr.trans L.R.ext)
  by_cases hge : ds.length ≤ i
  · have e : i = ds.length := by omega
    subst e
    rw [List.drop_length] at q
    obtain ⟨vacc, a1, a2, a3, a4, a5, a6, a7⟩ := lc_end R1 hu hD L.to
    exact .inl ⟨w.stops H' gH, k Dl H' F' acc vacc _ a5 (S1.trans a6) a1 a2 a3 a4 a7 (S1.st _ hD) q⟩
  have hlt : i < ds.length := by omega
  refine .inr ⟨w.goes i H' hlt gH, Pv (i + 1), fun H2 p2 => ⟨ds.length - (i + 1), by omega, rfl, hlt, p2⟩, fun x H'' y => ?_⟩
  have y := w.yields i H' x H'' hlt gH y
  obtain ⟨F2, d, al, hd, rd⟩ := hY i H' x H'' F' hlt L.fr L.R.ext y
  rw [drop_get hd] at q
  refine ⟨F2, swipe s vs, d, _, L.R.al al, rd, q, fun σ2 s2 R2 hw ho q2 => ⟨by rw [hw, wipe_wipe], F2, s2, _, R2, q2, fun b H3 F3 s3 R3 S3 q3 => ?_⟩⟩
  rw [wipe_wipe] at hw
  cases b with
  | false =>
    obtain ⟨L4, _, _⟩ := lcg_turn (σc := σ) (vc := vs) R1 hD L al ho S3 (by rw [← hw]; exact rs_wipe R3 vs) (fun a z => by rw [← hw] at z; exact owned_wipe z)
    exact ⟨F3, s3, acc, L4, q3⟩
  | true =>
    refine ⟨F3, s3, _, R3, q3, fun J1 H4 F4 ds1 s4 R4 S4 W4 q4 => ?_⟩
    obtain ⟨hu1, q4⟩ := q4
    obtain ⟨G1, Y1, w1, hG1, hY1⟩ := W4.ex
    obtain ⟨L4, _, _⟩ := lcg_turn (σc := σ2) (vc := vs1) R1 hD L al ho (S3.trans S4) (rs_wipe R4 vs1) (fun a z => owned_wipe z)
    let Pv1 : Nat → Hp → Prop := fun j H5 => ∃ F5 s5 acc5, LcG K C σ s1 F1 H1 σ2 vs1 Dl F5 H5 s5 acc5 ∧ Same F4 F5 ∧ lcL mg1 mt1 me vs1 (fun acc' s' => lc2L mg mt mi1 mg1 mt1 me vs vs1 (fun out s' => P out (sback s1 s' vs)) (ds.drop (i + 1)) (swipe s' vs1) acc') (ds1.drop j) s5 acc5
    refine ⟨fun j m H => m = ds1.length - j ∧ j ≤ ds1.length ∧ Pv1 j H, ⟨_, rfl, Nat.zero_le _, F4, s4, acc, L4, Same.refl _, q4⟩, ?_⟩
    rintro j m H5 ⟨rfl, hj, F5, s5, acc5, L5, sm, q5⟩
    have gH1 : G1 H5 := hG1 H5 (sm.trans L5.R.ext)
    by_cases hge1 : ds1.length ≤ j
    · have e : j = ds1.length := by omega
      subst e
      rw [List.drop_length] at q5
      refine .inl ⟨w1.stops H5 gH1, F5, swipe s5 vs1, acc5, ⟨?_, L5.fr, L5.kp, fun a z => ?_, L5.nw, L5.st, L5.dl, L5.df⟩, q5⟩
      · have := rs_wipe L5.R vs
        rw [wipe_sub hv, hw] at this
        exact this
      · rw [← hw, ← wipe_sub hv] at z
        exact L5.ow a (owned_wipe z)
    have hlt1 : j < ds1.length := by omega
    refine .inr ⟨w1.goes j H5 hlt1 gH1, Pv1 (j + 1), fun H6 p6 => ⟨ds1.length - (j + 1), by omega, rfl, hlt1, p6⟩, fun x1 H6 y1 => ?_⟩
    have y1 := w1.yields j H5 x1 H6 hlt1 gH1 y1
    obtain ⟨F6, d1, al1, hd1, rd1⟩ := hY1 j H5 x1 H6 F5 hlt1 sm L5.R.ext y1
    rw [drop_get hd1] at q5
    refine ⟨F6, swipe s5 vs1, d1, _, L5.R.al al1, rd1, q5, fun σ3 s6 R6 hw1 ho1 q6 => ⟨by rw [hw1, wipe_wipe], F6, s6, _, R6, q6, fun b H7 F7 s7 R7 S7 q7 => ?_⟩⟩
    rw [wipe_wipe] at hw1
    have smal : ∀ {Fa : Hp}, Same F6 Fa → Same F4 Fa := fun h => (sm.trans (Stp.al L5.R al1).fr).trans h
    cases b with
    | false =>
      obtain ⟨L7, _, _⟩ := lcg_turn (σc := σ2) (vc := vs1) R1 hD L5 al1 ho1 S7 (by rw [← hw1]; exact rs_wipe R7 vs1) (fun a z => by rw [← hw1] at z; exact owned_wipe z)
      exact ⟨F7, s7, acc5, L7, smal S7.fr, q7⟩
    | true =>
      refine ⟨F7, s7, _, R7, q7, fun y H8 F8 dy s8 R8 S8 ry q8 => ?_⟩
      obtain ⟨L8, no8, h08⟩ := lcg_turn (σc := σ2) (vc := vs1) R1 hD L5 al1 ho1 (S7.trans S8) (by rw [← hw1]; exact rs_wipe R8 vs1) (fun a z => by rw [← hw1] at z; exact owned_wipe z)
      obtain ⟨vacc, e1, e2⟩ := L8.dl
      exact ⟨vacc, e1, by rw [e2.length]; exact line_lt q8.1, F8, s8, acc5 ++ [dy], L8.push hD no8 h08 e1 e2 ry, smal (S7.fr.trans S8.fr), q8.2⟩
theorem td_lc2V {mi mi1 : MI} {mg mg1 : MG} {mt mt1 : MT} {me : ME} {vs vs1 : List Nat} (hv : ∀ i ∈ vs1, i ∈ vs) : ∀ σ H Q, tD K C (mLc2 mi mg mt mi1 mg1 mt1 me vs vs1) σ H Q → tLc2 (tDI K C mi) (tDGv K C vs mg) (tDT K C mt) (tDI K C mi1) (tDGv K C vs1 mg1) (tDT K C mt1) (tD K C me) vs vs1 σ H Q := by
  rintro σ H Q ⟨F, sd, Qd, R, h, k⟩
  refine td_lc2 hv R h fun Dl H' F' out vout sd' R' S h1 r hF h0 ho hn q => ?_
  obtain ⟨R2, rp⟩ := R'.freezeD h1 hF h0 ho r
  exact k _ H' _ _ sd' R2 (S.freezeD hF hn) rp q
variable {elt tg iter tg1 iter1 : Expr} {ifs ifs1 : List Expr} {scope : Scope} {pos : Pos} {mi mi1 : MI} {mg mg1 : MG} {mt mt1 : MT} {me : ME} {vs vs1 : List Nat}
theorem pd_lc2 (hv : ∀ i ∈ vs1, i ∈ vs) (t : PE X (.ListComp elt [⟨tg, iter, ifs, 0⟩, ⟨tg1, iter1, ifs1, 0⟩] scope pos) (tLc2 (tDI X.K C mi) (tDGv X.K C vs mg) (tDT X.K C mt) (tDI X.K C mi1) (tDGv X.K C vs1 mg1) (tDT X.K C mt1) (tD X.K C me) vs vs1)) : PE X (.ListComp elt [⟨tg, iter, ifs, 0⟩, ⟨tg1, iter1, ifs1, 0⟩] scope pos) (tD X.K C (mLc2 mi mg mt mi1 mg1 mt1 me vs vs1)) := pe_imp t (td_lc2V hv)
theorem pds_setLc2 (hv : ∀ i ∈ vs1, i ∈ vs) {y : Expr} {spos : Pos} {i : Nat} (t : PS X (.Assign [y] (.ListComp elt [⟨tg, iter, ifs, 0⟩, ⟨tg1, iter1, ifs1, 0⟩] scope pos) spos) (tAsg (tLc2 (tDI X.K C mi) (tDGv X.K C vs mg) (tDT X.K C mt) (tDI X.K C mi1) (tDGv X.K C vs1 mg1) (tDT X.K C mt1) (tD X.K C me) vs vs1) (gName i))) :
    PS X (.Assign [y] (.ListComp elt [⟨tg, iter, ifs, 0⟩, ⟨tg1, iter1, ifs1, 0⟩] scope pos) spos) (tDS X.K C (mAsg (mLc2 mi mg mt mi1 mg1 mt1 me vs vs1) (mgName i))) := ps_imp t (by
  rintro D σ H ⟨F, sd, Dd, R, E, h⟩
  refine td_lc2V hv σ H _ ⟨F, sd, _, R, h, fun v H1 F1 d sd1 R1 S1 r q => ?_⟩
  exact E.nx F1 H1 _ _ S1.fr (R1.setva r) q)
end
end DL
namespace DL
open PySem PySem.Spec PyProof.Rows L2
def CDivZ (i j : Int) : Prop := j ≠ 0 ∧ j.natAbs.log2 < 9000
theorem op_fdivZ {X : Cx} : OpR X (binaryOp .FloorDiv) (rI CDivZ fun i j => .int (i.fdiv j)) := opI fun i j _ _ _ _ _ hc q => floordiv_int hc.1 q (.inl (PyProof.noPylong_of_log2 hc.2))
def opFdivZ : PyData → PyData → Option PyData
  | .int a, .int b => if b ≠ 0 ∧ b.natAbs.log2 < 9000 then some (.int (a.fdiv b)) else none
  | _, _ => none
theorem rl_fdivZ {K : PySem.W.Frag} : RL2 K (rI CDivZ fun i j => V.int (i.fdiv j)) opFdivZ := by
  intro F H x y a b z Q e _ rx ry h k
  unfold opFdivZ at h
  split at h
  · cases rx; cases ry
    split at h
    · rename_i hs
      cases h
      exact ⟨_, _, rfl, rfl, hs, k _ F H .id (.int _)⟩
    · cases h
  · cases h
theorem opFdivZ_ok {a b : Int} {k : Nat} (h : b ≠ 0) (hb : sz k b) (hk : k < 9000) : opFdivZ (.int a) (.int b) = some (.int (a.fdiv b)) := by
  have := sz_log hb
  show (if b ≠ 0 ∧ b.natAbs.log2 < 9000 then _ else _) = _
  rw [if_pos ⟨h, by omega⟩]
/-- a comprehension with two fors by what each pair gives -/
theorem lc2L_run {mg mg1 : MG} {mt mt1 : MT} {mi1 : MI} {me : ME} {vs vs1 : List Nat} {Q : List PyData → DSt → Prop} (I : DSt → Prop) (k : PyData → PyData → Option PyData) (ds1 : List PyData) : ∀ ds : List PyData,
    (∀ d ∈ ds, ∀ s, I s → ∀ (N : List PyData → DSt → Prop) (acc : List PyData), acc.length + ds1.length ≤ 100000 → (∀ s', I s' → N (acc ++ ds1.filterMap (k d)) s') →
      mg d (swipe s vs) fun s1 => mt s1 fun b s2 => if b = true then mi1 s2 fun ds2 s3 => unOwn s3 vs1 = true ∧ lcL mg1 mt1 me vs1 (fun acc' s4 => N acc' (swipe s4 vs1)) ds2 s3 acc else N acc s2) →
    ∀ s acc, I s → acc.length + ds.length * ds1.length ≤ 100000 → (∀ s', I s' → Q (acc ++ ds.flatMap fun d => ds1.filterMap (k d)) s') → lc2L mg mt mi1 mg1 mt1 me vs vs1 Q ds s acc
  | [], _, s, acc, hI, _, q => by
    have := q s hI
    simpa [lc2L] using this
  | d :: ds, h, s, acc, hI, hl, q => by
    have e : (d :: ds).length * ds1.length = ds1.length + ds.length * ds1.length := by rw [List.length_cons, Nat.succ_mul, Nat.add_comm]
    rw [e] at hl
    refine h d (by simp) s hI (fun acc' s' => lc2L mg mt mi1 mg1 mt1 me vs vs1 Q ds s' acc') acc (by omega) fun s' hI' => ?_
    refine lc2L_run I k ds1 ds (fun d' hd' => h d' (by simp [hd'])) s' _ hI' ?_ fun s'' hI'' => ?_
    · have := List.length_filterMap_le (k d) ds1
      rw [List.length_append]
      omega
    · have := q s'' hI''
      rw [List.append_assoc]
      simpa using this
/-- min(a list of ints), not empty -/
def bMinL : List PyData → Option PyData
  | [.list xs] => match ints? xs with
    | some (n :: ns) => some (.int (ns.foldl min n))
    | _ => none
  | _ => none
theorem foldl_min : ∀ (ns : List Int) (n : Int), (ns.foldl min n ∈ n :: ns) ∧ ∀ a ∈ n :: ns, ns.foldl min n ≤ a
  | [], n => ⟨by simp, fun a ha => by simp at ha; subst ha; exact Int.le_refl _⟩
  | m :: ns, n => by
    obtain ⟨h1, h2⟩ := foldl_min ns (min n m)
    rw [List.foldl_cons]
    refine ⟨?_, fun a ha => ?_⟩
    · rcases List.mem_cons.mp h1 with h | h
      · rw [h]
        by_cases c : n ≤ m
        · rw [Int.min_eq_left c]; simp
        · rw [Int.min_eq_right (by omega)]; simp
      · simp [h]
    · have h0 := h2 (min n m) (by simp)
      rcases List.mem_cons.mp ha with rfl | ha
      · exact Int.le_trans h0 (Int.min_le_left _ _)
      · rcases List.mem_cons.mp ha with rfl | ha
        · exact Int.le_trans h0 (Int.min_le_right _ _)
        · exact h2 a (by simp [ha])
theorem rc_minL {K : PySem.W.Frag} : RLC K (rMin K) bMinL := by
  intro F H xs as z Q e _ rx h k
  unfold bMinL at h
  split at h
  · obtain ⟨x, rfl, r⟩ := rpA1 rx
    cases r with
    | lst h1 r1 =>
      split at h
      · rename_i n ns hn
        cases h
        rw [ints_rp r1 hn] at h1
        refine ⟨_, n :: ns, rfl, .inl (.inl (e _ _ h1)), by simp, fun m hm hle => ?_⟩
        obtain ⟨f1, f2⟩ := foldl_min ns n
        have : m = ns.foldl min n := by
          have a1 := hle _ f1
          have a2 := f2 _ hm
          omega
        rw [this]
        exact k _ F H .id (.int _)
      · cases h
  · cases h
end DL
namespace DL
open PySem PySem.Spec PyProof.Rows L2
def zipL3 : List PyData → List PyData → List PyData → List PyData
  | x :: xs, y :: ys, z :: zs => .tuple [x, y, z] :: zipL3 xs ys zs
  | _, _, _ => []
def miZip3 (ma : MA) : MI := fun sd Q => ma sd fun ds s1 => ∃ xs ys zs, ds = [.tuple xs, .tuple ys, .tuple zs] ∧ Q (zipL3 xs ys zs) s1
/-- the tuples at a, b, c as they stand at each turn, the items in new triples -/
def Itz3 (K : PySem.W.Frag) (a b c : Addr) : It :=
  ⟨fun i H => ∃ (xs ys zs : List V) (x y z : V), SqT K H a xs ∧ SqT K H b ys ∧ SqT K H c zs ∧ xs[i]? = some x ∧ ys[i]? = some y ∧ zs[i]? = some z,
    fun i H v H' => ∃ T x y z, v = .ref T ∧ H T = none ∧ H' = upd H T (.tup [x, y, z]) ∧ (∀ xs, SqT K H a xs → xs[i]? = some x) ∧ (∀ ys, SqT K H b ys → ys[i]? = some y) ∧ ∀ zs, SqT K H c zs → zs[i]? = some z,
    fun i H => ∃ xs ys zs : List V, SqT K H a xs ∧ SqT K H b ys ∧ SqT K H c zs ∧ i = min xs.length (min ys.length zs.length)⟩
theorem turn_zip3 {P : Program} {w : World} {K : PySem.W.Frag} {elts : List Expr} {kk : Nat} {tpos : Pos} {a b c z TI TO i1 i2 i3 : Addr} (S : ZipSep3 z TI TO i1 i2 i3 [i1, a] [i2, b] [i3, c]) :
    Turn P w K (.Tuple elts kk tpos) (Itz3 K a b c) [z, TI, TO, i1, i2, i3] z (fun i h => IsZip h z TI TO .none ∧ IsTupOf3 h TI (.ref i1) (.ref i2) (.ref i3) ∧ (∃ a1 a2 a3, IsTupOf3 h TO a1 a2 a3) ∧ h.IsTupleIter i1 a i ∧ h.IsTupleIter i2 b i ∧ h.IsTupleIter i3 c i) where
  mem := by simp
  obj := fun i h st d hd => by
    obtain ⟨hz, hTI, ⟨a1, a2, a3, hTO⟩, ⟨o1, e1, _, d1⟩, ⟨o2, e2, _, d2⟩, ⟨o3, e3, _, d3⟩⟩ := st
    have e' : d = z ∨ d = TI ∨ d = TO ∨ d = i1 ∨ d = i2 ∨ d = i3 := by simpa using hd
    rcases e' with q | q | q | q | q | q
    · rw [q]; exact ⟨_, hz, fun v q => nomatch q⟩
    · rw [q]; exact ⟨_, hTI, fun v q => nomatch q⟩
    · rw [q]; exact ⟨_, hTO, fun v q => nomatch q⟩
    · rw [q]; exact ⟨o1, e1, fun v q => by rw [d1] at q; cases q⟩
    · rw [q]; exact ⟨o2, e2, fun v q => by rw [d2] at q; cases q⟩
    · rw [q]; exact ⟨o3, e3, fun v q => by rw [d3] at q; cases q⟩
  keep := fun i h h' st k => by
    obtain ⟨hz, hTI, ⟨a1, a2, a3, hTO⟩, h1, h2, h3⟩ := st
    exact ⟨k z (by simp) _ hz, k TI (by simp) _ hTI, ⟨a1, a2, a3, k TO (by simp) _ hTO⟩, h1.at fun o q => k i1 (by simp) o q, h2.at fun o q => k i2 (by simp) o q, h3.at fun o q => k i3 (by simp) o q⟩
  item := by
    intro X hP hw hK hc i pins s σ H E I hf st hg
    subst hP hw hK
    obtain ⟨hz, hTI, ⟨a1, a2, a3, hTO⟩, h1, h2, h3⟩ := st
    obtain ⟨xs, ys, zs, x, y, zz, hqx, hqy, hqz, hx, hy, hzz⟩ := hg
    obtain ⟨its1, rv1, p1, _⟩ := I.tuple hqx
    obtain ⟨its2, rv2, p2, _⟩ := I.tuple hqy
    obtain ⟨its3, rv3, p3, _⟩ := I.tuple hqz
    obtain ⟨u1, hu1, ru1⟩ := rv1.get hx
    obtain ⟨u2, hu2, ru2⟩ := rv2.get hy
    obtain ⟨u3, hu3, ru3⟩ := rv3.get hzz
    obtain ⟨hl1, -⟩ := List.getElem?_eq_some_iff.mp hu1
    obtain ⟨hl2, -⟩ := List.getElem?_eq_some_iff.mp hu2
    obtain ⟨hl3, -⟩ := List.getElem?_eq_some_iff.mp hu3
    have hzl : z < s.heap.objs.size := Heap.lt_size hz
    have hh : X.A.in1.handled = none := I.ok.hd hc
    have nt : ∀ {i a : Addr} {its : Array Value} {k : Nat}, s.heap.IsTuple a its → s.heap.IsTupleIter i a k → a ≠ i := fun {i a its k} p h e => by
      obtain ⟨o, ho, _⟩ := p; obtain ⟨o', ho', hc', _⟩ := h; subst e; rw [ho] at ho'; cases ho'; simp_all
    have D1 := Draws.tuple (prog := X.prog) (w := X.w) (A := X.A.in1) hh i1 a (nt p1 h1) its1.toArray
    have D2 := Draws.tuple (prog := X.prog) (w := X.w) (A := X.A.in1) hh i2 b (nt p2 h2) its2.toArray
    have D3 := Draws.tuple (prog := X.prog) (w := X.w) (A := X.A.in1) hh i3 c (nt p3 h3) its3.toArray
    refine wpAny_pyNext_zipD3_item S D1 D2 D3 hz hTI hTO ⟨h1, p1⟩ ⟨h2, p2⟩ ⟨h3, p3⟩ (by simpa using hl1) (by simpa using hl2) (by simpa using hl3) fun x1 x2 x3 h' tk q1 q2 q3 z' TO' h1' h2' h3' hT hsz hk => ?_
    have ex : ∀ {its : List Value} {v u : Value}, its.toArray[i]? = some v → its[i]? = some u → v = u := fun {its v u} a b => by
      have : its[i]? = some v := by simpa using a
      rw [b] at this
      exact (Option.some.inj this).symm
    obtain rfl := ex q1 hu1
    obtain rfl := ex q2 hu2
    obtain rfl := ex q3 hu3
    refine ⟨_, rfl, wpAny_letOwnedTupleGo_zip (s := { s with heap := h', toks := tk }) z' fun h'' z'' sb => ?_⟩
    have hT2 : h''.get? s.heap.objs.size = some { cls := .type "tuple", data := .seq #[x1, x2, x3] } := (sb.2 _ (Nat.ne_of_gt hzl)).trans hT
    have new : ObjOk X.prog X.w (upd H s.heap.objs.size (.tup [x, y, zz])) h'' s.heap.objs.size (.tup [x, y, zz]) :=
      ⟨by show 3 ≤ sizeLine; decide, [x1, x2, x3], .cons ru1 (.cons ru2 (.cons ru3 .nil)), ⟨_, hT2, rfl, _, rfl⟩⟩
    have I1 : L2.Inv X pins σ (upd H s.heap.objs.size (.tup [x, y, zz])) { s with heap := h'', toks := tk } :=
      I.turnedNew (ch := [z, TI, TO, i1, i2, i3]) (fun c o hb q => (sb.2 c (fun q' => hb (by simp [q']))).trans (hk c o (fun q' => hb (by simp [q'])) (fun q' => hb (by simp [q'])) (fun q' => hb (by simp [q'])) (fun q' => hb (by simp [q'])) (fun q' => hb (by simp [q'])) q)) hf (Nat.le_refl _) new
    refine ⟨.ref s.heap.objs.size, _, I1, rfl, ⟨_, x, y, zz, rfl, I.hok.fresh (Nat.le_refl _), rfl, fun l hl => by rw [I.tuple_inj hl hqx]; exact hx, fun l hl => by rw [I.tuple_inj hl hqy]; exact hy, fun l hl => by rw [I.tuple_inj hl hqz]; exact hzz⟩, ⟨z'', ?_, ⟨x1, x2, x3, ?_⟩, ?_, ?_, ?_⟩, fun d hcm => ?_⟩
    · exact (sb.2 _ S.TIz).trans (hk _ _ S.TIz S.TITO S.TIi1 S.TIi2 S.TIi3 hTI)
    · exact (sb.2 _ S.TOz).trans TO'
    · exact h1'.1.at fun o q => (sb.2 _ S.zi1.symm).trans q
    · exact h2'.1.at fun o q => (sb.2 _ S.zi2.symm).trans q
    · exact h3'.1.at fun o q => (sb.2 _ S.zi3.symm).trans q
    · have hlt : d < s.heap.objs.size := by
        have e' : d = z ∨ d = TI ∨ d = TO ∨ d = i1 ∨ d = i2 ∨ d = i3 := by simpa using hcm
        rcases e' with q | q | q | q | q | q
        · rw [q]; exact hzl
        · rw [q]; exact Heap.lt_size hTI
        · rw [q]; exact Heap.lt_size hTO
        · rw [q]; obtain ⟨_, e1, _⟩ := h1; exact Heap.lt_size e1
        · rw [q]; obtain ⟨_, e2, _⟩ := h2; exact Heap.lt_size e2
        · rw [q]; obtain ⟨_, e3, _⟩ := h3; exact Heap.lt_size e3
      rw [upd_ne (Nat.ne_of_lt hlt)]
      exact (hf d hcm).1
  done := by
    intro X hP hw hK hc i pins s σ H E I hf st hg
    subst hP hw hK
    obtain ⟨hz, hTI, ⟨a1, a2, a3, hTO⟩, h1, h2, h3⟩ := st
    obtain ⟨xs, ys, zs, hqx, hqy, hqz, hend⟩ := hg
    obtain ⟨its1, rv1, p1, _⟩ := I.tuple hqx
    obtain ⟨its2, rv2, p2, _⟩ := I.tuple hqy
    obtain ⟨its3, rv3, p3, _⟩ := I.tuple hqz
    have l1 := rv1.length
    have l2 := rv2.length
    have l3 := rv3.length
    have s1 : its1.toArray.size = xs.length := by simp; omega
    have s2 : its2.toArray.size = ys.length := by simp; omega
    have s3 : its3.toArray.size = zs.length := by simp; omega
    have hh : X.A.in1.handled = none := I.ok.hd hc
    have nt : ∀ {i a : Addr} {its : Array Value} {k : Nat}, s.heap.IsTuple a its → s.heap.IsTupleIter i a k → a ≠ i := fun {i a its k} p h e => by
      obtain ⟨o, ho, _⟩ := p; obtain ⟨o', ho', hc', _⟩ := h; subst e; rw [ho] at ho'; cases ho'; simp_all
    have D1 := Draws.tuple (prog := X.prog) (w := X.w) (A := X.A.in1) hh i1 a (nt p1 h1) its1.toArray
    have D2 := Draws.tuple (prog := X.prog) (w := X.w) (A := X.A.in1) hh i2 b (nt p2 h2) its2.toArray
    have D3 := Draws.tuple (prog := X.prog) (w := X.w) (A := X.A.in1) hh i3 c (nt p3 h3) its3.toArray
    exact wpAny_pyNext_zipD3_end S D1 D2 D3 hz hTI hTO ⟨h1, p1⟩ ⟨h2, p2⟩ ⟨h3, p3⟩ (by omega) (by omega) (by omega) (by omega) fun h' tk hk => ⟨rfl, I.turnedL (t' := tk) (ch := [z, TI, TO, i1, i2, i3]) (fun c o hb q =>
      hk c o (fun q' => hb (by simp [q'])) (fun q' => hb (by simp [q'])) (fun q' => hb (by simp [q'])) (fun q' => hb (by simp [q'])) (fun q' => hb (by simp [q'])) q) hf⟩
  self := fun A i s Q E st h => wpAny_pyIter_zip st.1 h
def YTri (xs ys zs : Nat → Option V) : Nat → Hp → V → Hp → Prop := fun i H v H' => ∃ T x y z, v = .ref T ∧ H T = none ∧ H' = upd H T (.tup [x, y, z]) ∧ xs i = some x ∧ ys i = some y ∧ zs i = some z
theorem walk_zip3 {K : PySem.W.Frag} {a b c : Addr} {xs ys zs : List V} : Walk (Itz3 K a b c) (min xs.length (min ys.length zs.length)) (fun H => SqT K H a xs ∧ SqT K H b ys ∧ SqT K H c zs) (YTri (fun i => xs[i]?) (fun i => ys[i]?) (fun i => zs[i]?)) := by
  refine ⟨fun i _ hi q => ?_, fun _ q => ⟨xs, ys, zs, q.1, q.2.1, q.2.2, rfl⟩, fun i H v H' _ q y => ?_⟩
  · have h1 : i < xs.length := by omega
    have h2 : i < ys.length := by omega
    have h3 : i < zs.length := by omega
    exact ⟨xs, ys, zs, xs[i], ys[i], zs[i], q.1, q.2.1, q.2.2, by simp [h1], by simp [h2], by simp [h3]⟩
  · obtain ⟨T, x, y, z, h1, h2, h3, h4, h5, h6⟩ := y
    exact ⟨T, x, y, z, h1, h2, h3, h4 xs q.1, h5 ys q.2.1, h6 zs q.2.2⟩
theorem tri_al {K : PySem.W.Frag} {F H H' : Hp} {T : Addr} {x y z : V} {d e f : PyData} (hT : H T = none) (e2 : Same F H) (hH : H' = upd H T (.tup [x, y, z])) (r1 : Rp K F x d) (r2 : Rp K F y e) (r3 : Rp K F z f) : ∃ F', Al F H F' H' ∧ Rp K F' (.ref T) (.tuple [d, e, f]) := by
  subst hH
  have s := same_new (o := .tup [x, y, z]) (free_of e2 hT)
  exact ⟨_, .new hT, .tup (.inl (.inl upd_same)) (.cons (r1.mono s) (.cons (r2.mono s) (.cons (r3.mono s) .nil)))⟩
theorem zipL3_len : ∀ (l m n : List PyData), (zipL3 l m n).length = min l.length (min m.length n.length)
  | [], m, n => by simp [zipL3]
  | a :: l, [], n => by simp [zipL3]
  | a :: l, b :: m, [] => by simp [zipL3]
  | a :: l, b :: m, c :: n => by simp only [zipL3, List.length_cons, zipL3_len]; omega
theorem zipL3_get : ∀ (l m n : List PyData) (i : Nat) (a b c : PyData), l[i]? = some a → m[i]? = some b → n[i]? = some c → (zipL3 l m n)[i]? = some (.tuple [a, b, c])
  | [], m, n, i, a, b, c, h, _, _ => by simp at h
  | a' :: l, [], n, i, a, b, c, _, h, _ => by simp at h
  | a' :: l, b' :: m, [], i, a, b, c, _, _, h => by simp at h
  | a' :: l, b' :: m, c' :: n, 0, a, b, c, h1, h2, h3 => by simp at h1 h2 h3; subst h1 h2 h3; rfl
  | a' :: l, b' :: m, c' :: n, i + 1, a, b, c, h1, h2, h3 => by
    simp at h1 h2 h3
    simp only [zipL3]
    rw [List.getElem?_cons_succ]
    exact zipL3_get l m n i a b c h1 h2 h3
section
variable {X : Cx} {C : Ct}
def iZip3 (K : PySem.W.Frag) (ta : TA) : TI := fun σ H R => ta σ H fun vs H1 => ∃ a b c xs ys zs, vs = [.ref a, .ref b, .ref c] ∧ SqT K H1 a xs ∧ SqT K H1 b ys ∧ SqT K H1 c zs ∧ R (Itz3 K a b c) H1
theorem pi_zip3 {e e2 e3 : Expr} {ta : TA} {p pos tpos : Pos} {elts : List Expr} {kk : Nat} (hg : Gl X "zip") (hm : X.mg "zip" = none) (ha : PA X [e, e2, e3] ta)
    (hs : starEach [e, e2, e3] X.env = (false, eval e X.env) :: starEach [e2, e3] X.env := by rfl) (hpl : (backTo pos (starEach [e2, e3] X.env)).any (·.1) = false := by rfl) :
    PI X (.Tuple elts kk tpos) (.Call (.Name "zip" p) [e, e2, e3] [] pos) (iZip3 X.K ta) := by
  refine ⟨fun pins s σ H R I h => ?_⟩
  refine Call_ (ld_blt I hg hm PyProof.Rows.boot_zip (PyProof.Rows.callWith_type1 (thn (ha.run pos pins s σ H _ I h) fun us s1 ⟨vs, H1, I1, r1, q1⟩ => ?_) hs hpl))
  obtain ⟨a, b, c, xs, ys, zs, ex, hqx, hqy, hqz, q⟩ := q1
  subst ex
  cases r1 with
  | cons r rr =>
    cases rr with
    | cons r' rr =>
      cases rr with
      | cons r'' rr =>
        cases rr
        cases r
        cases r'
        cases r''
        have fresh6 : ∀ d, d ∈ [s1.heap.objs.size + 5, s1.heap.objs.size + 3, s1.heap.objs.size + 4, s1.heap.objs.size, s1.heap.objs.size + 1, s1.heap.objs.size + 2] → FpOk X pins H1 d := fun d hcm => by
          have e' : d = s1.heap.objs.size + 5 ∨ d = s1.heap.objs.size + 3 ∨ d = s1.heap.objs.size + 4 ∨ d = s1.heap.objs.size ∨ d = s1.heap.objs.size + 1 ∨ d = s1.heap.objs.size + 2 := by simpa using hcm
          have hle : s1.heap.objs.size ≤ d := by
            rcases e' with z | z | z | z | z | z
            · rw [z]; exact Nat.le_add_right _ _
            · rw [z]; exact Nat.le_add_right _ _
            · rw [z]; exact Nat.le_add_right _ _
            · rw [z]; exact Nat.le_refl _
            · rw [z]; exact Nat.le_add_right _ _
            · rw [z]; exact Nat.le_add_right _ _
          exact I1.fpOk hle (I1.hok.fresh hle)
        obtain ⟨its1, rv1, p1, _⟩ := I1.tuple hqx
        obtain ⟨its2, rv2, p2, _⟩ := I1.tuple hqy
        obtain ⟨its3, rv3, p3, _⟩ := I1.tuple hqz
        have lt1 : a < s1.heap.objs.size := by obtain ⟨o, ho, _⟩ := id p1; exact Heap.lt_size ho
        have lt2 : b < s1.heap.objs.size := by obtain ⟨o, ho, _⟩ := id p2; exact Heap.lt_size ho
        have lt3 : c < s1.heap.objs.size := by obtain ⟨o, ho, _⟩ := id p3; exact Heap.lt_size ho
        refine zip_begins3 (begins_tuple a its1.toArray) (begins_tuple b its2.toArray) (begins_tuple c its3.toArray) p1 p2 p3 fun h' hz hTI hTO h1 h2 h3 hsz hk => wpAny_pyIter_zip hz ?_
        have I2 : L2.Inv X pins σ H1 { s1 with heap := h' } := I1.kept (t' := s1.toks) hk
        have sep : ZipSep3 (s1.heap.objs.size + 5) (s1.heap.objs.size + 3) (s1.heap.objs.size + 4) s1.heap.objs.size (s1.heap.objs.size + 1) (s1.heap.objs.size + 2) [s1.heap.objs.size, a] [s1.heap.objs.size + 1, b] [s1.heap.objs.size + 2, c] :=
          zip_sep3 (fp1 := [a]) (fp2 := [b]) (fp3 := [c]) (fun d h => by rw [List.mem_singleton.mp h]; exact lt1) (fun d h => by rw [List.mem_singleton.mp h]; exact lt2) (fun d h => by rw [List.mem_singleton.mp h]; exact lt3)
        exact ⟨s1.heap.objs.size + 5, [s1.heap.objs.size + 5, s1.heap.objs.size + 3, s1.heap.objs.size + 4, s1.heap.objs.size, s1.heap.objs.size + 1, s1.heap.objs.size + 2], _, _, H1, rfl, I2, turn_zip3 sep, ⟨hz, hTI, ⟨_, _, _, hTO⟩, ⟨_, h1, rfl, rfl⟩, ⟨_, h2, rfl, rfl⟩, ⟨_, h3, rfl, rfl⟩⟩, fresh6, q⟩
theorem pdi_zip3 {elts : List Expr} {kk : Nat} {tpos : Pos} {e e2 e3 : Expr} {p pos : Pos} {m : MA} (t : PI X (.Tuple elts kk tpos) (.Call (.Name "zip" p) [e, e2, e3] [] pos) (iZip3 X.K (tDA X.K C m))) :
    PI X (.Tuple elts kk tpos) (.Call (.Name "zip" p) [e, e2, e3] [] pos) (tDI X.K C (miZip3 m)) := pi_imp t (by
  rintro σ H R0 ⟨F, sd, Qd, R, h, k⟩
  refine ⟨F, sd, _, R, h, fun vs H1 F1 ds sd1 R1 S1 rs q => ?_⟩
  obtain ⟨xs, ys, zs, rfl, q⟩ := q
  cases rs with
  | cons r rs =>
    cases rs with
    | cons r' rs =>
      cases rs with
      | cons r'' rs =>
        cases rs
        cases r with
        | @tup a xs' _ h1 r1 =>
          cases r' with
          | @tup b ys' _ h2 r2 =>
            cases r'' with
            | @tup c zs' _ h3 r3 =>
              refine ⟨_, _, _, _, _, _, rfl, same_t R1.ext h1, same_t R1.ext h2, same_t R1.ext h3, k _ H1 F1 _ sd1 R1 S1 ?_ q⟩
              have hl : (zipL3 xs ys zs).length = min xs'.length (min ys'.length zs'.length) := by rw [zipL3_len, r1.length, r2.length, r3.length]
              refine ⟨fun H => SqT X.K H a xs' ∧ SqT X.K H b ys' ∧ SqT X.K H c zs', YTri (fun i => xs'[i]?) (fun i => ys'[i]?) (fun i => zs'[i]?), by rw [hl]; exact walk_zip3, fun H e => ⟨same_t e h1, same_t e h2, same_t e h3⟩, fun i H x H' F' hi e1 e2 y => ?_⟩
              obtain ⟨T, x1, x2, x3, rfl, hT, hH, y1, y2, y3⟩ := y
              obtain ⟨d1, hd1, rd1⟩ := rpA_at r1 y1
              obtain ⟨d2, hd2, rd2⟩ := rpA_at r2 y2
              obtain ⟨d3, hd3, rd3⟩ := rpA_at r3 y3
              obtain ⟨F2, al, rr⟩ := tri_al hT e2 hH (rd1.mono e1) (rd2.mono e1) (rd3.mono e1)
              exact ⟨F2, _, al, zipL3_get _ _ _ _ _ _ _ hd1 hd2 hd3, rr⟩)
end
end DL
namespace DL
open PySem PySem.Spec PyProof.Rows L2
/-- a op b op' c op'' d -/
def tChain3 (r r' r'' : R2) (ta tb tc td : TE) : TE := fun σ H Q => ta σ H fun x H1 => tb σ H1 fun y H2 => r x y H2 fun z H3 => ∃ k, z = .bl k ∧
  (if k = true then tc σ H3 fun w H4 => r' y w H4 fun z2 H5 => ∃ k2, z2 = .bl k2 ∧ (if k2 = true then td σ H5 fun u H6 => r'' w u H6 Q else Q (.bl false) H5) else Q (.bl false) H3)
def mChain3 (f g h : PyData → PyData → Option PyData) (ma mb mc md : ME) : ME := fun sd Q => ma sd fun a s1 => mb s1 fun b s2 => ∃ c, f a b = some (.bool c) ∧
  if c = true then mc s2 fun d s3 => ∃ c2, g b d = some (.bool c2) ∧ if c2 = true then md s3 fun e s4 => ∃ r, h d e = some r ∧ Q r s4 else Q (.bool false) s3 else Q (.bool false) s2
section
variable {K : PySem.W.Frag} {X : Cx} {C : Ct}
theorem pe_chain3 {op op' op'' : CmpOp} {r r' r'' : R2} {a b c d : Expr} {ta tb tc td : TE} {pos : Pos} (ho : OpR X (compareOp op) r) (ho' : OpR X (compareOp op') r') (ho'' : OpR X (compareOp op'') r'') (ha : PE X a ta) (hb : PE X b tb) (hc : PE X c tc) (hd : PE X d td)
    (hm : lastMarks [op, op', op''] [b, c, d] = false := by with_unfolding_all rfl) : PE X (.Compare a [op, op', op''] [b, c, d] pos) (tChain3 r r' r'' ta tb tc td) := by
  refine ⟨fun pins s σ H Q I h => ?_⟩
  refine Compare_chain (thn (ha.run pins s σ H _ I h) fun v s1 ⟨x, H1, I1, r1, q1⟩ => chain_link (thn (hb.run pins s1 σ H1 _ I1 q1) fun u s2 ⟨y, H2, I2, r2, q2⟩ =>
    thn (ho pins s2 σ H2 x y v u _ I2 r1 r2 q2) fun d0 s3 ⟨z, H3, I3, r3, k, e, q3⟩ => ?_)) hm
  subst e
  cases r3
  refine wpAny_truthy_bool ?_
  cases k with
  | false => exact ite_ff ⟨.bl false, H3, I3, rfl, q3⟩
  | true =>
    refine ite_tt (chain_link (thn (hc.run pins s3 σ H3 _ I3 q3) fun w' s4 ⟨z', H4, I4, r4, q4⟩ => thn (ho' pins s4 σ H4 y z' u w' _ I4 r2 r4 q4) fun d1 s5 ⟨z2, H5, I5, r5, k2, e2, q5⟩ => ?_))
    subst e2
    cases r5
    refine wpAny_truthy_bool ?_
    cases k2 with
    | false => exact ite_ff ⟨.bl false, H5, I5, rfl, q5⟩
    | true => exact ite_tt (chain_last (thn (hd.run pins s5 σ H5 _ I5 q5) fun w2 s6 ⟨z3, H6, I6, r6, q6⟩ => ho'' pins s6 σ H6 z' z3 w' w2 Q I6 r4 r6 q6))
theorem pd_chain3 {op op' op''} {r r' r'' : R2} {f g f3 : PyData → PyData → Option PyData} {a b c d : Expr} {ma mb mc md : ME} {pos : Pos} (ho : OpR X (compareOp op) r) (ho' : OpR X (compareOp op') r') (ho'' : OpR X (compareOp op'') r'') (L : RL2 X.K r f) (L' : RL2 X.K r' g) (L'' : RL2 X.K r'' f3)
    (ha : PE X a (tD X.K C ma)) (hb : PE X b (tD X.K C mb)) (hc : PE X c (tD X.K C mc)) (hd : PE X d (tD X.K C md)) (hm : lastMarks [op, op', op''] [b, c, d] = false := by with_unfolding_all rfl) :
    PE X (.Compare a [op, op', op''] [b, c, d] pos) (tD X.K C (mChain3 f g f3 ma mb mc md)) := pe_imp (pe_chain3 ho ho' ho'' ha hb hc hd hm) (by
  rintro σ H Q ⟨F, sd, Qd, R, h, k⟩
  refine ⟨F, sd, _, R, h, fun x H1 F1 a sd1 R1 S1 rx h1 => ⟨F1, sd1, _, R1, h1, fun y H2 F2 b sd2 R2 S2 ry h2 => ?_⟩⟩
  obtain ⟨cc, e, q⟩ := h2
  refine L F2 H2 x y a b (.bool cc) _ R2.ext (fun p => R2.free) (rx.mono S2.fr) ry e fun v F' H' al rz => ?_
  cases rz
  refine ⟨cc, rfl, ?_⟩
  have S' := (S1.trans S2).trans (.al R2 al)
  cases cc with
  | false => exact k (.bl false) H' F' _ sd2 (R2.al al) S' (.bl false) q
  | true =>
    refine ⟨F', sd2, _, R2.al al, q, fun w H3 F3 d sd3 R3 S3 rw_ h3 => ?_⟩
    obtain ⟨cc2, e2, q2⟩ := h3
    refine L' F3 H3 y w b d (.bool cc2) _ R3.ext (fun p => R3.free) (ry.mono ((Stp.al R2 al).fr.trans S3.fr)) rw_ e2 fun v F4 H4 al2 rz2 => ?_
    cases rz2
    refine ⟨cc2, rfl, ?_⟩
    have S3' := (S'.trans S3).trans (.al R3 al2)
    cases cc2 with
    | false => exact k (.bl false) H4 F4 _ sd3 (R3.al al2) S3' (.bl false) q2
    | true =>
      refine ⟨F4, sd3, _, R3.al al2, q2, fun w2 H5 F5 d2 sd5 R5 S5 rw2 h5 => ?_⟩
      obtain ⟨z3, e3, q3⟩ := h5
      exact L'' F5 H5 w w2 d d2 z3 _ R5.ext (fun p => R5.free) (rw_.mono ((Stp.al R3 al2).fr.trans S5.fr)) rw2 e3 fun v F6 H6 al3 rz3 => k v H6 F6 z3 sd5 (R5.al al3) ((S3'.trans S5).trans (.al R5 al3)) rz3 q3)
end
def insI (x : Int) : List Int → List Int
  | [] => [x]
  | y :: ys => if x ≤ y then x :: y :: ys else y :: insI x ys
def srtI : List Int → List Int
  | [] => []
  | x :: xs => insI x (srtI xs)
theorem insI_perm (x : Int) : ∀ xs, (insI x xs).Perm (x :: xs)
  | [] => .refl _
  | y :: ys => by
    unfold insI
    split
    · exact .refl _
    · exact ((insI_perm x ys).cons y).trans (.swap x y ys)
theorem srtI_perm : ∀ xs, (srtI xs).Perm xs
  | [] => .refl _
  | x :: xs => (insI_perm x _).trans ((srtI_perm xs).cons x)
theorem insI_sorted (x : Int) : ∀ xs : List Int, xs.Pairwise (· ≤ ·) → (insI x xs).Pairwise (· ≤ ·)
  | [], _ => by unfold insI; exact List.pairwise_singleton _ _
  | y :: ys, h => by
    obtain ⟨h1, h2⟩ := List.pairwise_cons.mp h
    unfold insI
    split
    · rename_i le
      refine List.pairwise_cons.mpr ⟨fun z hz => ?_, h⟩
      rcases List.mem_cons.mp hz with rfl | hz
      · exact le
      · exact Int.le_trans le (h1 z hz)
    · rename_i le
      refine List.pairwise_cons.mpr ⟨fun z hz => ?_, insI_sorted x ys h2⟩
      rcases List.mem_cons.mp ((insI_perm x ys).mem_iff.mp hz) with rfl | hz
      · omega
      · exact h1 z hz
theorem srtI_sorted : ∀ xs : List Int, (srtI xs).Pairwise (· ≤ ·)
  | [] => List.Pairwise.nil
  | x :: xs => insI_sorted x _ (srtI_sorted xs)
theorem sorted_uniq : ∀ {xs ys : List Int}, xs.Perm ys → xs.Pairwise (· ≤ ·) → ys.Pairwise (· ≤ ·) → xs = ys := by
  intro xs ys p h1 h2
  exact p.eq_of_pairwise (le := (· ≤ ·)) (fun a b _ _ h1 h2 => by have : a ≤ b := h1; have : b ≤ a := h2; omega) h1 h2
def bSrtI : List PyData → Option PyData
  | [.list xs] => (ints? xs).map fun ns => .list ((srtI ns).map .int)
  | _ => none
section
variable {K : PySem.W.Frag}
theorem rpA_ints {F : Hp} : ∀ ns : List Int, RpA K F (ns.map V.int) (ns.map .int)
  | [] => .nil
  | n :: ns => .cons (.int n) (rpA_ints ns)
theorem rc_srtI : RLC K (rSortedI K) bSrtI := by
  intro F H xs as z Q e f rx h k
  unfold bSrtI at h
  split at h
  · obtain ⟨x, rfl, r⟩ := rpA1 rx
    rename_i ds
    cases en : ints? ds with
    | none => rw [en] at h; cases h
    | some ns =>
      rw [en] at h
      cases h
      cases r with
      | lst h1 r1 =>
        rw [ints_rp r1 en] at h1
        refine ⟨_, ns, rfl, .inl (.inl (e _ _ h1)), fun ns' p pm so hp => ?_⟩
        have : ns' = srtI ns := sorted_uniq (pm.trans (srtI_perm ns).symm) so (srtI_sorted ns)
        subst this
        exact k _ _ _ (.new hp) (.lst upd_same (rpA_ints _))
  · cases h
end
end DL
namespace DL
open PySem PySem.Spec PyProof.Rows L2
def mCallWT (spec : WSpec) (i : Nat) (me : ME) : ME := fun sd Q => mWell i me sd fun r s1 => ∃ n, r = .well n ∧ spec n [] fun r n' => ∃ d, fz r = some d ∧ Q d s1
section
variable {K : PySem.W.Frag} {X : Cx} {C : Ct} {F H F' H' F0 H0 : Hp} {σ : L2.St} {sd sd0 : DSt}
theorem Rs.postT {n' : Nat} {p : Addr} (R : Rs K C F H σ sd) (hp : ∃ o, H p = some o) (no : ¬ Owned σ sd p) (hc : C.H0 p = none) (hF : F p = none) (P : PostW K p F H F' H' n') (S1 : Stp σ sd0 F0 H0 F H sd) (h0 : H0 p = none) :
    Rs K C F' H' σ sd ∧ Stp σ sd0 F0 H0 F' H' sd := by
  obtain ⟨o0, hp⟩ := hp
  obtain ⟨a2, b2, c2, w1, w2⟩ := P.wl
  have ns : ∀ a, H' a = none → H a = none := fun a z => by
    by_cases za : a = p
    · subst za; rw [w1] at z; cases z
    · cases q : H a with
      | none => rfl
      | some o => rw [P.kp a o za q] at z; cases z
  refine ⟨⟨R.len, R.grow.trans P.fr, P.ext, fun a o q => ?_, fun a o q n => ?_, fun a z => R.still a (ns a z), fun j => ?_, R.sep⟩, ⟨S1.fr.trans P.fr, fun a o q n => ?_, S1.ow, fun a o q => ?_, fun a e => S1.st a (ns a e)⟩⟩
  · rcases P.nw a o q with q | q
    · exact R.new a o q
    · exact .inr (R.still a q)
  · refine P.kp a o (fun z => ?_) (R.keep a o q n)
    subst z
    rw [hc] at q; cases q
  · refine (R.slot j).grow P.fr fun q x ho eq eh en => ⟨P.kp q x (fun z => no (z ▸ ⟨j, ho, eq⟩)) eh, ?_⟩
    cases z : F' q with
    | none => rfl
    | some y =>
      rcases P.nw q y z with z | z
      · rw [en] at z; cases z
      · rw [eh] at z; cases z
  · refine P.kp a o (fun z => ?_) (S1.kp a o q n)
    subst z
    rw [h0] at q; cases q
  · rcases P.nw a o q with q | q
    · exact S1.nw a o q
    · exact .inr (.inl (S1.st a q))
theorem td_callWT {spec : WSpec} {i : Nat} {me : ME} {E : L2.St → XK} : ∀ σ H Q, tD K C (mCallWT spec i me) σ H Q → tCallG (spW K spec) E (tCons (tDR K C (mWell i me)) tNil) σ H Q := by
  rintro σ H Q ⟨F, sd, Qd, R, h, k⟩
  refine ⟨F, sd, _, R, h, fun v H1 F1 r sd1 R1 S1 rv nown fresh q => ?_⟩
  obtain ⟨n, rfl, q⟩ := q
  obtain ⟨p, a, b, c, e1, z2, z3, z4, z5⟩ := rv
  cases e1
  have nw := nown rfl p rfl
  have h0 := fresh rfl p rfl
  refine ⟨F1, p, [], n, a, b, c, [], _, rfl, R1.ext, z3, z2, z5, .nil, q, fun v H' F' r n' P ro q => ?_⟩
  obtain ⟨d, hf, q⟩ := q
  obtain ⟨R2, S2⟩ := R1.postT ⟨_, z2⟩ nw (R.still p h0) z3 P S1 h0
  obtain ⟨F2, R3, S3, rp⟩ := R2.res S2 ro (fun p hp => ⟨S1.st p hp, fun z => (R1.fresh hp).1 z, (R1.fresh hp).2⟩) hf
  exact k v H' F2 d _ R3 S3 rp q
theorem pd_callWT {spec : WSpec} {i : Nat} {me : ME} {x : Str} {p pos : Pos} {ew : Expr} {k j : Nat} {W : WX} (c : CalW X.prog X.w X.K X.mg X.base k x spec) (hr : RoomG j X.A) (hk : k ≤ j) (tk : Takes X W) (hy : PE X ew (tDR X.K C (mWell i me))) (hg : Gl X x := by rfl)
    (hdb : (x == ("__debug__" : Str)) = false := by decide) (he : starEach (ew :: []) X.env = (false, eval ew X.env) :: starEach [] X.env := by rfl) (hpl : (backTo pos (starEach [] X.env)).any (·.1) = false := by rfl) :
    PE X (.Call (.Name x p) [ew] [] pos) (tD X.K C (mCallWT spec i me)) := by
  obtain ⟨f, fd, ps, F, hm, hkp, hb⟩ := c.ex
  exact pe_imp (pe_callG F (hr.mono hk) hg hm hkp hb (passAt tk) (pa_cons hy pa_nil he) hdb he hpl) td_callWT
end
end DL
namespace DL
open PySem PySem.Spec PyProof.Rows L2
/-- xs[e] of a list that nobody else holds, which stays so -/
def mIxOwn (i : Nat) (me : ME) : ME := fun sd Q => (∃ ds, sget sd i = .own ds) ∧ me sd fun j s1 => ∃ ds n d, sget s1 i = .own ds ∧ j = .int n ∧ atI ds n = some d ∧ Q d s1
section
variable {X : Cx} {C : Ct}
theorem pd_ixOwn {i : Nat} {mb : ME} {y : Str} {p2 pos : Pos} {b : Expr} (hy : PE X (.Name y p2) (tVar i)) (hb : PE X b (tD X.K C mb)) (hs : PlainIx b := by exact fun _ _ => rfl) :
    PE X (.Subscript (.Name y p2) b pos) (tD X.K C (mIxOwn i mb)) := pe_imp (pe_ix ix_seq hy hb hs) (by
  rintro σ H Q ⟨F, sd, Qd, R, ⟨⟨ds0, h0⟩, h⟩, k⟩
  have hi := R.slot i
  rw [h0] at hi
  obtain ⟨p, vs0, e1, _⟩ := hi
  refine ⟨.ref p, gv_some.mp e1, F, sd, _, R, h, fun v H1 F1 j sd1 R1 S1 rj q => ?_⟩
  obtain ⟨ds, n, d, hs1, rfl, hat, q⟩ := q
  have hi1 := R1.slot i
  rw [hs1] at hi1
  obtain ⟨p', vs, z1, z2, z3, z4, rs⟩ := hi1
  rw [e1] at z1; cases z1
  cases rj
  obtain ⟨w, e2, r⟩ := atI_rpA rs hat
  exact .inl ⟨_, _, _, w, rfl, rfl, .inl (.inl z2), e2, k w H1 F1 d sd1 R1 S1 r q⟩)
end
theorem if_runC {t : MT} {x y : MS} {D : DE} {sd : DSt} (c : Bool) (sd2 : DSt) (ht : ∀ Q : Bool → DSt → Prop, Q c sd2 → t sd Q) (h : if c = true then x D sd2 else y D sd2) : mIf t x y D sd := ht _ h
end DL
namespace DL
open PySem PySem.Spec PyProof.Rows L2
section
variable {prog : Program} {w : World} {A : Around} {E : Value → Shared → Prop} {s : Shared}
theorem args_max3 (a b c : Value) : argsOk "max" ⟨[a, b, c], []⟩ := by unfold argsOk; kernel_rfl
theorem call_max_three {a b c : Value} {Q : Value → Shared → Prop}
    (h : wpAny (model prog w) A.in1 (pyIter (.ref s.heap.objs.size)) (fun it s₂ => ∃ I fp wr n P St bt, it = .ref I ∧ Walks prog w A.in1 I fp wr n P St ∧ St 0 s₂.heap ∧ (∀ b ∈ fp, b < s₂.heap.objs.size) ∧ 0 < n ∧ CmpOf prog w A.in1 .Gt P bt ∧
      ∀ v h' tk, P (argBest bt (n - 1)) v → (∀ b o, b ∉ wr → s₂.heap.get? b = some o → h'.get? b = some o) → Q v { s₂ with heap := h', toks := tk }) E
      { s with heap := s.heap.push { cls := .type "tuple", data := .seq #[a, b, c] } }) :
    wpAny (model prog w) A (call (.builtin "max") [a, b, c]) Q E s := by
  have hname : (toString "max" ++ toString ".loop" : String) = "max.loop" := by decide
  refine call_function_tree F.kind_max F.plain_max F.entry_max (args_max3 _ _ _) ?_
  show wpAny _ A.in1 (Builtin.Builtins.bindParams "max" ["key", "default"] 0 ⟨[], []⟩ >>= _) _ _ s
  refine wpAny_bind (wpAny_of_eq (show Builtin.Builtins.bindParams "max" ["key", "default"] 0 ⟨[], []⟩ = pure [none, none] from rfl) ?_)
  show wpAny _ A.in1 (newTuple [a, b, c] >>= _) _ _ s
  refine wpAny_bind (wpAny_newObj_type ?_)
  refine wpAny_bind (wpAny_mono h (fun it s₂ h₂ => ?_) fun _ _ e => e)
  obtain ⟨I, fp, wr, n, P, St, bt, rfl, W, hst, hfp, hn, hcmp, hQ⟩ := h₂
  refine wpAny_bind (wpAny_newObj_type ?_)
  have hSf : s₂.heap.objs.size ∉ fp := fun hm => Nat.lt_irrefl _ (hfp _ hm)
  rw [hname]
  refine wpAny_pure ⟨plainId_quiet F.plain_max_loop _, codeAny_max_loop_first W bt hcmp s₂.heap.objs.size hSf hn (W.frame _ _ _ hst fun b _ o e => Heap.get?_push_of_some _ e) (Heap.get?_push_size _ rfl) fun v h' tk hP hk => ?_⟩
  exact hQ v h' tk hP fun b o hbw e => hk b o hbw (Nat.ne_of_lt (Heap.lt_size e)) (Heap.get?_push_of_some _ e)
def max3 (a b c : Int) : Int := if b > a then (if c > b then c else b) else (if c > a then c else a)
theorem max_three_ints {a b c : Int} {t u x : Tok} {Q : Value → Shared → Prop} (hh : A.handled = none)
    (h : ∀ h' tk y, (∀ c o, s.heap.get? c = some o → h'.get? c = some o) → Q (.int (max3 a b c) y) { s with heap := h', toks := tk }) :
    wpAny (model prog w) A (call (.builtin "max") [.int a t, .int b u, .int c x]) Q E s := by
  have hT : (s.heap.push { cls := .type "tuple", data := .seq #[.int a t, .int b u, .int c x] }).IsTuple s.heap.objs.size (intItems #[(a, t), (b, u), (c, x)]) := ⟨_, Heap.get?_push_size _ rfl, rfl, 0, by simp [intItems]⟩
  refine call_max_three (wpAny_pyIter_tuple hT ?_)
  have hsz : (s.heap.push { cls := .type "tuple", data := .seq #[.int a t, .int b u, .int c x] }).objs.size = s.heap.objs.size + 1 := Heap.size_push ..
  refine ⟨_, [_, s.heap.objs.size], [_], _, _, _, _, rfl, Walks.tuple (A := A.in1) hh _ s.heap.objs.size (by rw [hsz]; exact Nat.ne_of_lt (Nat.lt_succ_self _)) (intItems #[(a, t), (b, u), (c, x)]),
    ⟨⟨_, Heap.get?_push_size _ rfl, rfl, rfl⟩, hT.push _⟩, fun d hd => ?_, by simp [intItems], CmpOf.ints_gt (numAt #[(a, t), (b, u), (c, x)]) (fun _ _ => intItems_at), fun v h' tk hP hk => ?_⟩
  · show d < ((s.heap.push _).push _).objs.size
    rw [Heap.size_push, hsz]
    rcases List.mem_cons.mp hd with rfl | hd
    · rw [hsz]; exact Nat.lt_succ_self _
    · rcases List.mem_cons.mp hd with rfl | hd
      · exact Nat.lt_succ_of_lt (Nat.lt_succ_self _)
      · cases hd
  · have hold : ∀ c o, s.heap.get? c = some o → h'.get? c = some o := fun c o e => by
      refine hk c o (fun hm => ?_) (Heap.get?_push_of_some _ (Heap.get?_push_of_some _ e))
      rcases List.mem_cons.mp hm with e1 | hm
      · have := Heap.lt_size e; rw [e1, hsz] at this; exact Nat.lt_irrefl _ (Nat.lt_of_succ_lt this)
      · cases hm
    have hv : ∃ y, v = Value.int (max3 a b c) y := by
      have hP' : (intItems #[(a, t), (b, u), (c, x)])[argBest (fun i j => decide (numAt #[(a, t), (b, u), (c, x)] i > numAt #[(a, t), (b, u), (c, x)] j)) 2]? = some v := by
        have hsz2 : (intItems #[(a, t), (b, u), (c, x)]).size - 1 = 2 := by simp [intItems]
        rw [← hsz2]; exact hP
      unfold max3
      by_cases h1 : b > a
      · rw [if_pos h1]
        by_cases h2 : c > b
        · have e : argBest (fun i j => decide (numAt #[(a, t), (b, u), (c, x)] i > numAt #[(a, t), (b, u), (c, x)] j)) 2 = 2 := by simp [argBest, numAt, h1, h2]
          rw [e] at hP'
          rw [if_pos h2]
          exact ⟨x, by simpa [intItems] using hP'.symm⟩
        · have e : argBest (fun i j => decide (numAt #[(a, t), (b, u), (c, x)] i > numAt #[(a, t), (b, u), (c, x)] j)) 2 = 1 := by simp [argBest, numAt, h1, h2]
          rw [e] at hP'
          rw [if_neg h2]
          exact ⟨u, by simpa [intItems] using hP'.symm⟩
      · rw [if_neg h1]
        by_cases h2 : c > a
        · have e : argBest (fun i j => decide (numAt #[(a, t), (b, u), (c, x)] i > numAt #[(a, t), (b, u), (c, x)] j)) 2 = 2 := by simp [argBest, numAt, h1, h2]
          rw [e] at hP'
          rw [if_pos h2]
          exact ⟨x, by simpa [intItems] using hP'.symm⟩
        · have e : argBest (fun i j => decide (numAt #[(a, t), (b, u), (c, x)] i > numAt #[(a, t), (b, u), (c, x)] j)) 2 = 0 := by simp [argBest, numAt, h1, h2]
          rw [e] at hP'
          rw [if_neg h2]
          exact ⟨t, by simpa [intItems] using hP'.symm⟩
    obtain ⟨y, rfl⟩ := hv
    exact h h' tk y hold
end
section
variable {X : Cx} {K : PySem.W.Frag}
def bMax3 : List PyData → Option PyData
  | [.int i, .int j, .int k] => some (.int (max3 i j k))
  | _ => none
theorem bMax3_i (a b c : Int) : bMax3 [.int a, .int b, .int c] = some (.int (max3 a b c)) := rfl
def rMax3 : List V → Hp → VK → Prop := fun xs H Q => ∃ i j k, xs = [V.int i, V.int j, V.int k] ∧ Q (.int (max3 i j k)) H
theorem cr_max3 (hc : X.calm = true) : CallR X (.builtin "max") rMax3 := by
  intro pins s σ H xs us Q I r h
  obtain ⟨i, j, k, rfl, q⟩ := h
  cases r with
  | cons r1 r2 =>
    obtain ⟨u, w', rfl, ⟨t2, rfl⟩, ⟨t3, rfl⟩⟩ := vals2 r2
    obtain ⟨t1, rfl⟩ := r1
    exact max_three_ints (I.ok.hd hc) fun h' tk y k' => ⟨.int (max3 i j k), H, I.kept k', ⟨y, rfl⟩, q⟩
theorem rc_max3 : RLC K rMax3 bMax3 := by
  intro F H xs as z Q e _ rx h k
  unfold bMax3 at h
  split at h
  · cases rx with
    | cons r0 rx =>
      obtain ⟨x, y, rfl, r1, r2⟩ := rpA2 rx
      cases h
      cases r0; cases r1; cases r2
      exact ⟨_, _, _, rfl, k _ F H .id (.int _)⟩
  · cases h
theorem max3_le (a b c : Int) : a ≤ max3 a b c ∧ b ≤ max3 a b c ∧ c ≤ max3 a b c ∧ (max3 a b c = a ∨ max3 a b c = b ∨ max3 a b c = c) := by
  unfold max3
  split <;> split <;> omega
end
end DL
namespace DL
open PySem PySem.Spec PyProof.Rows L2
abbrev OT := Option (Int × Int)
def toT : OT → PyData
  | none => .none
  | some t => .tuple [.int t.1, .int t.2]
theorem toT_datum (o : OT) : PySem.W.Datum.toD o = toT o := by cases o <;> rfl
def idxT (t : OT) (os : List OT) : Nat := @List.idxOf OT instBEqOfDecidableEq t os
theorem idxT_get {t : OT} {os : List OT} (h : t ∈ os) : os[idxT t os]? = some t := by
  have hl : idxT t os < os.length := (@List.idxOf_lt_length_iff OT instBEqOfDecidableEq _ _ _).mpr h
  rw [List.getElem?_eq_getElem hl]
  exact congrArg some (@List.getElem_idxOf OT instBEqOfDecidableEq _ _ _ hl)
theorem idxOf_first {α : Type} [BEq α] [LawfulBEq α] {t : α} {os : List α} {j : Nat} (h : os[j]? = some t) : os.idxOf t ≤ j := by
  induction os generalizing j with
  | nil => simp at h
  | cons o os ih =>
    rw [List.idxOf_cons]
    by_cases c : o = t
    · subst c
      simp
    · rw [beq_false_of_ne c]
      cases j with
      | zero => exact absurd (Option.some.inj h) c
      | succ j =>
        have := ih (j := j) (by simpa using h)
        simp only [cond_false]
        omega
theorem idxT_first {t : OT} {os : List OT} {j : Nat} (h : os[j]? = some t) : idxT t os ≤ j := @idxOf_first OT instBEqOfDecidableEq _ _ _ _ h
def unT : PyData → Option OT
  | .none => some none
  | .tuple [.int a, .int b] => some (some (a, b))
  | _ => none
def unTs : List PyData → Option (List OT)
  | [] => some []
  | d :: ds => match unT d, unTs ds with
    | some o, some os => some (o :: os)
    | _, _ => none
theorem unT_of {d : PyData} {o : OT} (h : unT d = some o) : d = toT o := by
  unfold unT at h
  split at h
  · cases h; rfl
  · cases h; rfl
  · cases h
theorem unTs_of : ∀ {ds : List PyData} {os : List OT}, unTs ds = some os → ds = os.map toT
  | [], os, h => by cases h; rfl
  | d :: ds, os, h => by
    unfold unTs at h
    split at h
    · rename_i o os' h1 h2
      cases h
      rw [unT_of h1, unTs_of h2]
      rfl
    · cases h
theorem unT_to (o : OT) : unT (toT o) = some o := by cases o <;> rfl
theorem unTs_to : ∀ os : List OT, unTs (os.map toT) = some os
  | [] => rfl
  | o :: os => by
    show (match unT (toT o), unTs (os.map toT) with | some o, some os => some (o :: os) | _, _ => none) = _
    rw [unT_to, unTs_to os]
def opIdxP (ds : List PyData) (b : PyData) : Option PyData := match unTs ds, unT b with
  | some os, some t => if t ∈ os ∧ os.length ≤ 100000 then some (.int (idxT t os : Nat)) else none
  | _, _ => none
theorem opIdxP_is {os : List OT} {t : OT} (h : t ∈ os) (hl : os.length ≤ 100000) : opIdxP (os.map toT) (toT t) = some (.int (idxT t os : Nat)) := by
  unfold opIdxP
  rw [unTs_to, unT_to]
  exact if_pos ⟨h, hl⟩
theorem dE_toT (o : OT) : dE (toT o) = true := by cases o <;> rfl
theorem dEs_toT : ∀ os : List OT, dEs (os.map toT) = true
  | [] => rfl
  | o :: os => by
    show (dE (toT o) && dEs (os.map toT)) = true
    rw [dE_toT, dEs_toT os]
    rfl
section
variable {K : PySem.W.Frag} {X : Cx} {C : Ct}
def rIndexP (K : PySem.W.Frag) : V → List V → Hp → VK → Prop := fun x xs H Q => ∃ (F : Hp) (p : Addr) (vs : List V) (y : V) (os : List OT) (t : OT), x = .ref p ∧ xs = [y] ∧ Same F H ∧ SqL K H p vs ∧ RpA K F vs (os.map toT) ∧ Rp K F y (toT t) ∧ t ∈ os ∧ os.length ≤ 100000 ∧ Q (.int (idxT t os : Nat)) H
theorem mt_indexP (hu : X.A.units + 64 < cLine) : MtR X "list.index" (rIndexP X.K) := by
  intro pins s σ H x xs v us Q I rx rxs h
  obtain ⟨F, p, vs, y, os, t, rfl, rfl, e, hs, ra, ry, ht, hl, q⟩ := h
  cases rx
  obtain ⟨u, rfl, ru⟩ := vals1 rxs
  obtain ⟨its, rv, hil, _⟩ := I.list hs
  obtain ⟨as, rd, _⟩ := RpA.reads I e _ _ _ ra rv (dEs_toT os)
  obtain ⟨bs, rb, _⟩ := Rp.reads I e _ _ _ ry ru (dE_toT t)
  refine PySem.W.index_list_datum (α := OT) (xs := os) (x := t) hil.isList ⟨as, ?_⟩ ⟨bs, ?_⟩ ?_ (Nat.le_trans hl (by decide)) ht ?_
  · rw [show (PySem.W.Datum.toD : OT → PyData) = toT from funext toT_datum]
    exact rd
  · rw [toT_datum]
    exact rb
  · have : PySem.W.Datum.depth OT ≤ 60 := by decide
    omega
  · exact ⟨.int (idxT t os : Nat), H, I.tok _, ⟨_, rfl⟩, q⟩
variable {o e : Expr} {apos cpos : Pos} {ma mb : ME}
theorem pd_indexP (ho : PE X o (tD X.K C ma)) (he : PE X e (tD X.K C mb)) (t : PE X (.Call (.Attribute o "index" apos) [e] [] cpos) (tBM X.K "list" (rIndexP X.K) (tD X.K C ma) (tCons (tD X.K C mb) tNil))) : PE X (.Call (.Attribute o "index" apos) [e] [] cpos) (tD X.K C (mMeth opIdxP ma mb)) := pe_imp t (td_meth (by
  intro F H p vs ds y b z Q e hp ra ry h k
  unfold opIdxP at h
  split at h
  · rename_i os t' h1 h2
    split at h
    · rename_i hc
      cases h
      have := unTs_of h1
      subst this
      have := unT_of h2
      subst this
      exact ⟨F, p, vs, y, os, t', rfl, rfl, e, .inl (.inl (e _ _ hp)), ra, ry, hc.1, hc.2, k _ (.int _)⟩
    · cases h
  · cases h))
end
end DL
namespace DL
open PySem PySem.Spec PyProof.Rows L2
def pairD (t : Int × Int) : PyData := .tuple [.int t.1, .int t.2]
def unP : PyData → Option (Int × Int)
  | .tuple [.int a, .int b] => some (a, b)
  | _ => none
def unPs : List PyData → Option (List (Int × Int))
  | [] => some []
  | d :: ds => match unP d, unPs ds with
    | some o, some os => some (o :: os)
    | _, _ => none
theorem unP_of {d : PyData} {o : Int × Int} (h : unP d = some o) : d = pairD o := by
  unfold unP at h
  split at h
  · cases h; rfl
  · cases h
theorem unPs_of : ∀ {ds : List PyData} {os : List (Int × Int)}, unPs ds = some os → ds = os.map pairD
  | [], os, h => by cases h; rfl
  | d :: ds, os, h => by
    unfold unPs at h
    split at h
    · rename_i o os' h1 h2
      cases h
      rw [unP_of h1, unPs_of h2]
      rfl
    · cases h
theorem unPs_to : ∀ os : List (Int × Int), unPs (os.map pairD) = some os
  | [] => rfl
  | o :: os => by
    show (match unP (pairD o), unPs (os.map pairD) with | some o, some os => some (o :: os) | _, _ => none) = _
    rw [unPs_to os]
    rfl
def leQ (p q : Int × Int) : Prop := p.1 < q.1 ∨ (p.1 = q.1 ∧ p.2 ≤ q.2)
instance (p q : Int × Int) : Decidable (leQ p q) := by unfold leQ; exact inferInstance
def insP (x : Int × Int) : List (Int × Int) → List (Int × Int)
  | [] => [x]
  | y :: ys => if leQ x y then x :: y :: ys else y :: insP x ys
def srtP : List (Int × Int) → List (Int × Int)
  | [] => []
  | x :: xs => insP x (srtP xs)
theorem insP_perm (x : Int × Int) : ∀ xs, (insP x xs).Perm (x :: xs)
  | [] => .refl _
  | y :: ys => by
    unfold insP
    split
    · exact .refl _
    · exact ((insP_perm x ys).cons y).trans (.swap x y ys)
theorem srtP_perm : ∀ xs, (srtP xs).Perm xs
  | [] => .refl _
  | x :: xs => (insP_perm x _).trans ((srtP_perm xs).cons x)
theorem insP_sorted (x : Int × Int) : ∀ xs : List (Int × Int), xs.Pairwise leQ → (insP x xs).Pairwise leQ
  | [], _ => by unfold insP; exact List.pairwise_singleton _ _
  | y :: ys, h => by
    obtain ⟨h1, h2⟩ := List.pairwise_cons.mp h
    unfold insP
    split
    · rename_i le
      refine List.pairwise_cons.mpr ⟨fun z hz => ?_, h⟩
      rcases List.mem_cons.mp hz with rfl | hz
      · exact le
      · have := h1 z hz
        unfold leQ at *
        omega
    · rename_i le
      refine List.pairwise_cons.mpr ⟨fun z hz => ?_, insP_sorted x ys h2⟩
      rcases List.mem_cons.mp ((insP_perm x ys).mem_iff.mp hz) with rfl | hz
      · unfold leQ at *
        omega
      · exact h1 z hz
theorem srtP_sorted : ∀ xs : List (Int × Int), (srtP xs).Pairwise leQ
  | [] => List.Pairwise.nil
  | x :: xs => insP_sorted x _ (srtP_sorted xs)
theorem sortedP_uniq {xs ys : List (Int × Int)} (p : xs.Perm ys) (h1 : xs.Pairwise leQ) (h2 : ys.Pairwise leQ) : xs = ys := by
  exact p.eq_of_pairwise (le := leQ) (fun a b _ _ h1 h2 => by
    unfold leQ at *
    exact Prod.ext (by omega) (by omega)) h1 h2
def bSrtP : List PyData → Option PyData
  | [.list xs] => (unPs xs).map fun ts => .list ((srtP ts).map pairD)
  | _ => none
theorem bSrtP_is (ts : List (Int × Int)) : bSrtP [.list (ts.map pairD)] = some (.list ((srtP ts).map pairD)) := by
  show ((unPs (ts.map pairD)).map fun ts => PyData.list ((srtP ts).map pairD)) = _
  rw [unPs_to]
  rfl
section
variable {K : PySem.W.Frag} {X : Cx}
theorem dEs_pairs : ∀ ts : List (Int × Int), dEs (ts.map pairD) = true
  | [] => rfl
  | t :: ts => by
    show (dE (pairD t) && dEs (ts.map pairD)) = true
    rw [dEs_pairs ts]
    rfl
theorem refs_pairs {F : Hp} : ∀ {ts : List (Int × Int)} {vs : List V}, RpA K F vs (ts.map pairD) → ∀ x ∈ vs, ∃ a, x = V.ref a
  | [], _, h, x, hx => by cases h; cases hx
  | t :: ts, _, h, x, hx => by
    cases h with
    | cons h1 h2 =>
      rcases List.mem_cons.mp hx with rfl | hx
      · cases h1
        exact ⟨_, rfl⟩
      · exact refs_pairs h2 x hx
theorem pair_read {h : Heap} {v : Value} {t : Int × Int} {as : List Addr} (r : Reads h v (pairD t) as) : Srt.IsPair h v t.1 t.2 := by
  cases r with
  | tuple h1 h2 h3 h4 =>
    rename_i a o vs n
    cases e : vs.toList with
    | nil => rw [e] at h4; cases h4
    | cons x l =>
      rw [e] at h4
      cases h4 with
      | cons q1 q2 =>
        cases l with
        | nil => cases q2
        | cons y l =>
          cases q2 with
          | cons q3 q4 =>
            cases l with
            | cons z l => cases q4
            | nil =>
              cases q1 with
              | int _ t1 =>
                cases q3 with
                | int _ t2 =>
                  refine ⟨a, o, t1, t2, n, rfl, h1, h2, ?_⟩
                  rw [h3]
                  congr 1
                  exact Array.toList_inj.mp e
theorem pair_same {h : Heap} {v : Value} {a b c d : Int} (p : Srt.IsPair h v a b) (q : Srt.IsPair h v c d) : a = c ∧ b = d := by
  obtain ⟨a1, o, t, u, n, rfl, h1, h2, h3⟩ := p
  obtain ⟨a2, o2, t2, u2, n2, e, g1, g2, g3⟩ := q
  cases e
  rw [h1] at g1
  cases g1
  rw [h3] at g3
  injection g3 with g3 _
  have := congrArg Array.toList g3
  simp at this
  exact ⟨this.1.1, this.2.1⟩
theorem reads_k {h : Heap} {k : Value → Int × Int} : ∀ {its : List Value} {ts : List (Int × Int)} {as : List Addr}, ReadsAll h its (ts.map pairD) as → (∀ v ∈ its, ∀ p : Int × Int, Srt.IsPair h v p.1 p.2 → k v = p) → its.map k = ts
  | [], [], _, _, _ => rfl
  | [], t :: ts, _, r, _ => by cases r
  | v :: its, [], _, r, _ => by cases r
  | v :: its, t :: ts, _, r, hk => by
    cases r with
    | cons r1 r2 =>
      rw [List.map_cons, hk v (by simp) t (pair_read r1), reads_k r2 fun v' h' => hk v' (by simp [h'])]
theorem reads_all {h : Heap} : ∀ {its : List Value} {ts : List (Int × Int)} {as : List Addr}, ReadsAll h its (ts.map pairD) as → ∀ v ∈ its, ∃ p : Int × Int, Srt.IsPair h v p.1 p.2
  | [], _, _, _, v, hv => by cases hv
  | u :: its, [], _, r, v, hv => by cases r
  | u :: its, t :: ts, _, r, v, hv => by
    cases r with
    | cons r1 r2 =>
      rcases List.mem_cons.mp hv with rfl | hv
      · exact ⟨t, pair_read r1⟩
      · exact reads_all r2 v hv
theorem rpA_pt {F : Hp} {f : Value → V} {g : Value → PyData} : ∀ {its : List Value}, RpA K F (its.map f) (its.map g) → ∀ v ∈ its, Rp K F (f v) (g v)
  | [], _, v, hv => by cases hv
  | u :: its, r, v, hv => by
    cases r with
    | cons r1 r2 =>
      rcases List.mem_cons.mp hv with rfl | hv
      · exact r1
      · exact rpA_pt r2 v hv
theorem rpA_of {F : Hp} {f : Value → V} {g : Value → PyData} : ∀ {its : List Value}, (∀ v ∈ its, Rp K F (f v) (g v)) → RpA K F (its.map f) (its.map g)
  | [], _ => .nil
  | u :: its, r => .cons (r u (by simp)) (rpA_of fun v hv => r v (by simp [hv]))
def rSrtP (K : PySem.W.Frag) : List V → Hp → VK → Prop := fun xs H Q => ∃ (F : Hp) (a : Addr) (vs : List V) (ts : List (Int × Int)), xs = [V.ref a] ∧ Same F H ∧ SqL K H a vs ∧ RpA K F vs (ts.map pairD) ∧ ∀ ys p, RpA K F ys ((srtP ts).map pairD) → H p = none → Q (.ref p) (upd H p (.lst ys))
theorem cr_srtP : CallR X (.builtin "sorted") (rSrtP X.K) := by
  intro pins s σ H xs us Q I r h
  obtain ⟨F, a, vs, ts, rfl, e, hs, ra, q⟩ := h
  obtain ⟨its, rv, hl, hz⟩ := I.list hs
  obtain ⟨u, rfl, ru⟩ := vals1 r
  obtain rfl : u = Value.ref a := ru
  obtain ⟨as, rd, _⟩ := RpA.reads I e _ _ _ ra rv (dEs_pairs ts)
  obtain ⟨e1, e2⟩ := refs_back rv (refs_pairs ra)
  have hp := reads_all rd
  obtain ⟨k, hk⟩ : ∃ k : Value → Int × Int, ∀ v ∈ its, Srt.IsPair s.heap v (k v).1 (k v).2 := by
    refine ⟨fun v => @dite _ (∃ p : Int × Int, Srt.IsPair s.heap v p.1 p.2) (Classical.propDecidable _) (fun h => Classical.choose h) (fun _ => (0, 0)), fun v hv => ?_⟩
    have h := hp v hv
    simp only [dif_pos h]
    exact Classical.choose_spec h
  have ek : its.map k = ts := reads_k rd fun v hv p z => by
    obtain ⟨z1, z2⟩ := pair_same (hk v hv) z
    exact Prod.ext z1 z2
  refine SrtO.sorted_pairsO (k := k) hl.isList (by rw [← rv.length]; exact hz) hk fun h' d out h1 h2 kp hd hn => ?_
  have mem : ∀ u ∈ out, u ∈ its := fun u hu => h2.perm.mem_iff.mp hu
  have h3 : ∀ u ∈ out, ∃ a, u = Value.ref a := fun u hu => e2 u (mem u hu)
  obtain ⟨n, hn⟩ := hn
  have es : out.map k = srtP ts := by
    refine sortedP_uniq ?_ ?_ (srtP_sorted ts)
    · rw [← ek]
      exact (h2.perm.map k).trans (srtP_perm _).symm
    · refine List.pairwise_map.mpr (List.Pairwise.imp (fun {x y} z => ?_) h1)
      have := SrtO.lexB_no.mp z
      unfold leQ
      omega
  have rs : RpA X.K F (out.map backV) ((srtP ts).map pairD) := by
    rw [← es, List.map_map]
    refine rpA_of fun v hv => ?_
    rw [e1, ← ek, List.map_map] at ra
    exact rpA_pt ra v (mem v hv)
  refine ⟨.ref d, upd H d (.lst (out.map backV)), I.laid (t' := s.toks) kp hd ⟨?_, out, n, vals_back h3, hn⟩, rfl, q _ d rs (I.hok.fresh hd)⟩
  rw [List.length_map, h2.len, ← rv.length]
  exact hz
theorem rc_srtP : RLC K (rSrtP K) bSrtP := by
  intro F H xs as z Q e f rx h k
  unfold bSrtP at h
  split at h
  · obtain ⟨x, rfl, r⟩ := rpA1 rx
    rename_i ds
    cases en : unPs ds with
    | none => rw [en] at h; cases h
    | some ts =>
      rw [en] at h
      cases h
      have := unPs_of en
      subst this
      cases r with
      | lst h1 r1 =>
        refine ⟨F, _, _, ts, rfl, e, .inl (.inl (e _ _ h1)), r1, fun ys p ry hp => ?_⟩
        exact k _ _ _ (.new hp) (.lst upd_same (ry.mono (same_new (f p hp))))
  · cases h
end
end DL
namespace DL
open PySem PySem.Spec PyProof.Rows L2
def mSetTup (i j : Nat) (mi me : ME) : MS := fun D sd => me sd fun v s1 => ∃ a b, v = .tuple [a, b] ∧ (∃ ds, sget s1 i = .own ds) ∧ mi s1 fun k s2 => ∃ ds z n, sget s2 i = .own ds ∧ k = .int z ∧ DL.ixN ds.length z = some n ∧ D.nx (sset (sset s2 i (.own (ds.set n a))) j (.va b))
section
variable {X : Cx} {C : Ct}
theorem pds_setTup {i j : Nat} {tg nm e : Expr} {kk : Nat} {tpos pos : Pos} {mi me : ME} (t : PS X (.Assign [.Tuple [tg, nm] kk tpos] e pos) (tAsg (tD X.K C me) (gTup X.K 2 (gCons (gSub (tVar i) (tD X.K C mi) rSetL) (gCons (gName j) gNil))))) : PS X (.Assign [.Tuple [tg, nm] kk tpos] e pos) (tDS X.K C (mSetTup i j mi me)) := ps_imp t (by
  rintro D σ H ⟨F, sd, Dd, R, E, h⟩
  refine ⟨F, sd, _, R, h, fun v H1 F1 d sd1 R1 S1 rv hh => ?_⟩
  obtain ⟨a, b, rfl, ⟨ds0, h0⟩, h2⟩ := hh
  cases rv with
  | tup hq ra =>
    obtain ⟨x, y, rfl, rx, ry⟩ := rpA2 ra
    have hi := R1.slot i
    rw [h0] at hi
    obtain ⟨q, vs, e1, e2, e3, e4, r⟩ := hi
    refine ⟨_, [x, y], rfl, same_t R1.ext hq, rfl, x, [y], rfl, .ref q, gv_some.mp e1, F1, sd1, _, R1, h2, fun k H2 F2 kd sd2 R2 S2 rk h3 => ?_⟩
    obtain ⟨ds, z, n, g1, rfl, g2, hnx⟩ := h3
    cases rk
    have hi2 := R2.slot i
    rw [g1] at hi2
    obtain ⟨q', vs2, z1, z2, z3, z4, r2⟩ := hi2
    rw [e1] at z1; cases z1
    refine ⟨q, vs2, z, n, rfl, rfl, z2, by rw [r2.length]; exact g2, y, [], rfl, rfl, ?_⟩
    exact E.nx F2 _ _ _ (S1.fr.trans S2.fr) ((R2.setOwn g1 e1 (RpA.set (rx.mono S2.fr) n r2)).setva (ry.mono S2.fr)) hnx)
end
end DL
namespace DL
open PySem PySem.Spec PyProof.Rows L2
def rIsET (K : PySem.W.Frag) (D a : Addr) : List V → Hp → VK → Prop := fun xs H Q => ∃ (tp : Addr) (cs : List V) (ws : List Value) (b : Bool), xs = [.ref a, .ref tp] ∧ H tp = some (.tup cs) ∧ (∀ us, Vals cs us → us = ws) ∧ PySem.W.kitAny K (.ref D) ws = some b ∧ Q (.bl b) H
theorem call_isET {X : Cx} {a D : Addr} {oe : Obj} {pn : List (Addr × Obj)} (C : ExcC X.K D) (hz : Zc (.ref D) none oe) (hf : ∃ vs, oe.data = .fields vs) : CallR (X.suite a ((a, oe) :: pn)) (.builtin "isinstance") (rIsET X.K D a) := by
  intro pins s σ H xs us Q I r h
  obtain ⟨tp, cs, ws, b, rfl, hT, hcv, e, q⟩ := h
  obtain ⟨u1, u2, rfl, r1, r2⟩ := vals2 r
  cases (show u1 = Value.ref a from r1)
  cases (show u2 = Value.ref tp from r2)
  obtain ⟨_, its, rv, o, h1, h2, n, h3⟩ := (show ObjOk (X.suite a ((a, oe) :: pn)).prog (X.suite a ((a, oe) :: pn)).w H s.heap tp (.tup cs) from I.hok tp _ hT)
  have e3 := hcv _ rv
  subst e3
  obtain ⟨oc, od, dt, sl⟩ := o
  simp only at h2 h3
  subst h2 h3
  obtain ⟨hget, _⟩ := I.pin (a, oe) (List.mem_append.mpr (.inl List.mem_cons_self))
  obtain ⟨vs, hv⟩ := hf
  have J : PySem.W.InstAt s.heap a oe D none := by
    obtain ⟨oc, od, oda, osl⟩ := oe
    obtain ⟨h1, h2⟩ := hz
    dsimp only at h1 h2 hv
    subst h1 h2 hv
    exact ⟨hget, rfl, rfl, trivial⟩
  exact PySem.W.kia_tup (PySem.W.handS_kitx_exc C.hg C.hk C.hs C.hd C.ha C.hn C.ht C.hm) I.kIn J h1 e (fun z => nomatch z) fun tk => ⟨.bl b, H, I.kept (t' := tk) fun _ _ z => z, rfl, q⟩
section
variable {K : PySem.W.Frag} {X : Cx} {C : Ct}
/-- isinstance(n, (T1, T2)) in a suite -/
theorem pd_isE2 {a A : Addr} {oe : Obj} {pn : List (Addr × Obj)} {i : Nat} {y : Str} {p p2 tp pos : Pos} {kk : Nat} {b1 b2 : Bool} {tv1 tv2 : V} {cv1 cv2 : Value} {t1 t2 : Expr} (EC : ExcC X.K A) (hz : Zc (.ref A) none oe) (hfl : ∃ vs, oe.data = .fields vs) (hm : X.mg "isinstance" = none)
    (hk1 : PySem.W.kitOne X.K (.ref A) cv1 = some b1) (hk2 : PySem.W.kitOne X.K (.ref A) cv2 = some b2) (hcv1 : ∀ u, RelV tv1 u → u = cv1) (hcv2 : ∀ u, RelV tv2 u → u = cv2) (hN : (X.suite a ((a, oe) :: pn)).N[i]? = some y) (hv : Vis (X.suite a ((a, oe) :: pn)).env.scope y)
    (hT1 : PE (X.suite a ((a, oe) :: pn)) t1 (tC tv1)) (hT2 : PE (X.suite a ((a, oe) :: pn)) t2 (tC tv2))
    (hg : Gl (X.suite a ((a, oe) :: pn)) "isinstance" := by rfl) (hd : (y == ("__debug__" : Str)) = false := by decide) (hcd : (y == ("__classdict__" : Str)) = false := by decide)
    (he : starEach (.Name y p2 :: [.Tuple [t1, t2] kk tp]) X.env = (false, eval (.Name y p2) X.env) :: starEach [.Tuple [t1, t2] kk tp] X.env := by rfl) (he1 : starEach (.Tuple [t1, t2] kk tp :: []) X.env = (false, eval (.Tuple [t1, t2] kk tp) X.env) :: starEach [] X.env := by rfl)
    (he2 : starEach (t1 :: [t2]) X.env = (false, eval t1 X.env) :: starEach [t2] X.env := by rfl) (he3 : starEach (t2 :: []) X.env = (false, eval t2 X.env) :: starEach [] X.env := by rfl)
    (hpl : (backTo pos (starEach [.Tuple [t1, t2] kk tp] X.env)).any (·.1) = false := by rfl) :
    PE (X.suite a ((a, oe) :: pn)) (.Call (.Name "isinstance" p) [.Name y p2, .Tuple [t1, t2] kk tp] [] pos) (tD X.K C (mIsE i a (b1 || b2))) := pe_imp (pe_callB (call_isET EC hz hfl) hg hm (by decide +kernel) (pa_cons (pe_var hN hv hd hcd) (pa_cons (pe_tup (pa_cons hT1 (pa_cons hT2 pa_nil he3) he2)) pa_nil he1) he) (by decide) (by decide) he hpl) (by
  rintro σ H Q ⟨F, sd, Qd, R, ⟨hs, h⟩, k⟩
  have hi := R.slot i
  rw [hs] at hi
  refine ⟨.ref a, gv_some.mp hi, by rw [sizeLine_eq, List.length_cons, List.length_cons, List.length_nil]; decide, fun p hp => ⟨p, [tv1, tv2], [cv1, cv2], b1 || b2, rfl, upd_same, fun us hus => ?_, ?_, ?_⟩⟩
  · obtain ⟨u1, u2, rfl, r1, r2⟩ := vals2 hus
    rw [hcv1 _ r1, hcv2 _ r2]
  · refine kitAny_cons hk1 (fun z => ?_) (fun z => by rw [z]; rfl)
    rw [z]
    refine kitAny_cons hk2 (fun z => by rw [z]; rfl) (fun z => by rw [z]; rfl)
  · have al : Al F H (upd F p (.tup [tv1, tv2])) (upd H p (.tup [tv1, tv2])) := .new hp
    exact k _ _ _ _ sd (R.al al) (.al R al) (.bl _) h)
end
end DL
namespace DL
open PySem PySem.Spec PyProof.Rows L2
theorem RoomG.u65 {k : Nat} {A : Around} (h : RoomG k A) : A.units + 65 < cLine := by have := h.r.un; omega
def opInD : PyData → PyData → Option PyData
  | a, .list ds => if (SeqAt.shaped a && SeqAt.shaped (.list ds)) = true then some (.bool (ds.any fun z => PyData.eqv z a)) else none
  | _, _ => none
theorem rl_inD {K : PySem.W.Frag} : RL2 K (rInD K) opInD := by
  intro F H x y a b z Q e _ rx ry h k
  unfold opInD at h
  split at h
  · split at h
    · rename_i hs
      cases h
      rw [Bool.and_eq_true] at hs
      exact ⟨a, _, rx.dp e (SeqAt.canLay_of_shaped hs.1), ry.dp e (SeqAt.canLay_of_shaped hs.2), hs.1, hs.2, k _ F H .id (.bl _)⟩
    · cases h
  · cases h
/-- a pair of numbers in a list of such -/
theorem shaped_pair {a b : Int} : SeqAt.shaped (.tuple [.int a, .int b]) = true := by
  unfold SeqAt.shaped
  simp [PyData.canLay0, PyData.canLayAll0, PyData.depth, PyData.depthAll]
def prP (u : Int × Int) : PyData := .tuple [.int u.1, .int u.2]
theorem lay_prs : ∀ l : List (Int × Int), PyData.canLayAll0 (l.map prP) = true ∧ PyData.depthAll (l.map prP) ≤ 2
  | [] => ⟨rfl, by simp [PyData.depthAll]⟩
  | u :: l => by
    obtain ⟨a, b⟩ := lay_prs l
    refine ⟨by simp [prP, PyData.canLayAll0, PyData.canLay0, a], ?_⟩
    simp only [List.map_cons, prP, PyData.depthAll, PyData.depth]
    omega
theorem any_prs {w : Int × Int} : ∀ l : List (Int × Int), ((l.map prP).any fun z => PyData.eqv z (prP w)) = decide (w ∈ l)
  | [] => by simp
  | u :: l => by
    rw [List.map_cons, List.any_cons, any_prs l]
    have e : PyData.eqv (prP u) (prP w) = decide (w = u) := by
      unfold prP
      simp [PyData.eqv, PyData.eqvAll]
      by_cases h1 : u.1 = w.1 <;> by_cases h2 : u.2 = w.2
      · have : w = u := Prod.ext h1.symm h2.symm
        simp [h1, h2, this]
      · have : ¬ w = u := fun e => h2 (by rw [e])
        simp [h1, h2, this]
      · have : ¬ w = u := fun e => h1 (by rw [e])
        simp [h1, h2, this]
      · have : ¬ w = u := fun e => h1 (by rw [e])
        simp [h1, h2, this]
    rw [e]
    by_cases c : w = u
    · simp [c]
    · simp [c]
theorem opInD_pr {w : Int × Int} {l : List (Int × Int)} : opInD (prP w) (.list (l.map prP)) = some (.bool (decide (w ∈ l))) := by
  have h : SeqAt.shaped (.list (l.map prP)) = true := by
    obtain ⟨a, b⟩ := lay_prs l
    unfold SeqAt.shaped
    have : (PyData.list (l.map prP)).canLay0 = true := by simpa [PyData.canLay0] using a
    rw [this, decide_eq_true (by simp only [PyData.depth]; omega)]
    rfl
  show (if (SeqAt.shaped (prP w) && SeqAt.shaped (.list (l.map prP))) = true then some (PyData.bool ((l.map prP).any fun z => PyData.eqv z (prP w))) else none) = _
  rw [h, show SeqAt.shaped (prP w) = true from shaped_pair, Bool.and_self, if_pos rfl, any_prs]
end DL
namespace DL
open PySem PySem.Spec PyProof.Rows L2
/-- xs.pop(e): the item, the list without it -/
def mPop (i : Nat) (me : ME) : ME := fun sd Q => (∃ ds, sget sd i = .own ds) ∧ me sd fun j s1 => ∃ (ds : List PyData) (n : Nat) (d : PyData), sget s1 i = .own ds ∧ j = .int (n : Int) ∧ n < ds.length ∧ ds.length ≤ 100000 ∧ ds[n]? = some d ∧ Q d (sset s1 i (.own (ds.eraseIdx n)))
def opNotInT : PyData → PyData → Option PyData
  | a, .tuple ds => if (SeqAt.shaped a && SeqAt.shaped (.tuple ds)) = true then some (.bool (!ds.any fun z => PyData.eqv z a)) else none
  | _, _ => none
def opInT : PyData → PyData → Option PyData
  | a, .tuple ds => if (SeqAt.shaped a && SeqAt.shaped (.tuple ds)) = true then some (.bool (ds.any fun z => PyData.eqv z a)) else none
  | _, _ => none
section
variable {X : Cx} {C : Ct} {K : PySem.W.Frag}
theorem RpA.erase {F : Hp} : ∀ {vs : List V} {ds : List PyData} (n : Nat), RpA K F vs ds → RpA K F (vs.eraseIdx n) (ds.eraseIdx n)
  | _, _, _, .nil => by simpa using RpA.nil
  | _, _, 0, .cons _ r => r
  | _, _, n + 1, .cons h r => .cons h (RpA.erase n r)
theorem pd_popAt {i : Nat} {me : ME} {y : Str} {p apos cpos : Pos} {e : Expr}
    (t : PE X (.Call (.Attribute (.Name y p) "pop" apos) [e] [] cpos) (tBM X.K "list" rPopAt (tVar i) (tCons (tD X.K C me) tNil))) :
    PE X (.Call (.Attribute (.Name y p) "pop" apos) [e] [] cpos) (tD X.K C (mPop i me)) := pe_imp t (by
  rintro σ H Q ⟨F, sd, Qd, R, ⟨⟨ds0, h0⟩, h⟩, k⟩
  have hi := R.slot i
  rw [h0] at hi
  obtain ⟨q, vs, e1, e2, e3, e4, r⟩ := hi
  refine ⟨.ref q, gv_some.mp e1, .inl ⟨rfl, vs, .inl (.inl e2)⟩, F, sd, _, R, h, fun v H1 F1 j sd1 R1 S1 rj hh => ?_⟩
  obtain ⟨ds, n, d, h1, rfl, hn, hl, hd, hq⟩ := hh
  have hi1 := R1.slot i
  rw [h1] at hi1
  obtain ⟨q', vs1, z1, z2, z3, z4, r1⟩ := hi1
  rw [e1] at z1; cases z1
  cases rj
  obtain ⟨w, w1, w2⟩ := r1.get hd
  have len := r1.length
  have six : seqIndex? (n : Int) vs1.length = some n := by
    unfold seqIndex?
    simp only [show ¬ ((n : Int) < 0) by omega, if_false]
    rw [if_pos (by rw [Bool.and_eq_true]; exact ⟨decide_eq_true (by omega), decide_eq_true (by omega)⟩)]
    simp
  refine ⟨q, vs1, n, n, w, rfl, rfl, z2, by omega, by omega, six, w1, ?_⟩
  have R2 := R1.setOwn h1 e1 (r1.erase n)
  have own : Owned σ sd1 q := ⟨i, by rw [h1]; rfl, e1⟩
  refine k w _ F1 d _ R2 (S1.trans ⟨fun _ _ h => h, fun a o ha hno => ?_, fun a ha => ?_, fun a o h => .inl h, fun a ha => ?_⟩) w2 hq
  · by_cases z : a = q
    · subst z; exact absurd own hno
    · rw [upd_ne z]; exact ha
  · obtain ⟨l, l1, l2⟩ := ha
    by_cases z : l = i
    · subst z
      rw [e1] at l2
      cases l2
      exact own
    · rw [sget_sset_ne z] at l1
      exact ⟨l, l1, l2⟩
  · by_cases z : a = q
    · subst z
      rw [upd_same] at ha
      cases ha
    · rw [upd_ne z] at ha
      exact ha)
def rNotInT (K : PySem.W.Frag) : R2 := fun x y H Q => ∃ d ds, Dp K H x d ∧ Dp K H y (.tuple ds) ∧ SeqAt.shaped d = true ∧ SeqAt.shaped (.tuple ds) = true ∧ Q (.bl (!ds.any fun z => PyData.eqv z d)) H
def rInT (K : PySem.W.Frag) : R2 := fun x y H Q => ∃ d ds, Dp K H x d ∧ Dp K H y (.tuple ds) ∧ SeqAt.shaped d = true ∧ SeqAt.shaped (.tuple ds) = true ∧ Q (.bl (ds.any fun z => PyData.eqv z d)) H
theorem lay_tup {ds : List PyData} (h : SeqAt.shaped (.tuple ds) = true) : PyData.canLayAll0 ds = true := by
  have := SeqAt.canLay_of_shaped h
  simpa [PyData.canLay0] using this
theorem op_notInT (hu : X.A.units + 65 < cLine) : OpR X (compareOp .NotIn) (rNotInT X.K) := by
  intro pins s σ H x y v u Q I rx ry h
  obtain ⟨d, ds, h1, h2, s1, s2, q⟩ := h
  obtain ⟨as, ra⟩ := Dp.reads I d x v h1 rx
  obtain ⟨bs, rb⟩ := Dp.reads I _ y u h2 ry
  exact SeqAt.notIn_tuple_reads rb ra (lay_tup s2) (SeqAt.canLay_of_shaped s1) (PyProof.Rows.room_in_shaped s1 hu) ⟨.bl _, H, I, rfl, q⟩
theorem op_inT (hu : X.A.units + 65 < cLine) : OpR X (compareOp .In) (rInT X.K) := by
  intro pins s σ H x y v u Q I rx ry h
  obtain ⟨d, ds, h1, h2, s1, s2, q⟩ := h
  obtain ⟨as, ra⟩ := Dp.reads I d x v h1 rx
  obtain ⟨bs, rb⟩ := Dp.reads I _ y u h2 ry
  exact SeqAt.in_tuple_reads rb ra (lay_tup s2) (SeqAt.canLay_of_shaped s1) (PyProof.Rows.room_in_shaped s1 hu) ⟨.bl _, H, I, rfl, q⟩
theorem rl_notInT : RL2 K (rNotInT K) opNotInT := by
  intro F H x y a b z Q e _ rx ry h k
  unfold opNotInT at h
  split at h
  · split at h
    · rename_i hs
      cases h
      rw [Bool.and_eq_true] at hs
      exact ⟨a, _, rx.dp e (SeqAt.canLay_of_shaped hs.1), ry.dp e (SeqAt.canLay_of_shaped hs.2), hs.1, hs.2, k _ F H .id (.bl _)⟩
    · cases h
  · cases h
theorem rl_inT : RL2 K (rInT K) opInT := by
  intro F H x y a b z Q e _ rx ry h k
  unfold opInT at h
  split at h
  · split at h
    · rename_i hs
      cases h
      rw [Bool.and_eq_true] at hs
      exact ⟨a, _, rx.dp e (SeqAt.canLay_of_shaped hs.1), ry.dp e (SeqAt.canLay_of_shaped hs.2), hs.1, hs.2, k _ F H .id (.bl _)⟩
    · cases h
  · cases h
end
end DL
namespace DL
open PySem PySem.Spec PyProof.Rows L2
def bIntB : List PyData → Option PyData
  | [.int i] => some (.int i)
  | [.bool b] => some (.int (if b = true then 1 else 0))
  | _ => none
def opSIdx : PyData → PyData → Option PyData
  | .str a, .str b => match Builtin.Str.occurrences a b 0 a.length 1 with
    | i :: _ => some (.int (i : Nat))
    | [] => none
  | _, _ => none
section
variable {K : PySem.W.Frag} {X : Cx} {C : Ct}
theorem rc_intB : RLC K (fun xs H Q => (∃ i, xs = [V.int i] ∧ Q (.int i) H) ∨ ∃ k, xs = [V.bl k] ∧ Q (.int (if k then 1 else 0)) H) bIntB := by
  intro F H xs as z Q e _ rx h k
  unfold bIntB at h
  split at h
  · obtain ⟨x, rfl, r⟩ := rpA1 rx
    cases h
    cases r
    exact .inl ⟨_, rfl, k _ F H .id (.int _)⟩
  · obtain ⟨x, rfl, r⟩ := rpA1 rx
    cases h
    cases r
    exact .inr ⟨_, rfl, k _ F H .id (.int _)⟩
  · cases h
/-- s.f(e): s a text -/
def mStrM (f : PyData → PyData → Option PyData) (ma mb : ME) : ME := fun sd Q => ma sd fun a s1 => ∃ s, a = .str s ∧ mb s1 fun b s2 => ∃ r, f (.str s) b = some r ∧ Q r s2
theorem td_strM1 {r : V → List V → Hp → VK → Prop} {f : PyData → PyData → Option PyData} {ma mb : ME}
    (L : ∀ (F H : Hp) (s : Str) (y : V) (b z : PyData) (Q : VK), Same F H → Rp K F y b → f (.str s) b = some z → (∀ v, Rp K F v z → Q v H) → r (.str s) [y] H Q) :
    ∀ σ H Q, tD K C (mStrM f ma mb) σ H Q → tBM K "str" r (tD K C ma) (tCons (tD K C mb) tNil) σ H Q := by
  rintro σ H Q ⟨F, sd, Qd, R, h, k⟩
  refine ⟨F, sd, _, R, h, fun x H1 F1 a sd1 R1 S1 rx h1 => ?_⟩
  obtain ⟨s, rfl, h1⟩ := h1
  cases rx
  refine ⟨rfl, F1, sd1, _, R1, h1, fun y H2 F2 b sd2 R2 S2 ry h2 => ?_⟩
  obtain ⟨z, e, q⟩ := h2
  exact L F2 H2 s y b z Q R2.ext ry e fun v rz => k v H2 F2 z sd2 R2 (S1.trans S2) rz q
variable {o e : Expr} {apos cpos : Pos} {ma mb : ME}
theorem pd_sidx (ho : PE X o (tD X.K C ma)) (he : PE X e (tD X.K C mb)) (t : PE X (.Call (.Attribute o "index" apos) [e] [] cpos) (tBM X.K "str" (fun x xs H Q => ∃ a b i rest, x = V.str a ∧ xs = [V.str b] ∧ Builtin.Str.occurrences a b 0 a.length 1 = i :: rest ∧ Q (.int (i : Nat)) H) (tD X.K C ma) (tCons (tD X.K C mb) tNil))) : PE X (.Call (.Attribute o "index" apos) [e] [] cpos) (tD X.K C (mStrM opSIdx ma mb)) := pe_imp t (td_strM1 (by
  intro F H s y b z Q e ry h k
  cases b with
  | str b' =>
    cases ry
    have h : (match Builtin.Str.occurrences s b' 0 s.length 1 with
      | i :: _ => some (PyData.int (i : Nat))
      | [] => none) = some z := h
    split at h
    · rename_i i rest ho
      cases h
      exact ⟨_, _, i, rest, rfl, rfl, ho, k _ (.int _)⟩
    · cases h
  | _ => cases h))
end
end DL
namespace DL
open PySem PySem.Spec PyProof.Rows L2
theorem u1 {k : Nat} {A : Around} (h : RoomG k A) : A.units + 1 < cLine := by have := RoomG.u64 h; omega
/-- d[k], d a dict, k a text -/
def dget (x : Str) : List (PyData × PyData) → Option PyData
  | [] => none
  | (.str y, d) :: es => if y = x then some d else dget x es
  | _ :: es => dget x es
def opDGet : PyData → PyData → Option PyData
  | .dict es, .str x => dget x es
  | _, _ => none
def strsD : List PyData → Option (List Str)
  | [] => some []
  | .str x :: ds => (strsD ds).map (x :: ·)
  | _ :: _ => none
def opJoin : PyData → PyData → Option PyData
  | .str a, .list ds => (strsD ds).bind fun ys => if (ys.map (·.length)).sum + ys.length * a.length ≤ 16777216 then some (.str (Txt.join a ys)) else none
  | _, _ => none
def opRevS : PyData → Option PyData
  | .str z => if z.length ≤ 100000 then some (.str ⟨z.cps.toList.reverse.toArray⟩) else none
  | _ => none
def mDisp (kvs : List (Str × Str)) : ME := fun sd Q => Q (.dict (kvs.map fun kv => (.str kv.1, .str kv.2))) sd
section
variable {K : PySem.W.Frag} {X : Cx} {C : Ct}
theorem rpD_get {F : Hp} (x : Str) : ∀ {kvs : List (Key × V)} {es : List (PyData × PyData)} {d : PyData}, RpD K F kvs es → dget x es = some d → ∃ v, valV kvs (.inr x) = some v ∧ Rp K F v d := by
  intro kvs
  induction kvs with
  | nil => intro es d r h; cases r; cases h
  | cons p kvs ih =>
    intro es d r h
    obtain ⟨k, v⟩ := p
    cases r with
    | cons rv r =>
      cases k with
      | inl i =>
        have h : dget x _ = some d := h
        obtain ⟨u, e, ru⟩ := ih r h
        exact ⟨u, (valV_neg (p := (Sum.inl i, v)) (by intro q; cases q)).trans e, ru⟩
      | inr y =>
        by_cases e : y = x
        · have h : (if y = x then some _ else _) = some d := h
          rw [if_pos e] at h
          cases h
          exact ⟨v, valV_pos (p := (Sum.inr y, v)) (congrArg Sum.inr e), rv⟩
        · have h : (if y = x then some _ else dget x _) = some d := h
          rw [if_neg e] at h
          obtain ⟨u, e2, ru⟩ := ih r h
          exact ⟨u, (valV_neg (p := (Sum.inr y, v)) (fun q => e (Sum.inr.inj q))).trans e2, ru⟩
theorem pd_dget {a b : Expr} {ma mb : ME} {pos : Pos} (hu : X.A.units + 1 < cLine) (ha : PE X a (tD X.K C ma)) (hb : PE X b (tD X.K C mb)) (hs : NoSl b) : PE X (.Subscript a b pos) (tD X.K C (mOp2 opDGet ma mb)) := pe_imp (pe_dget hu ha hb hs) (by
  rintro σ H Q ⟨F, sd, Qd, R, h, k⟩
  refine ⟨F, sd, _, R, h, fun x H1 F1 d1 sd1 R1 S1 rx h1 => ⟨F1, sd1, _, R1, h1, fun y H2 F2 d2 sd2 R2 S2 ry h2 => ?_⟩⟩
  obtain ⟨z, e, q⟩ := h2
  have rx' := rx.mono S2.fr
  cases d1 with
  | dict es =>
    cases d2 with
    | str s =>
      cases ry
      cases rx' with
      | dct hF r =>
        obtain ⟨v, e2, rv⟩ := rpD_get s r e
        exact ⟨_, v, rfl, .inl ⟨_, Sum.inr s, .inl (R2.ext _ _ hF), rfl, e2.symm⟩, k v H2 F2 z sd2 R2 (S1.trans S2) rv q⟩
      | ins _ _ _ => cases e
      | ex0 _ _ => cases e
      | exF _ _ _ _ => cases e
    | _ => cases e
  | _ => cases e)
theorem tPairs_c : ∀ (kvs : List (Str × Str)) (σ : L2.St) (H : Hp) (Q : List (V × V) → Hp → Prop), Q (kvs.map fun kv => (V.str kv.1, V.str kv.2)) H → tPairs (kvs.map fun kv => (tC (.str kv.1), tC (.str kv.2))) σ H Q
  | [], _, _, _, h => h
  | (x, y) :: r, σ, H, Q, h => tPairs_c r σ H (fun ps H3 => Q ((V.str x, V.str y) :: ps) H3) h
def keysK (kvs : List (Str × Str)) : List (Key × V) := kvs.map fun kv => (Sum.inr kv.1, V.str kv.2)
theorem rpD_keys {F : Hp} : ∀ kvs : List (Str × Str), RpD K F (keysK kvs) (kvs.map fun kv => (.str kv.1, .str kv.2))
  | [] => .nil
  | (x, y) :: r => .cons (k := Sum.inr x) (.str y) (rpD_keys r)
theorem pd_disp {pos : Pos} {keys : List (Option Expr)} {values : List Expr} (kvs : List (Str × Str)) (h : PPs X pos keys values (kvs.map fun kv => (tC (.str kv.1), tC (.str kv.2)))) (hall : keys.all (·.isSome) = true) (hl : keys.length = values.length) (h0 : keys ≠ [])
    (h15 : keys.length ≤ 15) (hk : kvs.length ≤ 15) (hm : mergeK [] (keysK kvs) = keysK kvs) : PE X (.Dict keys values pos) (tD X.K C (mDisp kvs)) := pe_imp (pe_disp h hall hl h0 h15) (by
  rintro σ H Q ⟨F, sd, Qd, R, h, k⟩ p hp
  refine tPairs_c kvs σ _ _ ?_
  refine ⟨upd_same, keysK kvs, by unfold keysK; rw [List.map_map]; rfl, by unfold keysK; rw [List.length_map]; exact hk, ?_⟩
  rw [hm]
  have e2 : upd (upd H p (.dK [])) p (.dK (keysK kvs)) = upd H p (.dK (keysK kvs)) := by
    funext b; unfold upd; by_cases q : b = p <;> simp [q]
  rw [e2]
  exact k (.ref p) _ _ _ sd (R.al (.new hp)) (.al R (.new hp)) (.dct upd_same (rpD_keys kvs)) h)
theorem rpA_strs {F : Hp} : ∀ {vs : List V} {ds : List PyData} {ys : List Str}, RpA K F vs ds → strsD ds = some ys → vs = ys.map V.str := by
  intro vs
  induction vs with
  | nil => intro ds ys r h; cases r; cases h; rfl
  | cons v vs ih =>
    intro ds ys r h
    cases r with
    | @cons _ _ d ds rv r =>
      cases d with
      | str x =>
        cases rv
        have h : (strsD ds).map (x :: ·) = some ys := h
        cases e : strsD ds with
        | none => rw [e] at h; cases h
        | some zs => rw [e] at h; cases h; rw [ih r e]; rfl
      | _ => cases h
variable {o e : Expr} {apos cpos : Pos} {ma mb : ME}
theorem pd_join (ho : PE X o (tD X.K C ma)) (he : PE X e (tD X.K C mb)) (t : PE X (.Call (.Attribute o "join" apos) [e] [] cpos) (tBM X.K "str" (fun x xs H Q => ∃ a p, ∃ ys : List Str, x = .str a ∧ xs = [.ref p] ∧ (SqL X.K H p (ys.map V.str) ∨ SqT X.K H p (ys.map V.str)) ∧
    (ys.map (·.length)).sum + ys.length * a.length ≤ 16777216 ∧ Q (.str (Txt.join a ys)) H) (tD X.K C ma) (tCons (tD X.K C mb) tNil))) : PE X (.Call (.Attribute o "join" apos) [e] [] cpos) (tD X.K C (mStrM opJoin ma mb)) := pe_imp t (td_strM1 (by
  intro F H s y b z Q ex ry h k
  cases b with
  | list ds =>
    cases ry with
    | lst hF r =>
      have h : ((strsD ds).bind fun ys => if (ys.map (·.length)).sum + ys.length * s.length ≤ 16777216 then some (PyData.str (Txt.join s ys)) else none) = some z := h
      cases e : strsD ds with
      | none => rw [e] at h; cases h
      | some ys =>
        rw [e] at h
        have h : (if (ys.map (·.length)).sum + ys.length * s.length ≤ 16777216 then some (PyData.str (Txt.join s ys)) else none) = some z := h
        split at h
        · rename_i hz
          cases h
          have := rpA_strs r e
          subst this
          exact ⟨_, _, ys, rfl, rfl, .inl (.inl (.inl (ex _ _ hF))), hz, k _ (.str _)⟩
        · cases h
  | _ => cases h))
theorem revS_pick (z : Str) (t : Tok) : (slicePicked z none none (some ((-1 : Int), t))).filterMap (z.cps[·]?) = z.cps.toList.reverse := by
  have e : slicePicked z none none (some ((-1 : Int), t)) = (List.range z.cps.size).map fun k => z.cps.size - 1 - k := PySem.W.krv_sliceRange z.cps.size
  rw [e, PySem.W.krv_range, List.filterMap_reverse, PySem.W.krv_all]
def tRevS (te : TE) : TE := fun σ H Q => te σ H fun x H1 => ∃ z, x = .str z ∧ z.length ≤ 100000 ∧ Q (.str ⟨z.cps.toList.reverse.toArray⟩) H1
theorem pe_revS {e : Expr} {te : TE} {k : Nat} {p1 p2 p3 pos : Pos} (he : PE X e te) : PE X (.Subscript e (.Slice none none (some (.UnaryOp .USub (.Constant (.int 1) k p1) p2)) p3) pos) (tRevS te) := by
  refine ⟨fun pins s σ H Q I h => Subscript_ (thn (he.run pins s σ H _ I h) fun v s1 hh => ?_)⟩
  obtain ⟨x, H1, I1, r1, z, ex, hz, q⟩ := hh
  subst ex
  obtain ⟨t, rfl⟩ := r1
  have one : PO X (some (.UnaryOp .USub (.Constant (.int 1) k p1) p2)) (tPart (tUn (rU fun i => .int (-i)) (tC (.int 1)))) := po_some (pe_un un_neg pe_int)
  refine wpAny_Slice (thn (po_none.run pins s1 σ H1 (fun o H2 => o = none ∧ H2 = H1) I1 ⟨rfl, rfl⟩) fun vl s2 y => ?_)
  obtain ⟨_, _, I2, pl, rfl, rfl⟩ := y
  refine thn (po_none.run pins s2 σ _ (fun o H3 => o = none ∧ H3 = _) I2 ⟨rfl, rfl⟩) fun vu s3 y => ?_
  obtain ⟨_, _, I3, pu, rfl, rfl⟩ := y
  refine thn (one.run pins s3 σ _ (fun o H4 => o = some (-1) ∧ H4 = _) I3 ⟨1, rfl, -1, rfl, rfl, rfl⟩) fun vs s4 y => ?_
  obtain ⟨_, H4, I4, ps, rfl, rfl⟩ := y
  have I5 : L2.Inv X pins σ _ { s4 with heap := s4.heap.push { cls := .type "slice", data := .fields #[vl, vu, vs] } } := I4.kept (t' := s4.toks) fun b ob q => Heap.get?_push_of_some _ q
  cases pl
  cases pu
  cases ps with
  | int _ tk =>
  show wpAny (model X.prog X.w) X.A (subscriptTail e _ (.str z t) (.ref s4.heap.objs.size)) (EP X pins σ Q) X.xe { s4 with heap := s4.heap.push { cls := .type "slice", data := .fields #[.none, .none, .int (-1) tk] } }
  refine tail_any (ops := [.str z t, .ref s4.heap.objs.size]) (typeIs_str _ z t) (PySem.F.slot_str_getitem.lookup) ?_ (by with_unfolding_all rfl)
  refine wpAny_getItem_str_slice (l := none) (u := none) (st := some (-1, tk)) ⟨_, Heap.get?_push_size _ rfl, rfl, rfl⟩ rfl ?_
  have em : sliceMade z t none none (some ((-1 : Int), tk)) = .str ⟨z.cps.toList.reverse.toArray⟩ := by
    unfold sliceMade
    rw [if_neg (by intro q; rw [Bool.and_eq_true] at q; exact absurd q.1 (by show ¬ (((-1 : Int) == 1) = true); decide)), revS_pick]
  rw [em]
  refine ⟨?_, ?_⟩
  · show (z.cps.toList.reverse.toArray).size ≤ sizeLine
    rw [List.size_toArray, List.length_reverse, Array.length_toList]
    exact Nat.le_trans hz (by decide)
  · exact ⟨.str _, _, I5.tok _, ⟨_, rfl⟩, q⟩
theorem pd_revS {e : Expr} {me : ME} {k : Nat} {p1 p2 p3 pos : Pos} (he : PE X e (tD X.K C me)) : PE X (.Subscript e (.Slice none none (some (.UnaryOp .USub (.Constant (.int 1) k p1) p2)) p3) pos) (tD X.K C (mOp1 opRevS me)) := pe_imp (pe_revS he) (by
  rintro σ H Q ⟨F, sd, Qd, R, h, k⟩
  refine ⟨F, sd, _, R, h, fun x H1 F1 a sd1 R1 S1 rx h1 => ?_⟩
  obtain ⟨z, e, q⟩ := h1
  cases a with
  | str s =>
    cases rx
    have e : (if s.length ≤ 100000 then some (PyData.str ⟨s.cps.toList.reverse.toArray⟩) else none) = some z := e
    split at e
    case isFalse => cases e
    case isTrue hz =>
    cases e
    exact ⟨s, rfl, hz, k _ H1 F1 _ sd1 R1 S1 (.str _) q⟩
  | _ => cases e)
end
end DL
namespace DL
open PySem PySem.Spec PyProof.Rows L2
/-- room for k calls, perhaps in a suite of except -/
structure RoomE (k : Nat) (A : Around) : Prop where
  dp : A.depth + 3 * k + 5 < recursionLimit
  un : A.units + 16 * k + 200 < cLine
  g : A.guards = some []
theorem RoomE.mono {j k : Nat} {A : Around} (h : RoomE k A) (hj : j ≤ k) : RoomE j A := ⟨by have := h.dp; omega, by have := h.un; omega, h.g⟩
theorem RoomE.deeper {k : Nat} {A : Around} (h : RoomE (k + 1) A) (env : Env) : RoomE k (A.deeper env) := ⟨by have := h.dp; show A.depth + 1 + _ + _ < _; omega, by have := h.un; show A.units + 3 + _ + _ < _; omega, h.g⟩
theorem RoomE.u64 {k : Nat} {A : Around} (h : RoomE k A) : A.units + 64 < cLine := by have := h.un; omega
theorem RoomG.toE {k : Nat} {A : Around} (h : RoomG k A) (v : Option Value) : RoomE k (A.mark v) := ⟨h.r.dp, h.r.un, h.g⟩
/-- a def's body's context where an error may be at hand -/
abbrev cxE (P : Program) (w : World) (K : PySem.W.Frag) (mg : Str → Option Value) (base : Heap) (N : List Str) (qual : Str) (sc : Scope) (f : Addr) (cdv : Value) (A : Around) (outer : List Env) (s : Shared) (H : Hp) (E : XK) : Cx :=
  { cxD P w K mg base N qual sc f cdv A outer s H E with calm := false }
/-- a def's promise, told the class of an error -/
abbrev ESpec := String → (S → Prop) → Prop
/-- f(e), e what slot i holds -/
def mCallE (spec : ESpec) (i : Nat) (c : String) (a : Addr) : ME := fun sd Q => sget sd i = .exc a ∧ spec c fun r => ∃ d, fz r = some d ∧ Q d sd
def spE (K : PySem.W.Frag) (spec : ESpec) (c : String) (H : Hp) (Q : VK) : Prop := ∃ (F : Hp) (Qd : S → Prop), Same F H ∧ spec c Qd ∧ ∀ (v : V) (H' F' : Hp) (r : S), Post K F H F' H' → ResOk K F' H H' v r → Qd r → Q v H'
structure FnE (P : Program) (w : World) (K : PySem.W.Frag) (mg : Str → Option Value) (base : Heap) (CN : String → Option Addr) (k : Nat) (f : Addr) (fd : FuncData) (ps : List Str) (spec : ESpec) : Prop where
  len : ps.length = 1
  run : ∀ {A : Around} {outer : List Env} {s : Shared} {H : Hp} {args : Args} {Q : VK} {E : XK} {c : String} {T a : Addr} {oe : Obj}, RoomE k A → Env0 P w K mg base A outer s H → BindsTo s fd args (ps.zip [.ref a]) → CN c = some T → Zc (.ref T) none oe → (∃ vs, oe.data = .fields vs) →
    s.heap.get? a = some oe → H a = none → a ∉ frs outer → spE K spec c H Q → codeAny (model P w) A (.call (.ref f) args) (CR (L2.CX P w) outer P w H s Q E) s
structure CalE (P : Program) (w : World) (K : PySem.W.Frag) (mg : Str → Option Value) (base : Heap) (CN : String → Option Addr) (k : Nat) (x : Str) (spec : ESpec) : Prop where
  ex : ∃ f fd ps, FnE P w K mg base CN k f fd ps spec ∧ mg x = some (.ref f) ∧ PySem.W.keepIn K (.ref f) = true ∧ Binds K fd ps []
/-- isinstance(n, T) where n is an error that stood ahead of the call -/
theorem call_isEX {X : Cx} {a D : Addr} {oe : Obj} (C : ExcC X.K D) (hz : Zc (.ref D) none oe) (hf : ∃ vs, oe.data = .fields vs) (h0 : X.s_0.heap.get? a = some oe) (hH : X.H_0 a = none) (hfs : a ∉ X.fs) (hex : a ∉ X.ex) : CallR X (.builtin "isinstance") (rIsE X.K D a) := by
  intro pins s σ H xs us Q I r h
  obtain ⟨tc, cv, b, rfl, hcv, e, q⟩ := h
  obtain ⟨u1, u2, rfl, r1, r2⟩ := vals2 r
  cases (show u1 = Value.ref a from r1)
  cases hcv _ r2
  have hget := I.base.keep a oe h0 hH hfs hex
  obtain ⟨vs, hv⟩ := hf
  have J : PySem.W.InstAt s.heap a oe D none := by
    obtain ⟨oc, od, oda, osl⟩ := oe
    obtain ⟨h1, h2⟩ := hz
    dsimp only at h1 h2 hv
    subst h1 h2 hv
    exact ⟨hget, rfl, rfl, trivial⟩
  exact PySem.W.kia_one (PySem.W.handS_kitx_exc C.hg C.hk C.hs C.hd C.ha C.hn C.ht C.hm) I.kIn J e (fun z => nomatch z) fun tk => ⟨.bl b, H, I.kept (t' := tk) fun _ _ z => z, rfl, q⟩
theorem call_isETX {X : Cx} {a D : Addr} {oe : Obj} (C : ExcC X.K D) (hz : Zc (.ref D) none oe) (hf : ∃ vs, oe.data = .fields vs) (h0 : X.s_0.heap.get? a = some oe) (hH : X.H_0 a = none) (hfs : a ∉ X.fs) (hex : a ∉ X.ex) : CallR X (.builtin "isinstance") (rIsET X.K D a) := by
  intro pins s σ H xs us Q I r h
  obtain ⟨tp, cs, ws, b, rfl, hT, hcv, e, q⟩ := h
  obtain ⟨u1, u2, rfl, r1, r2⟩ := vals2 r
  cases (show u1 = Value.ref a from r1)
  cases (show u2 = Value.ref tp from r2)
  obtain ⟨_, its, rv, o, h1, h2, n, h3⟩ := (show ObjOk X.prog X.w H s.heap tp (.tup cs) from I.hok tp _ hT)
  have e3 := hcv _ rv
  subst e3
  obtain ⟨oc, od, dt, sl⟩ := o
  simp only at h2 h3
  subst h2 h3
  have hget := I.base.keep a oe h0 hH hfs hex
  obtain ⟨vs, hv⟩ := hf
  have J : PySem.W.InstAt s.heap a oe D none := by
    obtain ⟨oc, od, oda, osl⟩ := oe
    obtain ⟨h1, h2⟩ := hz
    dsimp only at h1 h2 hv
    subst h1 h2 hv
    exact ⟨hget, rfl, rfl, trivial⟩
  exact PySem.W.kia_tup (PySem.W.handS_kitx_exc C.hg C.hk C.hs C.hd C.ha C.hn C.ht C.hm) I.kIn J h1 e (fun z => nomatch z) fun tk => ⟨.bl b, H, I.kept (t' := tk) fun _ _ z => z, rfl, q⟩
/-- what isinstance says of each of some classes -/
def KA (K : PySem.W.Frag) (A : Addr) : List V → List Value → List Bool → Prop
  | [], [], [] => True
  | tv :: tvs, cv :: cvs, b :: bs => (PySem.W.kitOne K (.ref A) cv = some b ∧ ∀ u, RelV tv u → u = cv) ∧ KA K A tvs cvs bs
  | _, _, _ => False
def tCL : List V → TA
  | [] => tNil
  | v :: vs => tCons (tC v) (tCL vs)
theorem tCL_is {σ : L2.St} {H : Hp} {Q : List V → Hp → Prop} : ∀ {vs : List V} {pre : List V}, Q (pre ++ vs) H → tCL vs σ H fun xs H1 => Q (pre ++ xs) H1
  | [], pre, h => h
  | v :: vs, pre, h => by
    show tCL vs σ H fun xs H1 => Q (pre ++ (v :: xs)) H1
    have := tCL_is (σ := σ) (vs := vs) (pre := pre ++ [v]) (Q := Q) (by simpa using h)
    simpa using this
theorem tCL_of {σ : L2.St} {H : Hp} {Q : List V → Hp → Prop} {vs : List V} (h : Q vs H) : tCL vs σ H Q := by
  have := tCL_is (σ := σ) (vs := vs) (pre := []) (Q := Q) (by simpa using h)
  simpa using this
theorem ka_vals {K : PySem.W.Frag} {A : Addr} : ∀ {tvs : List V} {cvs : List Value} {bs : List Bool}, KA K A tvs cvs bs → ∀ {us : List Value}, Vals tvs us → us = cvs
  | [], [], [], _, us, h => by cases h; rfl
  | tv :: tvs, cv :: cvs, b :: bs, k, us, h => by
    cases h with
    | cons h1 h2 => rw [k.1.2 _ h1, ka_vals k.2 h2]
  | [], [], _ :: _, k, _, _ => k.elim
  | [], _ :: _, _, k, _, _ => k.elim
  | _ :: _, [], _, k, _, _ => k.elim
  | _ :: _, _ :: _, [], k, _, _ => k.elim
theorem ka_any {K : PySem.W.Frag} {A : Addr} : ∀ {tvs : List V} {cvs : List Value} {bs : List Bool}, KA K A tvs cvs bs → PySem.W.kitAny K (.ref A) cvs = some (bs.any id)
  | [], [], [], _ => rfl
  | tv :: tvs, cv :: cvs, b :: bs, k => by
    refine kitAny_cons k.1.1 (fun z => ?_) (fun z => ?_)
    · rw [List.any_cons, z]
      exact ka_any k.2
    · rw [List.any_cons, z]
      rfl
  | [], [], _ :: _, k => k.elim
  | [], _ :: _, _, k => k.elim
  | _ :: _, [], _, k => k.elim
  | _ :: _, _ :: _, [], k => k.elim
section
variable {K : PySem.W.Frag} {X : Cx} {C : Ct}
theorem pd_isEX {a A : Addr} {oe : Obj} {i : Nat} {y : Str} {p p2 pos : Pos} {b : Bool} {tv : V} {cv : Value} {te : Expr} (EC : ExcC X.K A) (hz : Zc (.ref A) none oe) (hfl : ∃ vs, oe.data = .fields vs) (h0 : X.s_0.heap.get? a = some oe) (hH : X.H_0 a = none) (hfs : a ∉ X.fs) (hex : a ∉ X.ex) (hm : X.mg "isinstance" = none)
    (hk : PySem.W.kitOne X.K (.ref A) cv = some b) (hcv : ∀ u, RelV tv u → u = cv) (hN : X.N[i]? = some y) (hv : Vis X.env.scope y) (hT : PE X te (tC tv))
    (hg : Gl X "isinstance" := by rfl) (hd : (y == ("__debug__" : Str)) = false := by decide) (hcd : (y == ("__classdict__" : Str)) = false := by decide)
    (he : starEach (.Name y p2 :: [te]) X.env = (false, eval (.Name y p2) X.env) :: starEach [te] X.env := by rfl) (he1 : starEach (te :: []) X.env = (false, eval te X.env) :: starEach [] X.env := by rfl) (hpl : (backTo pos (starEach [te] X.env)).any (·.1) = false := by rfl) :
    PE X (.Call (.Name "isinstance" p) [.Name y p2, te] [] pos) (tD X.K C (mIsE i a b)) := pe_imp (pe_callB (call_isEX EC hz hfl h0 hH hfs hex) hg hm (by decide +kernel) (pa_cons (pe_var hN hv hd hcd) (pa_cons hT pa_nil he1) he) (by decide) (by decide) he hpl) (by
  rintro σ H Q ⟨F, sd, Qd, R, ⟨hs, h⟩, k⟩
  have hi := R.slot i
  rw [hs] at hi
  refine ⟨.ref a, gv_some.mp hi, tv, cv, b, rfl, hcv, hk, ?_⟩
  exact k _ H F _ sd R .refl (.bl _) h)
theorem pd_isETX {a A : Addr} {oe : Obj} {i : Nat} {y : Str} {p p2 tp pos : Pos} {kk : Nat} {bs : List Bool} {tvs : List V} {cvs : List Value} {t1 : Expr} {ts : List Expr} (EC : ExcC X.K A) (hz : Zc (.ref A) none oe) (hfl : ∃ vs, oe.data = .fields vs) (h0 : X.s_0.heap.get? a = some oe) (hH : X.H_0 a = none) (hfs : a ∉ X.fs) (hex : a ∉ X.ex) (hm : X.mg "isinstance" = none)
    (ka : KA X.K A tvs cvs bs) (hl : tvs.length ≤ 1000) (hN : X.N[i]? = some y) (hv : Vis X.env.scope y) (hT : PA X (t1 :: ts) (tCL tvs))
    (hg : Gl X "isinstance" := by rfl) (hd : (y == ("__debug__" : Str)) = false := by decide) (hcd : (y == ("__classdict__" : Str)) = false := by decide)
    (he : starEach (.Name y p2 :: [.Tuple (t1 :: ts) kk tp]) X.env = (false, eval (.Name y p2) X.env) :: starEach [.Tuple (t1 :: ts) kk tp] X.env := by rfl) (he1 : starEach (.Tuple (t1 :: ts) kk tp :: []) X.env = (false, eval (.Tuple (t1 :: ts) kk tp) X.env) :: starEach [] X.env := by rfl)
    (hpl : (backTo pos (starEach [.Tuple (t1 :: ts) kk tp] X.env)).any (·.1) = false := by rfl) :
    PE X (.Call (.Name "isinstance" p) [.Name y p2, .Tuple (t1 :: ts) kk tp] [] pos) (tD X.K C (mIsE i a (bs.any id))) := pe_imp (pe_callB (call_isETX EC hz hfl h0 hH hfs hex) hg hm (by decide +kernel) (pa_cons (pe_var hN hv hd hcd) (pa_cons (pe_tup hT) pa_nil he1) he) (by decide) (by decide) he hpl) (by
  rintro σ H Q ⟨F, sd, Qd, R, ⟨hs, h⟩, k⟩
  have hi := R.slot i
  rw [hs] at hi
  refine ⟨.ref a, gv_some.mp hi, (show tCL tvs σ H _ from tCL_of ?_)⟩
  refine ⟨by rw [sizeLine_eq]; omega, fun p hp => ⟨p, tvs, cvs, bs.any id, rfl, upd_same, fun us hus => ka_vals ka hus, ka_any ka, ?_⟩⟩
  have al : Al F H (upd F p (.tup tvs)) (upd H p (.tup tvs)) := .new hp
  exact k _ _ _ _ sd (R.al al) (.al R al) (.bl _) h)
/-- f(e) in the suite that holds e -/
theorem td_callE {CN : String → Option Addr} {spec : ESpec} {i : Nat} {c : String} {a : Addr} : ∀ σ H Q, tD K C (mCallE spec i c a) σ H Q → gv σ i = some (.ref a) ∧ spE K spec c H Q := by
  rintro σ H Q ⟨F, sd, Qd, R, ⟨hs, h⟩, k⟩
  have hi := R.slot i
  rw [hs] at hi
  refine ⟨hi, F, _, R.ext, h, fun v H' F' r P ro q => ?_⟩
  obtain ⟨d, hf, q⟩ := q
  obtain ⟨R2, S2⟩ := R.post P
  obtain ⟨F2, R3, S3, rp⟩ := R2.res S2 ro (fun p hp => ⟨hp, fun z => (R.fresh hp).1 (S2.ow p z), (R.fresh hp).2⟩) hf
  exact k v H' F2 d sd R3 S3 rp q
theorem pd_callE {CN : String → Option Addr} {spec : ESpec} {x y : Str} {p p2 pos : Pos} {k j i : Nat} {c : String} {T a : Addr} {oe : Obj} {pn : List (Addr × Obj)} (cal : CalE X.prog X.w X.K X.mg X.base CN k x spec) (hT : CN c = some T) (hz : Zc (.ref T) none oe) (hfl : ∃ vs, oe.data = .fields vs)
    (hr : RoomG j X.A) (hk : k ≤ j) (hN : (X.suite a ((a, oe) :: pn)).N[i]? = some y) (hv : Vis (X.suite a ((a, oe) :: pn)).env.scope y) (hg : Gl (X.suite a ((a, oe) :: pn)) x := by rfl) (hd : (y == ("__debug__" : Str)) = false := by decide) (hcd : (y == ("__classdict__" : Str)) = false := by decide)
    (hdb : (x == ("__debug__" : Str)) = false := by decide) (he : starEach (.Name y p2 :: []) X.env = (false, eval (.Name y p2) X.env) :: starEach [] X.env := by rfl) (hpl : (backTo pos (starEach [] X.env)).any (·.1) = false := by rfl) :
    PE (X.suite a ((a, oe) :: pn)) (.Call (.Name x p) [.Name y p2] [] pos) (tD X.K C (mCallE spec i c a)) := by
  obtain ⟨f, fd, ps, F, hm, hkp, hb⟩ := cal.ex
  refine ⟨fun pins s σ H Q I h => wpAny_Call_Name_kw (ld_glob I hg hm (PySem.W.callWith_K (h₀ := X.base) I.ok.mod.kin hkp (thn ((pa_cons (pe_var hN hv hd hcd) pa_nil he).run pos pins s σ H (fun vs H1 => vs = [.ref a] ∧ H1 = H ∧ spE X.K spec c H Q) I ⟨.ref a, gv_some.mp (td_callE (CN := CN) σ H Q h).1, rfl, rfl, (td_callE (CN := CN) σ H Q h).2⟩) fun us s1 hh => by
    obtain ⟨vs, H1, I1, r, rfl, rfl, hs⟩ := hh
    refine ⟨I1.kIn, ?_⟩
    have b := hb s1 us I1.kIn (by rw [List.append_nil, ← r.length, F.len]; rfl)
    rw [List.append_nil] at b
    have pin := I1.pin (a, oe) (List.mem_append.mpr (.inl List.mem_cons_self))
    obtain ⟨z1, z2, z3, z4, -⟩ := pin
    have us1 : us = [.ref a] := by
      cases r with
      | cons h1 h2 =>
        cases h2
        rw [show _ = Value.ref a from h1]
    subst us1
    refine wpAny_call (codeAny_mono (F.run (E := WE (wD X.K C CN wF) σ) ((hr.toE _).mono hk) I1.env0 b hT hz hfl z1 z2 ?_ hs) fun r s' hq => ?_)
    · intro m
      rcases I1.ok.stk with e | ⟨e, fr⟩
      · rw [e] at m
        exact z4 m
      · rw [e] at m
        unfold frs at m
        rw [List.filterMap_cons, fr] at m
        rcases List.mem_cons.mp m with m | m
        · exact z3 m
        · exact z4 m
    · cases r with
      | error e => exact passAt takesF σ pins _ s1 e s' I1 hq
      | ok fl =>
        cases fl with
        | ret u => exact I1.after hq
        | next => exact hq
        | brk => exact hq
        | cont => exact hq) he hpl) hdb)⟩
end
section
variable {P : Program} {w : World} {K : PySem.W.Frag} {mg : Str → Option Value} {base : Heap} {CN : String → Option Addr}
/-- the slots of a def that is handed an error -/
abbrev slotsE (n : Nat) (a : Addr) : DSt := .exc a :: List.replicate (n - 1) .no
theorem rs_startE {F H : Hp} {N : List Str} {a : Addr} (e : Same F H) (hl : 1 ≤ N.length) : Rs K ⟨F, H, fun _ => False, false⟩ F H (L2.start N [.ref a]) (slotsE N.length a) where
  len := by unfold L2.start slotsE; simp
  grow := Same.refl _
  ext := e
  new := fun a o h => .inl h
  keep := fun a o h _ => h
  still := fun a h => h
  slot := fun i => by
    cases i with
    | zero => exact start_gv rfl
    | succ i =>
      have : sget (slotsE N.length a) (i + 1) = .no := by
        show sget (List.replicate (N.length - 1) S.no) i = .no
        have : ∀ (k i : Nat), sget (List.replicate k S.no) i = .no := by
          intro k
          induction k with
          | zero => intro _; rfl
          | succ k ih => intro i; cases i with
            | zero => rfl
            | succ i => exact ih i
        exact this _ i
      rw [this]
      trivial
  sep := fun i j p _ o _ _ => by
    cases i with
    | zero => cases o
    | succ i =>
      have : sget (slotsE N.length a) (i + 1) = .no := by
        show sget (List.replicate (N.length - 1) S.no) i = .no
        have : ∀ (k i : Nat), sget (List.replicate k S.no) i = .no := by
          intro k
          induction k with
          | zero => intro _; rfl
          | succ k ih => intro i; cases i with
            | zero => rfl
            | succ i => exact ih i
        exact this _ i
      rw [this] at o
      cases o
/-- a def that is handed an error -/
theorem fun_okE {x qual : Str} {st : Stmt} {f : Addr} {fd : FuncData} {N ps : List Str} {k : Nat} {spec : ESpec} {m : String → Addr → MS} (F : Fun K x qual st f fd) (S : FnScope N ps (defScope st)) (hN : 1 ≤ N.length) (len : ps.length = 1)
    (hbody : ∀ (cdv : Value) (A : Around) (outer : List Env) (s : Shared) (H : Hp) (E : XK) (C : Ct) (c : String) (T a : Addr) (oe : Obj), C.isW = false → RoomE k (A.deeper (envOfC qual (defScope st) s.heap.objs.size f cdv)) →
      CN c = some T → Zc (.ref T) none oe → (∃ vs, oe.data = .fields vs) → (cxE P w K mg base N qual (defScope st) f cdv A outer s H E).s_0.heap.get? a = some oe → (cxE P w K mg base N qual (defScope st) f cdv A outer s H E).H_0 a = none → a ∉ (cxE P w K mg base N qual (defScope st) f cdv A outer s H E).fs → a ∉ (cxE P w K mg base N qual (defScope st) f cdv A outer s H E).ex →
      PSs (cxE P w K mg base N qual (defScope st) f cdv A outer s H E) (defBody st) (tDS K C (m c a)))
    (rd : ∀ c a Q, spec c Q → m c a (endP Q) (slotsE N.length a)) : FnE P w K mg base CN (k + 1) f fd ps spec := by
  obtain ⟨oc, od, kV, doc, pm, an, cdv, ct, osl, rfl, lk, code⟩ := F.ex
  refine ⟨len, fun {A outer s H args Q E c T a oe} hr e0 hb hT hz hfl z1 z2 z3 hs => ?_⟩
  have stays : ∀ b o, base.get? b = some o → s.heap.get? b = some o := fun b o e => (e0.bs b o e).1
  have KX := e0.mod.kin.keeps stays
  have rv : Vals [V.ref a] [Value.ref a] := .cons rfl .nil
  refine codeAny_call_function (by have := hr.dp; omega) (KX _ _ lk) rfl S.co S.gen rfl (PySem.W.codeRec_of KX code) (hb _ _ _ _ (wpAny_newFunctionEnv_cells S.kind (fun y hy => ?_) fun env he s1 x1 => ?_))
  · have hp := S.par y.1 (List.of_mem_zip (show (y.1, y.2) ∈ ps.zip [Value.ref a] from hy)).1
    exact hp.imp id fun c => ⟨c, PySem.W.cellsFrom_some _ _ _ (.inl c)⟩
  · subst he
    obtain ⟨F0, Qd, e, hs, hq⟩ := hs
    have R0 := rs_startE (K := K) (N := N) (a := a) e hN
    have post : ∀ {F1 H1 : Hp} {σ : L2.St} {sd : DSt}, Rs K ⟨F0, H, fun _ => False, false⟩ F1 H1 σ sd → Post K F0 H F1 H1 := fun R => ⟨R.grow, R.ext, fun a o z => R.keep a o z (fun q => q), R.new⟩
    have ht := hbody cdv A outer s H E ⟨F0, H, fun _ => False, false⟩ c T a oe rfl (hr.deeper _) hT hz hfl z1 z2 z3 (by simp [cxE, cxD, L2.cxOf])
    have ht2 : tDS K ⟨F0, H, fun _ => False, false⟩ (m c a) { nx := fun _ H' => Q .non H', rt := Q } (L2.start N [.ref a]) H := by
      refine ⟨F0, _, endP Qd, R0, ⟨fun F1 H1 σ sd _ R q => ?_, fun F1 H1 σ sd v r _ R rv own q => ?_, fun _ _ _ _ _ _ z => z.elim, fun _ _ _ _ _ _ z => z.elim⟩, rd c a Qd hs⟩
      · exact hq .non H1 F1 (.va .none) (post R) .non q
      · refine hq v H1 F1 r (post R) ?_ q
        cases r with
        | no => trivial
        | va d => obtain ⟨v', e1, q⟩ := rv; cases e1; exact q
        | own ds' => obtain ⟨p, vs', e1, h1, h2, h3, h4⟩ := rv; cases e1; exact ⟨p, vs', rfl, h1, h2, h3, h4⟩
        | scr ns => obtain ⟨p, e1, h1⟩ := rv; cases e1; exact ⟨p, rfl, h1⟩
        | exc a => exact Option.some.inj rv
        | ins c es => obtain ⟨p, Cc, dx, fs, e1, h1, h2, h3, oc, h4⟩ := rv; cases e1; exact ⟨p, Cc, dx, fs, rfl, h1, h2, own rfl p rfl, oc, h4⟩
        | well n => obtain ⟨p, a, b, c, e1, h1, h2, h3, h4⟩ := rv; cases e1; exact ⟨p, a, b, c, rfl, h1, h2, own rfl p rfl, h4⟩
    have e00 : Env0 P w K mg base { A with handled := none } outer s H := ⟨e0.frames, e0.mod, e0.bs, e0.bsz, e0.funs, e0.frf, e0.hok, e0.bare⟩
    have I1 := inv_start (CX := L2.CX P w) (E := E) S (A := { A with handled := none }) rfl e00 (vs := [.ref a]) (us := [.ref a]) len.symm rv x1
    have I0 : L2.Inv (cxE P w K mg base N qual (defScope st) f cdv A outer s H E) [] (L2.start N [.ref a]) H s1 :=
      ⟨⟨I1.ok.mod, I1.ok.kind, I1.ok.glob, I1.ok.blt, I1.ok.above, I1.ok.inj, I1.ok.has, I1.ok.cab, (fun z => nomatch z), I1.ok.frames, I1.ok.stk, I1.ok.exf, I1.ok.bs, I1.ok.bsz, I1.ok.noex, I1.ok.exfs, I1.ok.funs, I1.ok.frf⟩, I1.os, I1.bare, I1.base, I1.loc, I1.cell, I1.free, I1.freeC, I1.pin, I1.hok, I1.len⟩
    refine ⟨(e0.mod.nolimit.keeps stays).keeps x1.toInCall.keep, codeAny_func (wpAny_mono (ht.run [] s1 _ H _ I0 ht2) (fun fl s2 h2 => ?_) fun _ _ h2 => h2)⟩
    cases fl with
    | brk => exact h2.elim fun _ h => h.elim fun _ h => h.2.elim
    | cont => exact h2.elim fun _ h => h.elim fun _ h => h.2.elim
    | next => exact h2.elim fun σ2 h => h.elim fun H2 h => ⟨V.non, H2, h.1.os, h.1.bare, h.1.base, h.1.hok, rfl, h.2⟩
    | ret u => exact h2.elim fun v h => h.elim fun σ2 h => h.elim fun H2 h => ⟨v, H2, h.1.os, h.1.bare, h.1.base, h.1.hok, h.2.1, h.2.2⟩
end
/-- a dict display of constant texts, each with a number -/
def mDispI (kvs : List (Str × Int)) : ME := fun sd Q => Q (.dict (kvs.map fun kv => (.str kv.1, .int kv.2))) sd
section
variable {K : PySem.W.Frag} {X : Cx} {C : Ct}
theorem tPairs_i : ∀ (kvs : List (Str × Int)) (σ : L2.St) (H : Hp) (Q : List (V × V) → Hp → Prop), Q (kvs.map fun kv => (V.str kv.1, V.int kv.2)) H → tPairs (kvs.map fun kv => (tC (.str kv.1), tC (.int kv.2))) σ H Q
  | [], _, _, _, h => h
  | (x, y) :: r, σ, H, Q, h => tPairs_i r σ H (fun ps H3 => Q ((V.str x, V.int y) :: ps) H3) h
def keysI (kvs : List (Str × Int)) : List (Key × V) := kvs.map fun kv => (Sum.inr kv.1, V.int kv.2)
theorem rpD_keysI {F : Hp} : ∀ kvs : List (Str × Int), RpD K F (keysI kvs) (kvs.map fun kv => (.str kv.1, .int kv.2))
  | [] => .nil
  | (x, y) :: r => .cons (k := Sum.inr x) (.int y) (rpD_keysI r)
theorem pd_dispI {pos : Pos} {keys : List (Option Expr)} {values : List Expr} (kvs : List (Str × Int)) (h : PPs X pos keys values (kvs.map fun kv => (tC (.str kv.1), tC (.int kv.2)))) (hall : keys.all (·.isSome) = true) (hl : keys.length = values.length) (h0 : keys ≠ [])
    (h15 : keys.length ≤ 15) (hk : kvs.length ≤ 15) (hm : mergeK [] (keysI kvs) = keysI kvs) : PE X (.Dict keys values pos) (tD X.K C (mDispI kvs)) := pe_imp (pe_disp h hall hl h0 h15) (by
  rintro σ H Q ⟨F, sd, Qd, R, h, k⟩ p hp
  refine tPairs_i kvs σ _ _ ?_
  refine ⟨upd_same, keysI kvs, by unfold keysI; rw [List.map_map]; rfl, by unfold keysI; rw [List.length_map]; exact hk, ?_⟩
  rw [hm]
  have e2 : upd (upd H p (.dK [])) p (.dK (keysI kvs)) = upd H p (.dK (keysI kvs)) := by
    funext b; unfold upd; by_cases q : b = p <;> simp [q]
  rw [e2]
  exact k (.ref p) _ _ _ sd (R.al (.new hp)) (.al R (.new hp)) (.dct upd_same (rpD_keysI kvs)) h)
end
end DL
namespace DL
open PySem PySem.Spec PyProof.Rows L2
def opStarts : PyData → PyData → Option PyData
  | .str a, .str b => some (.bool (Txt.startswith a b))
  | _, _ => none
def opSplit : PyData → PyData → Option PyData
  | .str a, .str b => if (b.length == 0) = false ∧ a.length + 2 ≤ sizeLine then some (.list ((Txt.split a b).map .str)) else none
  | _, _ => none
def opZfill : PyData → PyData → Option PyData
  | .str a, .int i => if PadOk i = true then some (.str (Txt.zfill a i)) else none
  | _, _ => none
def opAscii : PyData → Option PyData
  | .str a => some (.bool (Txt.isascii a))
  | _ => none
def opDigit : PyData → Option PyData
  | .str a => some (.bool (Txt.isdigit a))
  | _ => none
def bStrI : List PyData → Option PyData
  | [.int i] => if i.natAbs.log2 < 1920 then some (.str (Str.ofString (toString i))) else none
  | _ => none
def bIntS : List PyData → Option PyData
  | [.str a] => match PySem.intText? a with
    | some n => if a.length ≤ 640 then some (.int n) else none
    | none => none
  | _ => none
/-- range(i, j, c): n turns from lo by steps of c -/
def rangeC (lo c : Int) (n : Nat) : List PyData := (List.range n).map fun i : Nat => .int (lo + (i : Int) * c)
def miRng3 (ma : MA) : MI := fun sd Q => ma sd fun ds s1 => ∃ (i j c : Int) (n : Nat), ds = [.int i, .int j, .int c] ∧ (0 < c ∧ c < 100000 ∧ 0 ≤ i ∧ i < 2 ^ 60 ∧ 0 ≤ j ∧ j < 2 ^ 60) ∧ (if i < j then (j - i - 1) / c + 1 else 0) = (n : Int) ∧ Q (rangeC i c n) s1
/-- s.f(): s a text -/
def mStr0 (f : PyData → Option PyData) (ma : ME) : ME := fun sd Q => ma sd fun a s1 => ∃ s, a = .str s ∧ ∃ r, f (.str s) = some r ∧ Q r s1
section
variable {K : PySem.W.Frag} {X : Cx} {C : Ct}
theorem rc_strI : RLC K (fun xs H Q => ∃ i, xs = [V.int i] ∧ i.natAbs.log2 < 1920 ∧ Q (.str (Str.ofString (toString i))) H) bStrI := by
  intro F H xs as z Q e _ rx h k
  unfold bStrI at h
  split at h
  · obtain ⟨x, rfl, r⟩ := rpA1 rx
    split at h
    · rename_i hl
      cases h
      cases r
      exact ⟨_, rfl, hl, k _ F H .id (.str _)⟩
    · cases h
  · cases h
theorem rc_intS : RLC K (fun xs H Q => ∃ a n, xs = [V.str a] ∧ PySem.intText? a = some n ∧ a.length ≤ 640 ∧ Q (.int n) H) bIntS := by
  intro F H xs as z Q e _ rx h k
  unfold bIntS at h
  split at h
  · obtain ⟨x, rfl, r⟩ := rpA1 rx
    split at h
    · rename_i n hn
      split at h
      · rename_i hl
        cases h
        cases r
        exact ⟨_, n, rfl, hn, hl, k _ F H .id (.int _)⟩
      · cases h
    · cases h
  · cases h
theorem td_str0 {r : V → List V → Hp → VK → Prop} {f : PyData → Option PyData} {ma : ME}
    (L : ∀ (H : Hp) (F : Hp) (s : Str) (z : PyData) (Q : VK), f (.str s) = some z → (∀ v, Rp K F v z → Q v H) → r (.str s) [] H Q) :
    ∀ σ H Q, tD K C (mStr0 f ma) σ H Q → tBM0 K "str" r (tD K C ma) σ H Q := by
  rintro σ H Q ⟨F, sd, Qd, R, h, k⟩
  refine ⟨F, sd, _, R, h, fun x H1 F1 a sd1 R1 S1 rx h1 => ?_⟩
  obtain ⟨s, rfl, z, e, q⟩ := h1
  cases rx
  exact ⟨rfl, L H1 F1 s z Q e fun v rz => k v H1 F1 z sd1 R1 S1 rz q⟩
variable {o e : Expr} {apos cpos : Pos} {ma mb : ME}
theorem pd_ascii (t : PE X (.Call (.Attribute o "isascii" apos) [] [] cpos) (tBM0 X.K "str" (fun x xs H Q => ∃ a, x = V.str a ∧ xs = [] ∧ True ∧ Q (V.bl (Txt.isascii a)) H) (tD X.K C ma))) : PE X (.Call (.Attribute o "isascii" apos) [] [] cpos) (tD X.K C (mStr0 opAscii ma)) := pe_imp t (td_str0 (by
  intro H F s z Q e k
  have e : some (PyData.bool (Txt.isascii s)) = some z := e
  cases e
  exact ⟨s, rfl, rfl, trivial, k _ (.bl _)⟩))
theorem pd_digit (t : PE X (.Call (.Attribute o "isdigit" apos) [] [] cpos) (tBM0 X.K "str" (fun x xs H Q => ∃ a, x = V.str a ∧ xs = [] ∧ True ∧ Q (V.bl (Txt.isdigit a)) H) (tD X.K C ma))) : PE X (.Call (.Attribute o "isdigit" apos) [] [] cpos) (tD X.K C (mStr0 opDigit ma)) := pe_imp t (td_str0 (by
  intro H F s z Q e k
  have e : some (PyData.bool (Txt.isdigit s)) = some z := e
  cases e
  exact ⟨s, rfl, rfl, trivial, k _ (.bl _)⟩))
theorem pd_starts (t : PE X (.Call (.Attribute o "startswith" apos) [e] [] cpos) (tBM X.K "str" (fun x xs H Q => ∃ a b, x = V.str a ∧ xs = [V.str b] ∧ Q (V.bl (Txt.startswith a b)) H) (tD X.K C ma) (tCons (tD X.K C mb) tNil))) : PE X (.Call (.Attribute o "startswith" apos) [e] [] cpos) (tD X.K C (mStrM opStarts ma mb)) := pe_imp t (td_strM1 (by
  intro F H s y b z Q e ry h k
  cases b with
  | str b' =>
    cases ry
    have h : some (PyData.bool (Txt.startswith s b')) = some z := h
    cases h
    exact ⟨_, _, rfl, rfl, k _ (.bl _)⟩
  | _ => cases h))
theorem pd_zfill (t : PE X (.Call (.Attribute o "zfill" apos) [e] [] cpos) (tBM X.K "str" (fun x xs H Q => ∃ a i, x = V.str a ∧ xs = [V.int i] ∧ PadOk i = true ∧ Q (V.str (Txt.zfill a i)) H) (tD X.K C ma) (tCons (tD X.K C mb) tNil))) : PE X (.Call (.Attribute o "zfill" apos) [e] [] cpos) (tD X.K C (mStrM opZfill ma mb)) := pe_imp t (td_strM1 (by
  intro F H s y b z Q e ry h k
  cases b with
  | int i =>
    cases ry
    have h : (if PadOk i = true then some (PyData.str (Txt.zfill s i)) else none) = some z := h
    split at h
    · rename_i hp
      cases h
      exact ⟨_, _, rfl, rfl, hp, k _ (.str _)⟩
    · cases h
  | _ => cases h))
theorem rpA_ofStrs {F : Hp} : ∀ ys : List Str, RpA K F (ys.map V.str) (ys.map .str)
  | [] => .nil
  | y :: ys => .cons (.str y) (rpA_ofStrs ys)
theorem pd_split (t : PE X (.Call (.Attribute o "split" apos) [e] [] cpos) (tBM X.K "str" (fun x xs H Q => ∃ a b, x = V.str a ∧ xs = [V.str b] ∧ (b.length == 0) = false ∧ a.length + 2 ≤ sizeLine ∧ rNewStrs (Txt.split a b) H Q) (tD X.K C ma) (tCons (tD X.K C mb) tNil))) : PE X (.Call (.Attribute o "split" apos) [e] [] cpos) (tD X.K C (mStrM opSplit ma mb)) := pe_imp t (by
  rintro σ H Q ⟨F, sd, Qd, R, h, k⟩
  refine ⟨F, sd, _, R, h, fun x H1 F1 a sd1 R1 S1 rx h1 => ?_⟩
  obtain ⟨s, rfl, h1⟩ := h1
  cases rx
  refine ⟨rfl, F1, sd1, _, R1, h1, fun y H2 F2 b sd2 R2 S2 ry h2 => ?_⟩
  obtain ⟨z, e, q⟩ := h2
  cases b with
  | str b' =>
    cases ry
    have e : (if (b'.length == 0) = false ∧ s.length + 2 ≤ sizeLine then some (PyData.list ((Txt.split s b').map .str)) else none) = some z := e
    split at e
    · rename_i hc
      cases e
      refine ⟨s, b', rfl, rfl, hc.1, hc.2, fun p hp => ?_⟩
      exact k (.ref p) _ _ _ sd2 (R2.al (.new hp)) ((S1.trans S2).trans (.al R2 (.new hp))) (.lst upd_same (rpA_ofStrs _)) q
    · cases e
  | _ => cases e)
theorem wk_rangeC {F : Hp} {lo c : Int} {n : Nat} : Wk K (Itc lo c n) F (rangeC lo c n) := by
  have hl : (rangeC lo c n).length = n := by simp [rangeC]
  refine ⟨fun _ => True, YFn fun i => .int (lo + (i : Nat) * c), by rw [hl]; exact walk_rangeC, fun _ _ => trivial, fun i H x H' F' hi e1 e2 y => ?_⟩
  obtain ⟨rfl, rfl⟩ := y
  refine ⟨F', _, .id, ?_, .int _⟩
  unfold rangeC
  rw [List.getElem?_map, List.getElem?_range (by rw [hl] at hi; exact hi)]
  rfl
theorem rgC_ok {i j c : Int} {n : Nat} (h : 0 < c ∧ c < 100000 ∧ 0 ≤ i ∧ i < 2 ^ 60 ∧ 0 ≤ j ∧ j < 2 ^ 60) (hn : (if i < j then (j - i - 1) / c + 1 else 0) = (n : Int)) : RgC i j c n := by
  obtain ⟨c0, c1, i0, i1, j0, j1⟩ := h
  have sz : Builtin.Range.rangeSize i j c = (n : Int) := by
    unfold Builtin.Range.rangeSize
    rw [if_pos (by omega)]
    exact hn
  have nb : (n : Int) ≤ 2 ^ 61 := by
    rw [← hn]
    split
    · have := Int.ediv_le_self c (show 0 ≤ j - i - 1 by omega)
      omega
    · decide
  have fit : ∀ z : Int, 0 ≤ z → z ≤ 2 ^ 61 → Builtin.Range.rangeFitsLong z = true := by
    intro z h0 h1
    unfold Builtin.Range.rangeFitsLong
    simp
    omega
  refine ⟨by omega, by omega, ?_, sz⟩
  unfold Builtin.Range.small
  rw [sz, fit i i0 (by omega), fit j j0 (by omega), fit c (by omega) (by omega), fit n (by omega) nb, if_pos (by omega), fit (j + (c - 1)) (by omega) (by omega)]
  simp
theorem d_range3 {tg a b c : Expr} {p pos : Pos} {m : MA} (hm : X.mg "range" = none) (h : PA X [a, b, c] (tDA X.K C m)) (hg : Gl X "range" := by rfl) (hs : starEach [a, b, c] X.env = (false, eval a X.env) :: starEach [b, c] X.env := by rfl) (hs2 : ((backTo pos (starEach [b, c] X.env)).any fun x => x.fst) = false := by rfl) : PI X tg (.Call (.Name "range" p) [a, b, c] [] pos) (tDI X.K C (miRng3 m)) := pi_imp (pi_range3 hg hm h hs hs2) (by
  rintro σ H R0 ⟨F, sd, Qd, R, h, k⟩
  refine ⟨F, sd, _, R, h, fun vs H1 F1 ds sd1 R1 S1 rs q => ?_⟩
  obtain ⟨i, j, c, n, rfl, hc, hn, q⟩ := q
  cases rs with
  | cons r rs =>
    obtain ⟨y, z, rfl, r', r2⟩ := rpA2 rs
    cases r; cases r'; cases r2
    exact ⟨i, j, c, n, rfl, rgC_ok hc hn, k _ H1 F1 _ sd1 R1 S1 wk_rangeC q⟩)
end
end DL
namespace DL
open PySem PySem.Spec PyProof.Rows L2
/-- all that is still owned holds flat things only -/
def flatOwn (sd : DSt) : Prop := (∀ j ds, sget sd j = .own ds → ∀ d ∈ ds, flatD d = true) ∧ ∀ j c es, sget sd j ≠ .ins c es
/-- e, with a flat value, reads slot i, which owns a list and goes on owning it -/
def mPeek (i : Nat) (me : ME) : ME := fun sd Q => ∃ ds, sget sd i = .own ds ∧ flatOwn sd ∧ me sd fun d s1 => flatD d = true ∧ s1 = sset sd i (.va (.list ds)) ∧ Q d sd
/-- return x, x a slot that owns its list -/
def mRetV (i : Nat) : MS := fun D sd => ∃ ds, sget sd i = .own ds ∧ D.rt (.own ds) sd
/-- text.split(sign), a list that nobody else holds -/
def mrSplit (ma mb : ME) : MR := fun sd Q => ma sd fun a s1 => (∃ z, a = .str z) ∧ mb s1 fun b s2 => ∃ xs, opSplit a b = some (.list xs) ∧ Q (.own xs) s2
theorem rp_flat {K : PySem.W.Frag} {F F' : Hp} : ∀ {d : PyData} {v : V}, flatD d = true → Rp K F v d → Rp K F' v d
  | .none, _, _, .non => .non
  | .bool _, _, _, .bl b => .bl b
  | .int _, _, _, .int i => .int i
  | .str _, _, _, .str x => .str x
theorem rpA_flat {K : PySem.W.Frag} {F F' : Hp} : ∀ {ds : List PyData} {vs : List V}, (∀ d ∈ ds, flatD d = true) → RpA K F vs ds → RpA K F' vs ds
  | [], _, _, .nil => .nil
  | _ :: _, _, h, .cons a r => .cons (rp_flat (h _ (List.mem_cons_self ..)) a) (rpA_flat (fun d m => h d (List.mem_cons_of_mem _ m)) r)
section
variable {K : PySem.W.Frag} {X : Cx} {C : Ct}
theorem Rs.peek {F H F1 H1 : Hp} {σ : L2.St} {sd : DSt} {i : Nat} {ds : List PyData} (R : Rs K C F H σ sd) (h : sget sd i = .own ds) (fl : flatOwn sd) (R1 : Rs K C F1 H1 σ (sset sd i (.va (.list ds)))) (S1 : Stp σ sd F H F1 H1 (sset sd i (.va (.list ds)))) :
    Rs K C F H1 σ sd ∧ Stp σ sd F H F H1 sd := by
  have hl : i < sd.length := by
    by_cases z : i < sd.length
    · exact z
    · rw [sget_out (by omega)] at h; cases h
  refine ⟨⟨R.len, R.grow, fun a o e => R1.ext a o (S1.fr a o e), R.new, R1.keep, R1.still, fun j => ?_, R.sep⟩, ⟨Same.refl _, S1.kp, fun _ z => z, fun _ _ z => .inl z, S1.st⟩⟩
  by_cases ji : j = i
  · subst ji
    have a := R.slot j
    have b := R1.slot j
    rw [h] at a ⊢
    rw [sget_sset hl] at b
    obtain ⟨p, vs, e1, e2, e3, e4, r⟩ := a
    obtain ⟨v, e5, r1⟩ := b
    rw [e1] at e5
    cases e5
    cases r1 with
    | lst e6 r1 => exact ⟨p, _, e1, R1.ext _ _ e6, e3, e4, rpA_flat (fl.1 j ds h) r1⟩
  · have a := R.slot j
    have b := R1.slot j
    rw [sget_sset_ne ji] at b
    generalize hs : sget sd j = s at a b
    cases s with
    | no => trivial
    | va d => exact a
    | scr ns => exact a
    | exc q => exact a
    | ins c es => exact absurd hs (fl.2 j c es)
    | own es =>
      obtain ⟨p, vs, e1, e2, e3, e4, r⟩ := a
      obtain ⟨p', vs', f1, f2, f3, f4, r'⟩ := b
      rw [e1] at f1
      cases f1
      exact ⟨p, vs', e1, f2, e3, e4, rpA_flat (fl.1 j es hs) r'⟩
    | well n =>
      obtain ⟨p, x, y, z, e1, e2, e3, e4, r⟩ := a
      obtain ⟨p', x', y', z', f1, f2, f3, f4, r'⟩ := b
      rw [e1] at f1
      cases f1
      exact ⟨p, x', y', z', e1, f2, e3, e4, r'⟩
theorem pd_peek {i : Nat} {e : Expr} {me : ME} (he : PE X e (tD X.K C me)) : PE X e (tD X.K C (mPeek i me)) := pe_imp he (by
  rintro σ H Q ⟨F, sd, Qd, R, ⟨ds, h0, fl, h⟩, k⟩
  refine ⟨F, sd, _, R, h, fun v H1 F1 d sd1 R1 S1 rv hh => ?_⟩
  obtain ⟨fd, rfl, q⟩ := hh
  obtain ⟨R2, S2⟩ := R.peek h0 fl R1 S1
  exact k v H1 F d sd R2 S2 (rp_flat fd rv) q)
theorem pds_retV {i : Nat} {y : Str} {p pos : Pos} (he : PE X (.Name y p) (tVar i)) : PS X (.Return (some (.Name y p)) pos) (tDS X.K C (mRetV i)) := ps_imp (ps_ret he) (by
  rintro D σ H ⟨F, sd, Dd, R, E, ds, h0, h⟩
  have a := R.slot i
  rw [h0] at a
  obtain ⟨q, vs, e1, e2, e3, e4, r⟩ := a
  refine ⟨.ref q, gv_some.mp e1, ?_⟩
  exact E.rt F H σ sd (.ref q) (.own ds) (Same.refl _) R ⟨q, vs, rfl, e2, e3, e4, r⟩ (fun _ q' e => by cases e; exact e4) h)
variable {o e : Expr} {apos cpos : Pos} {ma mb : ME}
theorem pdr_split (t : PE X (.Call (.Attribute o "split" apos) [e] [] cpos) (tBM X.K "str" (fun x xs H Q => ∃ a b, x = V.str a ∧ xs = [V.str b] ∧ (b.length == 0) = false ∧ a.length + 2 ≤ sizeLine ∧ rNewStrs (Txt.split a b) H Q) (tD X.K C ma) (tCons (tD X.K C mb) tNil))) : PE X (.Call (.Attribute o "split" apos) [e] [] cpos) (tDR X.K C (mrSplit ma mb)) := pe_imp t (by
  rintro σ H Q ⟨F, sd, Qd, R, h, k⟩
  refine ⟨F, sd, _, R, h, fun x H1 F1 a sd1 R1 S1 rx h1 => ?_⟩
  obtain ⟨⟨s, rfl⟩, h1⟩ := h1
  cases rx
  refine ⟨rfl, F1, sd1, _, R1, h1, fun y H2 F2 b sd2 R2 S2 ry h2 => ?_⟩
  obtain ⟨z, e, q⟩ := h2
  cases b with
  | str b' =>
    cases ry
    have e : (if (b'.length == 0) = false ∧ s.length + 2 ≤ sizeLine then some (PyData.list ((Txt.split s b').map .str)) else none) = some (.list z) := e
    split at e
    · rename_i hc
      cases e
      refine ⟨s, b', rfl, rfl, hc.1, hc.2, fun p hp => ?_⟩
      have S := S1.trans S2
      refine k (.ref p) _ F2 (.own _) sd2 (R2.allocH hp) (S.trans ⟨Same.refl _, fun a o e _ => same_new hp a o e, fun _ z => z, fun _ _ e => .inl e, fun a e => ?_⟩) ⟨p, _, rfl, upd_same, R2.free hp, R2.still p hp, rpA_ofStrs _⟩ (fun _ q' e => ?_) (fun _ q' e => ?_) q
      · by_cases z : a = p
        · subst z; exact hp
        · rw [upd_ne z] at e; exact e
      · cases e; exact (R2.fresh hp).1
      · cases e; exact S.st p hp
    · cases e
  | _ => cases e)
end
end DL
namespace DL
open PySem PySem.Spec PyProof.Rows L2
theorem RoomG.make {k : Nat} {A : Around} (h : RoomG (k + 1) A) (C : Addr) (us : List Value) (kw : List (Str × Value)) : RoomG k (A.under (.builtin "type.__call__" { pos := .ref C :: us, kw := kw })) := ⟨h.r.make C us kw, by
  unfold Around.under
  dsimp only
  rw [h.g]
  rfl⟩
section
variable {X : Cx} {k : Nat} {f C : Addr} {fd : FuncData} {ps : List Str} {sp : Sp} {E : L2.St → XK}
theorem run_makeG {pins : List (Addr × Obj)} {σ : L2.St} {H : Hp} {s : Shared} {Q : VK} {us : List Value} {vs : List V} (M : Mk X.K C f) (F : FnG X.prog X.w X.K X.mg X.base k f fd ps sp) (hr : RoomG (k + 1) X.A) (hb : Binds X.K fd ps []) (hx : PassesAt (L2.CX X.prog X.w) X σ (E σ))
    (I : L2.Inv X pins σ H s) (r : Vals vs us) (h : ∀ x dx, H x = none → H dx = none → dx ≠ x → sp (.ref x :: vs) (upd (upd H dx (.own x)) x (.ins C dx [])) (fun v H2 => v = .non ∧ Q (.ref x) H2) (E σ)) :
    wpAny (model X.prog X.w) X.A (call (.ref C) us) (EP X pins σ Q) X.xe s := by
  have I1 := I.made (C := C)
  have f1 := I.hok.fresh (a := s.heap.objs.size) (Nat.le_refl _)
  have f2 := I.hok.fresh (a := s.heap.objs.size + 1) (Nat.le_succ _)
  have hs := h (s.heap.objs.size + 1) s.heap.objs.size f2 f1 (Nat.ne_of_lt (Nat.lt_succ_self _))
  have rr : Vals (V.ref (s.heap.objs.size + 1) :: vs) (Value.ref (s.heap.objs.size + 1) :: us) := .cons rfl r
  have hl : ((Value.ref (s.heap.objs.size + 1) :: us) ++ []).length = ps.length := by rw [List.append_nil, ← rr.length]; exact F.len _ _ _ _ hs
  have b := hb _ (Value.ref (s.heap.objs.size + 1) :: us) I1.kIn hl
  rw [List.append_nil] at b
  refine wpAny_call (make_map I.kIn M.makes M.init (by have := M.fn; simpa [PySem.W.isFn] using this) (codeAny_mono (F.run (hr.make C us []) (I1.env0.make C us []) b rr hs) fun r s' hq => ?_))
  cases r with
  | error e => exact hx pins _ _ e s' I1 hq
  | ok fl =>
    cases fl with
    | ret u =>
      have q := I1.after hq
      obtain ⟨v, H2, I2, rv, hv, hq2⟩ := q
      subst hv
      cases rv
      exact ⟨rfl, .ref _, H2, I2, rfl, hq2⟩
    | next => exact hq
    | brk => exact hq
    | cont => exact hq
/-- C(e, ..) of an own class with __init__ -/
def tMakeG (C : Addr) (sp : Sp) (E : L2.St → XK) (t : TA) : TE := fun σ H Q => t σ H fun vs H1 => ∀ x dx, H1 x = none → H1 dx = none → dx ≠ x → sp (.ref x :: vs) (upd (upd H1 dx (.own x)) x (.ins C dx [])) (fun v H2 => v = .non ∧ Q (.ref x) H2) (E σ)
theorem pe_makeG {x : Str} {p pos : Pos} {e : Expr} {es : List Expr} {t : TA} (M : Mk X.K C f) (F : FnG X.prog X.w X.K X.mg X.base k f fd ps sp) (hr : RoomG (k + 1) X.A) (hg : Gl X x) (hm : X.mg x = some (.ref C)) (hb : Binds X.K fd ps []) (hx : ∀ σ, PassesAt (L2.CX X.prog X.w) X σ (E σ))
    (ha : PA X (e :: es) t) (hdb : (x == ("__debug__" : Str)) = false) (he : starEach (e :: es) X.env = (false, eval e X.env) :: starEach es X.env) (hpl : (backTo pos (starEach es X.env)).any (·.1) = false) :
    PE X (.Call (.Name x p) (e :: es) [] pos) (tMakeG C sp E t) :=
  ⟨fun pins s σ H Q I h => wpAny_Call_Name_kw (ld_glob I hg hm (PySem.W.callWith_K (h₀ := X.base) I.ok.mod.kin M.kp (thn (ha.run pos pins s σ H _ I h) fun us s1 hh => by
    obtain ⟨vs, H1, I1, r, q⟩ := hh
    exact ⟨I1.kIn, run_makeG M F hr hb (hx σ) I1 r q⟩) he hpl) hdb)⟩
theorem ins_inst {P : Program} {w : World} {H : Hp} {h : Heap} {a dx : Addr} {fs : List (Str × V)} (hok : HOk P w H h) (e : H a = some (.ins C dx fs)) : ∃ ox od, PySem.W.InstAt h a ox C od := by
  obtain ⟨mA, o, -⟩ := ins_get hok e
  have n := o.ns
  unfold Heap.Ns1 at n
  obtain ⟨o2, es, ep, h2, -⟩ := n
  exact ⟨_, some o2, o.obj, rfl, rfl, h2⟩
/-- a op b by the def of the left one's class -/
def rBinO (C : Addr) (sp : Sp) : R2 := fun x y H Q => ∃ a b dx dy fs gs, x = .ref a ∧ y = .ref b ∧ H a = some (.ins C dx fs) ∧ H b = some (.ins C dy gs) ∧ sp [x, y] H Q fun _ _ _ => False
theorem op_binO {op : Operator} (hf : PySem.W.findIn X.K (.ref C) (dunder op.info.snd) = some (some (.ref f))) (hfn : PySem.W.isFn X.K (.ref f) = true) (sf : PySem.W.selfFirst X.K C = true) (F : FnG X.prog X.w X.K X.mg X.base k f fd ps sp) (hb : Binds X.K fd ps []) (hr : RoomG k X.A) : OpR X (binaryOp op) (rBinO C sp) := by
  intro pins s σ H x y v u Q I rx ry h
  obtain ⟨a, b, dx, dy, fs, gs, rfl, rfl, h1, h2, q⟩ := h
  cases (show v = Value.ref a from rx)
  cases (show u = Value.ref b from ry)
  obtain ⟨m, fr⟩ := I.fr
  obtain ⟨ox, od, J⟩ := ins_inst I.hok h1
  obtain ⟨oy, od', J'⟩ := ins_inst I.hok h2
  refine PySem.W.binop_K fr I.ok.mod.kin J J'.type sf hf hfn ?_
  refine wpAny_mono (wp_callG (E := fun _ _ _ _ => False) F hr hb (fun pins H s e s' _ z => ?_) I (vs := [V.ref a, V.ref b]) (.cons (show L2.RelV (V.ref a) (.ref a) from rfl) (.cons (show L2.RelV (V.ref b) (.ref b) from rfl) .nil)) q) (fun v s' hq => ?_) fun _ _ z => z
  · obtain ⟨_, _, _, _, _, _, _, _, _, _, _, _, z⟩ := z
    exact z.elim
  · obtain ⟨z, H2, I2, rz, hq⟩ := hq
    exact SlX.cmpback rz ⟨z, H2, I2, rz, hq⟩
end
theorem RpF.get {K : PySem.W.Frag} {F : Hp} {n : Str} {d : PyData} : ∀ {fs : List (Str × V)} {es : List PyData}, RpF K F fs es → fget n es = some d → ∃ v, fs.lookup n = some v ∧ Rp K F v d
  | _, _, .nil, h => by cases h
  | _, _, .cons (n := m) (v := v) (fs := fs) (d := d') (es := es) a r, h => by
    have h : (if n = m then some d' else fget n es) = some d := h
    by_cases e : n = m
    · rw [if_pos e] at h
      cases h
      exact ⟨v, by simp [List.lookup, e], a⟩
    · rw [if_neg e] at h
      obtain ⟨w, h1, h2⟩ := RpF.get r h
      have : (n == m) = false := beq_false_of_ne e
      exact ⟨w, by simp only [List.lookup, this]; exact h1, h2⟩
theorem RpF.put {K : PySem.W.Frag} {F : Hp} {n : Str} {v : V} {d : PyData} (q : Rp K F v d) : ∀ {fs : List (Str × V)} {es : List PyData}, RpF K F fs es → RpF K F (putF n v fs) (fput n d es)
  | _, _, .nil => .cons q .nil
  | _, _, .cons (n := m) (v := v') (fs := fs) (d := d') (es := es) a r => by
    show RpF K F (if m = n then (m, v) :: fs else (m, v') :: putF n v fs) (if m = n then .tuple [.str m, d] :: es else .tuple [.str m, d'] :: fput n d es)
    by_cases e : m = n
    · rw [if_pos e, if_pos e]; exact .cons q r
    · rw [if_neg e, if_neg e]; exact .cons a (RpF.put q r)
theorem RpF.length {K : PySem.W.Frag} {F : Hp} : ∀ {fs : List (Str × V)} {es : List PyData}, RpF K F fs es → fs.length = es.length
  | _, _, .nil => rfl
  | _, _, .cons _ r => by simp [RpF.length r]
/-- e.n, e a frozen instance of the class c -/
def opAttr (c n : Str) : PyData → Option PyData
  | .dict [(.none, .tuple (.str c' :: es))] => if c' = c then fget n es else none
  | _ => none
/-- e.n, e the instance in slot i that nobody else holds -/
def mAttrO (i : Nat) (c n : Str) : ME := fun sd Q => ∃ es d, sget sd i = .ins c es ∧ fget n es = some d ∧ Q d sd
/-- x.n = e, x the instance in slot i that nobody else holds -/
def mSetF (i : Nat) (c n : Str) (me : ME) : MS := fun D sd => me sd fun d s1 => ∃ es, sget s1 i = .ins c es ∧ es.length < 900 ∧ D.nx (sset s1 i (.ins c (fput n d es)))
theorem rp_obj {K : PySem.W.Frag} {F : Hp} {x : V} {c : Str} {es : List PyData} (r : Rp K F x (objD c es)) : ∃ a Cc dx fs, x = .ref a ∧ F a = some (.ins Cc dx fs) ∧ ObjC K c Cc ∧ RpF K F fs es := by
  cases r with
  | dct _ rd => exact (rpD_key rd rfl).elim
  | ins h o r => exact ⟨_, _, _, _, rfl, h, o, r⟩
theorem opAttr_inv {c n : Str} {d z : PyData} (h : opAttr c n d = some z) : ∃ es, d = objD c es ∧ fget n es = some z := by
  unfold opAttr at h
  split at h
  · split at h
    · rename_i c' es e
      subst e
      exact ⟨es, rfl, h⟩
    · cases h
  · cases h
section
variable {X : Cx} {C : Ct}
theorem pd_attr {c n : Str} {e : Expr} {me : ME} {pos : Pos} (na : ∀ Cc, ObjC X.K c Cc → NoAttr X.K Cc n) (he : PE X e (tD X.K C me)) (hb : attributeBase e n X.env (eval e X.env) = eval e X.env := by rfl) : PE X (.Attribute e n pos) (tD X.K C (mOp1 (opAttr c n) me)) :=
  pe_imp (pe_fld he hb) (by
  rintro σ H Q ⟨F, sd, Qd, R, h, k⟩
  refine ⟨F, sd, _, R, h, fun x H1 F1 d sd1 R1 S1 rx h1 => ?_⟩
  obtain ⟨z, ez, q⟩ := h1
  obtain ⟨es, rfl, hg⟩ := opAttr_inv ez
  obtain ⟨a, Cc, dx, fs, rfl, hF, oc, rf⟩ := rp_obj rx
  obtain ⟨v, hl, rv⟩ := rf.get hg
  exact ⟨a, Cc, dx, fs, v, rfl, R1.ext _ _ hF, oc.cl, na Cc oc, hl, k v H1 F1 z sd1 R1 S1 rv q⟩)
theorem pd_attrO {c n : Str} {i : Nat} {e : Expr} {pos : Pos} (na : ∀ Cc, ObjC X.K c Cc → NoAttr X.K Cc n) (he : PE X e (tVar i)) (hb : attributeBase e n X.env (eval e X.env) = eval e X.env := by rfl) : PE X (.Attribute e n pos) (tD X.K C (mAttrO i c n)) :=
  pe_imp (pe_fld he hb) (by
  rintro σ H Q ⟨F, sd, Qd, R, ⟨es, z, hs, hg, q⟩, k⟩
  have a := R.slot i
  rw [hs] at a
  obtain ⟨p, Cc, dx, fs, e1, e2, e3, e4, oc, rf⟩ := a
  obtain ⟨v, hl, rv⟩ := rf.get hg
  exact ⟨.ref p, gv_some.mp e1, p, Cc, dx, fs, v, rfl, e2, oc.cl, na Cc oc, hl, k v H F z sd R .refl rv q⟩)
theorem Rs.setIns {K : PySem.W.Frag} {F H : Hp} {σ : L2.St} {sd : DSt} (R : Rs K C F H σ sd) {i : Nat} {c : Str} {es es' : List PyData} {p Cc dx : Addr} {fs fs' : List (Str × V)} (h : sget sd i = .ins c es) (e : gv σ i = some (.ref p)) (hp : H p = some (.ins Cc dx fs)) (oc : ObjC K c Cc) (r : RpF K F fs' es') :
    Rs K C F (upd H p (.ins Cc dx fs')) σ (sset sd i (.ins c es')) := by
  have hi := R.slot i
  rw [h] at hi
  obtain ⟨p', Cc', dx', fs2, e1, e2, e3, e4, oc', r2⟩ := hi
  rw [e] at e1; cases e1
  have hl : i < sd.length := R.lt_of_own (by rw [h]; intro z; cases z)
  refine ⟨by rw [sset_length]; exact R.len, R.grow, fun a o z => ?_, R.new, fun a o z n => ?_, fun a z => ?_, fun j => ?_, fun j k q hjk o1 o2 z1 => ?_⟩
  · by_cases q : a = p
    · subst q; rw [e3] at z; cases z
    · rw [upd_ne q]; exact R.ext a o z
  · by_cases q : a = p
    · subst q
      rcases e4 with e4 | e4
      · exact absurd e4.2 n
      · rw [e4.2] at z; cases z
    · rw [upd_ne q]; exact R.keep a o z n
  · by_cases q : a = p
    · subst q; rw [upd_same] at z; cases z
    · rw [upd_ne q] at z; exact R.still a z
  · by_cases hj : j = i
    · subst hj
      rw [sget_sset hl]
      exact ⟨p, Cc, dx, fs', e, upd_same, e3, e4, oc, r⟩
    · rw [sget_sset_ne hj]
      refine (R.slot j).grow (Same.refl _) fun q x o eq eh en => ?_
      have : q ≠ p := fun z => by
        subst z
        exact R.sep i j q (Ne.symm hj) (by rw [h]; rfl) o e eq
      rw [upd_ne this]; exact ⟨eh, en⟩
  · have sw : ∀ m, isOwn (sget (sset sd i (.ins c es')) m) = true → isOwn (sget sd m) = true := fun m o => by
      by_cases hm : m = i
      · subst hm; rw [h]; rfl
      · rwa [sget_sset_ne hm] at o
    exact R.sep j k q hjk (sw j o1) (sw k o2) z1
theorem pds_setF {c n : Str} {i : Nat} {o value : Expr} {pos pos' : Pos} {me : ME} (na : ∀ Cc, ObjC X.K c Cc → NoAttr X.K Cc n) (ho : PE X o (tVar i)) (hv : PE X value (tD X.K C me)) (hs : swapsWith value (some (.Attribute o n pos')) pos.line X.env = pure false := by rfl) :
    PS X (.Assign [.Attribute o n pos'] value pos) (tDS X.K C (mSetF i c n me)) := ps_imp (ps_fld ho hv hs) (by
  rintro D σ H ⟨F, sd, Dd, R, E, h⟩
  refine ⟨F, sd, _, R, h, fun v H1 F1 d sd1 R1 S1 rv hh => ?_⟩
  obtain ⟨es, hs, hl, q⟩ := hh
  have a := R1.slot i
  rw [hs] at a
  obtain ⟨p, Cc, dx, fs, e1, e2, e3, e4, oc, rf⟩ := a
  refine ⟨.ref p, gv_some.mp e1, p, Cc, dx, fs, rfl, e2, oc.cl, na Cc oc, by rw [rf.length]; omega, ?_⟩
  exact E.nx F1 _ σ _ S1.fr (R1.setIns hs e1 e2 oc (rf.put rv)) q)
end
abbrev OSpec := List PyData → List PyData → (S → List PyData → Prop) → (String → List PyData → Prop) → Prop
structure PostO (K : PySem.W.Frag) (c : Str) (p : Addr) (F H F' H' : Hp) (es' : List PyData) : Prop where
  fr : Same F F'
  ext : Same F' H'
  kp : ∀ a o, a ≠ p → H a = some o → H' a = some o
  nw : ∀ a o, F' a = some o → F a = some o ∨ H a = none
  ob : ∃ Cc dx fs, H' p = some (.ins Cc dx fs) ∧ F' p = none ∧ ObjC K c Cc ∧ RpF K F' fs es'
def spO (K : PySem.W.Frag) (CN : String → Option Addr) (c : Str) (spec : OSpec) : Sp := fun vs H Q E => ∃ F p ws Cc dx fs es ds Qd Ed, vs = .ref p :: ws ∧ Same F H ∧ F p = none ∧ H p = some (.ins Cc dx fs) ∧ ObjC K c Cc ∧ RpF K F fs es ∧ RpA K F ws ds ∧ spec es ds Qd Ed ∧
  (∀ v H' F' r es', PostO K c p F H F' H' es' → ResOk K F' H H' v r → Qd r es' → Q v H') ∧ ∀ cn a H' F' es', CN cn = some a → PostO K c p F H F' H' es' → Ed cn es' → E (.ref a) none H'
def slotsO (N : Nat) (c : Str) (es ds : List PyData) : DSt := .ins c es :: slots0 (N - 1) ds
def endO (c : Str) (Q : S → List PyData → Prop) : DE := { nx := fun sd => ∃ es, sget sd 0 = .ins c es ∧ Q (.va .none) es, rt := fun r sd => ∃ es, sget sd 0 = .ins c es ∧ Q r es }
section
variable {P : Program} {w : World} {K : PySem.W.Frag} {mg : Str → Option Value} {base : Heap} {CN : String → Option Addr}
theorem rs_startO {F H : Hp} {N : List Str} {c : Str} {p Cc dx : Addr} {fs : List (Str × V)} {vs : List V} {es ds : List PyData} (e : Same F H) (hF : F p = none) (hp : H p = some (.ins Cc dx fs)) (oc : ObjC K c Cc) (rf : RpF K F fs es) (r : RpA K F vs ds) (hl : ds.length + 1 ≤ N.length) :
    Rs K ⟨F, H, fun q => q = p, true⟩ F H (L2.start N (.ref p :: vs)) (slotsO N.length c es ds) where
  len := by unfold L2.start slotsO slots0; simp [r.length]; omega
  grow := Same.refl _
  ext := e
  new := fun a o h => .inl h
  keep := fun a o h _ => h
  still := fun a h => h
  slot := fun i => by
    cases i with
    | zero => exact ⟨p, Cc, dx, fs, rfl, hp, hF, .inl ⟨rfl, rfl⟩, oc, rf⟩
    | succ i =>
      show SlotOk K _ F H _ (sget (slots0 (N.length - 1) ds) i)
      rcases sget_va (s := sget (slots0 (N.length - 1) ds) i) rfl with ⟨d, h1, h2⟩ | h
      · rw [h2]
        obtain ⟨v, e1, rv⟩ := r.get h1
        exact ⟨v, start_gv (i := i + 1) (by simpa using e1), rv⟩
      · rw [h]; trivial
  sep := fun i j q hij o1 o2 => by
    have z : ∀ k, isOwn (sget (slotsO N.length c es ds) k) = true → k = 0 := fun k o => by
      cases k with
      | zero => rfl
      | succ k =>
        have o : isOwn (sget (slots0 (N.length - 1) ds) k) = true := o
        rcases sget_va (s := sget (slots0 (N.length - 1) ds) k) rfl with ⟨d, h1, h2⟩ | h
        · rw [h2] at o; cases o
        · rw [h] at o; cases o
    exact absurd ((z i o1).trans (z j o2).symm) hij
theorem fun_okO {x qual c : Str} {st : Stmt} {f : Addr} {fd : FuncData} {N ps : List Str} {k : Nat} {spec : OSpec} {m : WD → MS} (F : Fun K x qual st f fd) (S : FnScope N ps (defScope st)) (hN : ps.length ≤ N.length) (len : ∀ es ds Q E, spec es ds Q E → ds.length + 1 = ps.length)
    (hbody : ∀ (cdv : Value) (A : Around) (outer : List Env) (s : Shared) (H : Hp) (E : XK) (C : Ct) (W : WD), RoomG k (A.deeper (envOfC qual (defScope st) s.heap.objs.size f cdv)) →
      Takes (cxD P w K mg base N qual (defScope st) f cdv A outer s H E) (wD K C CN W) → PSs (cxD P w K mg base N qual (defScope st) f cdv A outer s H E) (defBody st) (tDS K C (m W)))
    (rd : ∀ es ds Q E, spec es ds Q E → m (fun cn sd => ∃ es', sget sd 0 = .ins c es' ∧ E cn es') (endO c Q) (slotsO N.length c es ds)) : FnG P w K mg base (k + 1) f fd ps (spO K CN c spec) := by
  refine fun_okG F S (fun vs H Q E h => ?_) (fun cdv A outer s H vs Q E hr h => ?_)
  · obtain ⟨F0, p, ws, Cc, dx, fs, es, ds, Qd, Ed, rfl, _, _, _, _, _, r, hs, _⟩ := h
    have := len _ _ _ _ hs
    have := r.length
    simp; omega
  · obtain ⟨F0, p, ws, Cc, dx, fs, es, ds, Qd, Ed, rfl, e, hF, hp, oc, rf, r, hs, hq, he⟩ := h
    have R0 := rs_startO (N := N) e hF hp oc rf r (by rw [len _ _ _ _ hs]; exact hN)
    have post : ∀ {F1 H1 : Hp} {σ : L2.St} {sd : DSt} {es' : List PyData}, Rs K ⟨F0, H, fun q => q = p, true⟩ F1 H1 σ sd → sget sd 0 = .ins c es' → PostO K c p F0 H F1 H1 es' := fun {F1 H1 σ sd es'} R h0 => by
      have hs0 := R.slot 0
      rw [h0] at hs0
      obtain ⟨p', Cc', dx', fs', _, z2, z3, z4, z5, z6⟩ := hs0
      refine ⟨R.grow, R.ext, fun a o za z => R.keep a o z za, R.new, ?_⟩
      rcases z4 with z4 | z4
      · have : p' = p := z4.2
        subst this
        exact ⟨Cc', dx', fs', z2, z3, z5, z6⟩
      · cases z4.1
    refine ⟨_, hbody cdv A outer s H E ⟨F0, H, fun q => q = p, true⟩ (fun cn sd => ∃ es', sget sd 0 = .ins c es' ∧ Ed cn es') hr (takes_cxD fun cls d σ H' hw => ?_), F0, _, endO c Qd, R0, ⟨fun F1 H1 σ sd _ R q => ?_, fun F1 H1 σ sd v r _ R rv own q => ?_, fun _ _ _ _ _ _ z => z.elim, fun _ _ _ _ _ _ z => z.elim⟩, rd es ds Qd Ed hs⟩
    · obtain ⟨cn, a, F1, sd, hc, rfl, rfl, R, es', h0, q⟩ := hw
      exact he cn a H' F1 es' hc (post R h0) q
    · obtain ⟨es', h0, q⟩ := q
      exact hq .non H1 F1 (.va .none) es' (post R h0) .non q
    · obtain ⟨es', h0, q⟩ := q
      refine hq v H1 F1 r es' (post R h0) ?_ q
      cases r with
      | no => trivial
      | va d => obtain ⟨v', e1, q⟩ := rv; cases e1; exact q
      | own ds' => obtain ⟨p, vs', e1, h1, h2, h3, h4⟩ := rv; cases e1; exact ⟨p, vs', rfl, h1, h2, own rfl p rfl, h4⟩
      | scr ns => obtain ⟨p, e1, h1⟩ := rv; cases e1; exact ⟨p, rfl, h1⟩
      | exc a => exact Option.some.inj rv
      | ins c es => obtain ⟨p, Cc, dx, fs, e1, h1, h2, h3, oc, h4⟩ := rv; cases e1; exact ⟨p, Cc, dx, fs, rfl, h1, h2, own rfl p rfl, oc, h4⟩
      | well n => obtain ⟨p, a, b, c, e1, h1, h2, h3, h4⟩ := rv; cases e1; exact ⟨p, a, b, c, rfl, h1, h2, own rfl p rfl, h4⟩
end
structure CalI (P : Program) (w : World) (K : PySem.W.Frag) (mg : Str → Option Value) (base : Heap) (CN : String → Option Addr) (k : Nat) (c : Str) (spec : OSpec) : Prop where
  ex : ∃ f fd ps Cc, FnG P w K mg base k f fd ps (spO K CN c spec) ∧ mg c = some (.ref Cc) ∧ ObjC K c Cc ∧ Mk K Cc f ∧ Binds K fd ps []
def mMake (c : Str) (spec : OSpec) (W : WD) (ma : MA) : ME := fun sd Q => ma sd fun ds s1 => spec [] ds (fun r es => r = .va .none ∧ Q (objD c es) s1) (fun cn _ => W cn s1)
section
variable {X : Cx} {C : Ct} {CN : String → Option Addr}
theorem Rs.freezeI {K : PySem.W.Frag} {F H : Hp} {σ : L2.St} {sd : DSt} {p Cc dx : Addr} {c : Str} {fs : List (Str × V)} {es : List PyData} (R : Rs K C F H σ sd) (h : H p = some (.ins Cc dx fs)) (hF : F p = none) (h0 : C.H0 p = none) (ho : ¬ Owned σ sd p) (oc : ObjC K c Cc) (r : RpF K F fs es) :
    Rs K C (upd F p (.ins Cc dx fs)) H σ sd ∧ Rp K (upd F p (.ins Cc dx fs)) (.ref p) (objD c es) := by
  have sF : Same F (upd F p (.ins Cc dx fs)) := same_new hF
  refine ⟨⟨R.len, R.grow.trans sF, fun a x e => ?_, fun a x e => ?_, R.keep, R.still, fun i => ?_, R.sep⟩, .ins upd_same oc (r.mono sF)⟩
  · by_cases z : a = p
    · subst z; rw [upd_same] at e; cases e; exact h
    · rw [upd_ne z] at e; exact R.ext a x e
  · by_cases z : a = p
    · subst z; exact .inr h0
    · rw [upd_ne z] at e; exact R.new a x e
  · refine (R.slot i).grow sF fun q x o e eh en => ⟨eh, ?_⟩
    have : q ≠ p := fun z => by subst z; exact ho ⟨i, o, e⟩
    rw [upd_ne this]; exact en
theorem td_make {K : PySem.W.Frag} {c : Str} {spec : OSpec} {W : WD} {ma : MA} {Cc : Addr} (oc : ObjC K c Cc) : ∀ σ H Q, tD K C (mMake c spec W ma) σ H Q → tMakeG Cc (spO K CN c spec) (WE (wD K C CN W)) (tDA K C ma) σ H Q := by
  rintro σ H Q ⟨F, sd, Qd, R, h, k⟩
  refine ⟨F, sd, _, R, h, fun vs H1 F1 ds sd1 R1 S1 rs h1 => fun x dx hx hdx hne => ?_⟩
  have sm : Same H1 (upd (upd H1 dx (.own x)) x (.ins Cc dx [])) := fun a o e => by
    rw [upd_ne (ne_of_none e hx), upd_ne (ne_of_none e hdx)]; exact e
  have po : ∀ {H' F' : Hp} {es' : List PyData}, PostO K c x F1 (upd (upd H1 dx (.own x)) x (.ins Cc dx [])) F' H' es' → Post K F1 H1 F' H' := fun {H' F' es'} P =>
    ⟨P.fr, P.ext, fun a o e => P.kp a o (ne_of_none e hx) (sm a o e), fun a o e => by
      rcases P.nw a o e with z | z
      · exact .inl z
      · refine .inr ?_
        cases hh : H1 a with
        | none => rfl
        | some o' => rw [sm a o' hh] at z; cases z⟩
  refine ⟨F1, x, vs, Cc, dx, [], [], ds, _, _, rfl, fun a o e => sm a o (R1.ext a o e), R1.free hx, upd_same, oc, .nil, rs, h1, fun v H' F' r es' P ro q => ?_, fun cn a H' F' es' hc P q => ?_⟩
  · obtain ⟨rfl, q⟩ := q
    obtain ⟨Cc', dx', fs', e1, e2, oc', rf⟩ := P.ob
    obtain ⟨R2, S2⟩ := R1.post (po P)
    cases ro
    refine ⟨rfl, ?_⟩
    obtain ⟨R3, rp⟩ := R2.freezeI e1 e2 (R1.still x hx) (fun z => (R1.fresh hx).1 z) oc' rf
    exact k (.ref x) H' _ _ sd1 R3 ((S1.trans S2).freezeD e2 (S1.st x hx)) rp q
  · exact ⟨cn, a, F', sd1, hc, rfl, rfl, (R1.post (po P)).1, q⟩
theorem pd_make {c : Str} {spec : OSpec} {W : WD} {ma : MA} {p pos : Pos} {e : Expr} {es : List Expr} {k j : Nat} (cl : CalI X.prog X.w X.K X.mg X.base CN k c spec) (hr : RoomG j X.A) (hk : k + 1 ≤ j) (tk : Takes X (wD X.K C CN W)) (ha : PA X (e :: es) (tDA X.K C ma)) (hg : Gl X c := by rfl)
    (hdb : (c == ("__debug__" : Str)) = false := by decide) (he : starEach (e :: es) X.env = (false, eval e X.env) :: starEach es X.env := by rfl) (hpl : (backTo pos (starEach es X.env)).any (·.1) = false := by rfl) :
    PE X (.Call (.Name c p) (e :: es) [] pos) (tD X.K C (mMake c spec W ma)) := by
  obtain ⟨f, fd, ps, Cc, F, hm, oc, M, hb⟩ := cl.ex
  exact pe_imp (pe_makeG M F (hr.mono hk) hg hm hb (passAt tk) ha hdb he hpl) (td_make oc)
end
structure CalM (P : Program) (w : World) (K : PySem.W.Frag) (mg : Str → Option Value) (base : Heap) (CN : String → Option Addr) (k : Nat) (c dn : Str) (spec : PSpec) : Prop where
  ex : ∃ f fd ps Cc, FnG P w K mg base k f fd ps (spP K CN spec) ∧ ObjC K c Cc ∧ PySem.W.findIn K (.ref Cc) dn = some (some (.ref f)) ∧ PySem.W.isFn K (.ref f) = true ∧ Binds K fd ps []
/-- a op b, both instances of the class c: the def of the left one's class, which raises nothing -/
def mBinM (c : Str) (spec : PSpec) (ma mb : ME) : ME := fun sd Q => ma sd fun a s1 => mb s1 fun b s2 => (∃ es, a = objD c es) ∧ (∃ es, b = objD c es) ∧ spec [a, b] (fun r => ∃ d, fz r = some d ∧ Q d s2) fun _ => False
/-- a in b, b an instance of the class c -/
def mInM (c : Str) (spec : PSpec) (ma mb : ME) : ME := fun sd Q => ma sd fun a s1 => mb s1 fun b s2 => (∃ es, b = objD c es) ∧ spec [b, a] (fun r => ∃ t, r = .va (.bool t) ∧ Q (.bool t) s2) fun _ => False
section
variable {X : Cx} {C : Ct} {CN : String → Option Addr} {k : Nat} {f Cc : Addr} {fd : FuncData} {ps : List Str} {sp : Sp}
theorem pd_binM {op : Operator} {c dn : Str} {spec : PSpec} {ma mb : ME} {a b : Expr} {pos : Pos} {j : Nat} (cl : CalM X.prog X.w X.K X.mg X.base CN k c dn spec) (hd : dunder op.info.snd = dn) (sf : ∀ Cc, ObjC X.K c Cc → PySem.W.selfFirst X.K Cc = true) (hr : RoomG j X.A) (hk : k ≤ j) (ha : PE X a (tD X.K C ma)) (hb : PE X b (tD X.K C mb)) :
    PE X (.BinOp a op b pos) (tD X.K C (mBinM c spec ma mb)) := by
  obtain ⟨f, fd, ps, Cc, F, oc, hf, hfn, hbi⟩ := cl.ex
  subst hd
  refine pe_imp (pe_op (op_binO hf hfn (sf Cc oc) F hbi (hr.mono hk)) ha hb) ?_
  rintro σ H Q ⟨F0, sd, Qd, R, h, kk⟩
  refine ⟨F0, sd, _, R, h, fun x H1 F1 d sd1 R1 S1 rx h1 => ⟨F1, sd1, _, R1, h1, fun y H2 F2 e sd2 R2 S2 ry h2 => ?_⟩⟩
  obtain ⟨⟨es1, rfl⟩, ⟨es2, rfl⟩, hs⟩ := h2
  have rx := rx.mono S2.fr
  obtain ⟨a1, C1, d1, f1, rfl, h1, o1, r1⟩ := rp_obj rx
  obtain ⟨a2, C2, d2, f2, rfl, h2, o2, r2⟩ := rp_obj ry
  cases o1.uniq oc
  cases o2.uniq oc
  refine ⟨a1, a2, d1, d2, f1, f2, rfl, rfl, R2.ext _ _ h1, R2.ext _ _ h2, F2, _, _, _, R2.ext, .cons rx (.cons ry .nil), hs, fun v H' F' r P ro q => ?_, fun _ _ _ _ _ _ z => z⟩
  obtain ⟨d, hfz, q⟩ := q
  obtain ⟨R3, S3⟩ := R2.post P
  obtain ⟨F3, R4, S4, rp⟩ := R3.res ((S1.trans S2).trans S3) ro (fun p hp => ⟨S1.st p (S2.st p hp), fun z => (R2.fresh hp).1 (S3.ow p z), (R2.fresh hp).2⟩) hfz
  exact kk v H' F3 d sd2 R4 S4 rp q
/-- x in y by the def of y's class -/
def rInO (C : Addr) (sp : Sp) : R2 := fun x y H Q => ∃ b dy gs, y = .ref b ∧ H b = some (.ins C dy gs) ∧ sp [y, x] H (fun v H2 => ∃ t, v = .bl t ∧ Q (.bl t) H2) fun _ _ _ => False
theorem op_inO (hf : PySem.W.findIn X.K (.ref Cc) "__contains__" = some (some (.ref f))) (hfn : PySem.W.isFn X.K (.ref f) = true) (F : FnG X.prog X.w X.K X.mg X.base k f fd ps sp) (hb : Binds X.K fd ps []) (hr : RoomG k X.A) : OpR X (compareOp .In) (rInO Cc sp) := by
  intro pins s σ H x y v u Q I rx ry h
  obtain ⟨b, dy, gs, rfl, h1, q⟩ := h
  cases (show u = Value.ref b from ry)
  obtain ⟨m, fr⟩ := I.fr
  obtain ⟨ox, od, J⟩ := ins_inst I.hok h1
  refine PySem.W.in_K fr I.ok.mod.kin J hf hfn ?_
  refine wpAny_mono (wp_callG (E := fun _ _ _ _ => False) F hr hb (fun pins H s e s' _ z => ?_) I (vs := [V.ref b, x]) (.cons (show L2.RelV (V.ref b) (.ref b) from rfl) (.cons rx .nil)) q) (fun v s' hq => ?_) fun _ _ z => z
  · obtain ⟨_, _, _, _, _, _, _, _, _, _, _, _, z⟩ := z
    exact z.elim
  · obtain ⟨z, H2, I2, rz, t, rfl, hq⟩ := hq
    cases (show v = Value.bool t from rz)
    exact wpAny_truthy_bool ⟨.bl t, H2, I2, rfl, hq⟩
theorem pd_inM {c : Str} {spec : PSpec} {ma mb : ME} {a b : Expr} {pos : Pos} {j : Nat} (cl : CalM X.prog X.w X.K X.mg X.base CN k c "__contains__" spec) (hr : RoomG j X.A) (hk : k ≤ j) (ha : PE X a (tD X.K C ma)) (hb : PE X b (tD X.K C mb)) (hm : behindInMarks .In b = false) :
    PE X (.Compare a [.In] [b] pos) (tD X.K C (mInM c spec ma mb)) := by
  obtain ⟨f, fd, ps, Cc, F, oc, hf, hfn, hbi⟩ := cl.ex
  refine pe_imp (pe_cmpR (op_inO hf hfn F hbi (hr.mono hk)) ha hb hm) ?_
  rintro σ H Q ⟨F0, sd, Qd, R, h, kk⟩
  refine ⟨F0, sd, _, R, h, fun x H1 F1 d sd1 R1 S1 rx h1 => ⟨F1, sd1, _, R1, h1, fun y H2 F2 e sd2 R2 S2 ry h2 => ?_⟩⟩
  obtain ⟨⟨es2, rfl⟩, hs⟩ := h2
  have rx := rx.mono S2.fr
  obtain ⟨a2, C2, d2, f2, rfl, h2, o2, r2⟩ := rp_obj ry
  cases o2.uniq oc
  refine ⟨a2, d2, f2, rfl, R2.ext _ _ h2, F2, _, _, _, R2.ext, .cons ry (.cons rx .nil), hs, fun v H' F' r P ro q => ?_, fun _ _ _ _ _ _ z => z⟩
  obtain ⟨t, rfl, q⟩ := q
  obtain ⟨R3, S3⟩ := R2.post P
  cases ro
  exact ⟨t, rfl, kk (.bl t) H' F' _ sd2 R3 ((S1.trans S2).trans S3) (.bl t) q⟩
end
/-- what isinstance says of it and the built-in kinds -/
structure KitC (K : PySem.W.Frag) (Cc : Addr) : Prop where
  own : PySem.W.kitOne K (.ref Cc) (.ref Cc) = some true
  non : PySem.W.kitOne K (.type "NoneType") (.ref Cc) = some false
  bl : PySem.W.kitOne K (.type "bool") (.ref Cc) = some false
  int : PySem.W.kitOne K (.type "int") (.ref Cc) = some false
  str : PySem.W.kitOne K (.type "str") (.ref Cc) = some false
  lst : PySem.W.kitOne K (.type "list") (.ref Cc) = some false
  tup : PySem.W.kitOne K (.type "tuple") (.ref Cc) = some false
  dct : PySem.W.kitOne K (.type "dict") (.ref Cc) = some false
def bIsC (c : Str) : PyData → Option PyData
  | .dict [(.none, .tuple (.str c' :: _))] => if c' = c then some (.bool true) else none
  | .dict ((.none, _) :: _) => none
  | _ => some (.bool false)
theorem isC_obj {c : Str} {es : List PyData} : bIsC c (objD c es) = some (.bool true) := if_pos rfl
theorem isC_dct {c : Str} {es : List (PyData × PyData)} {z : PyData} (h : ∀ x y, es ≠ (.none, x) :: y) (e : bIsC c (.dict es) = some z) : z = .bool false := by
  unfold bIsC at e
  split at e
  · rename_i h2
    cases h2
    exact absurd rfl (h _ _)
  · rename_i h2
    cases h2
    exact absurd rfl (h _ _)
  · cases e
    rfl
section
variable {X : Cx} {C : Ct} {K : PySem.W.Frag}
theorem kit_c {c : Str} {Cc : Addr} {F H : Hp} {x : V} {d z : PyData} (oc : ObjC K c Cc) (kc : KitC K Cc) (e : Same F H) (r : Rp K F x d) (h : bIsC c d = some z) : ∃ t b, TyX K H x t ∧ PySem.W.kitOne K t (.ref Cc) = some b ∧ z = .bool b := by
  cases r with
  | non => cases h; exact ⟨_, _, .base .non, kc.non, rfl⟩
  | bl b => cases h; exact ⟨_, _, .base (.bl b), kc.bl, rfl⟩
  | int i => cases h; exact ⟨_, _, .base (.int i), kc.int, rfl⟩
  | str s => cases h; exact ⟨_, _, .base (.str s), kc.str, rfl⟩
  | lst hh _ => cases h; exact ⟨_, _, .base (.lst (e _ _ hh)), kc.lst, rfl⟩
  | tup hh _ =>
    cases h
    rcases hh with (hh | ⟨o, hh⟩) | ⟨o, its, n, hh, c, _⟩
    · exact ⟨_, _, .base (.tup (e _ _ hh)), kc.tup, rfl⟩
    · exact ⟨_, _, .fTuple (e _ _ hh), kc.tup, rfl⟩
    · exact ⟨_, _, .kTuple hh c, kc.tup, rfl⟩
  | dct hh rd => exact ⟨_, _, .base (.dK (e _ _ hh)), kc.dct, isC_dct (fun x y q => rpD_key rd q) h⟩
  | ex0 _ _ => cases h
  | exF _ _ _ _ => cases h
  | ins hh o _ =>
    rename_i c' _ _ _
    have h : (if c' = c then some (PyData.bool true) else none) = some z := h
    by_cases q : c' = c
    · rw [if_pos q] at h
      cases h
      have o2 : ObjC K c _ := q ▸ o
      cases o2.uniq oc
      exact ⟨_, _, .base (.ins (e _ _ hh) o.cl o.ha o.hn o.htk o.hm), kc.own, rfl⟩
    · rw [if_neg q] at h
      cases h
theorem pd_isC {p p2 pos : Pos} {e : Expr} {m : ME} {c : Str} (hm : X.mg "isinstance" = none) (hc : ∃ Cc, X.mg c = some (.ref Cc) ∧ ObjC X.K c Cc ∧ KitC X.K Cc) (he : PE X e (tD X.K C m))
    (hgI : Gl X "isinstance" := by rfl) (hgT : Gl X c := by rfl) (hdb : (c == ("__debug__" : Str)) = false := by decide) (hpl : (backTo pos (starEach [.Name c p2] X.env)).any (·.1) = false := by rfl)
    (hs : starEach (e :: [.Name c p2]) X.env = (false, eval e X.env) :: starEach [.Name c p2] X.env := by rfl) :
    PE X (.Call (.Name "isinstance" p) [e, .Name c p2] [] pos) (tD X.K C (mOp1 (bIsC c) m)) := by
  obtain ⟨Cc, hmc, oc, kc⟩ := hc
  refine pe_imp (pe_callB call_isi hgI hm (by decide +kernel) (pa_cons he (pa_cons (pe_glob (v := .ref Cc) hgT hmc rfl hdb) pa_nil) hs) (by decide) (by decide) hs hpl) ?_
  rintro σ H Q ⟨F, sd, Qd, R, h, kk⟩
  refine ⟨F, sd, _, R, h, fun x H1 F1 a sd1 R1 S1 rx h1 => ?_⟩
  obtain ⟨z, ez, q⟩ := h1
  obtain ⟨t, b, t1, t2, rfl⟩ := kit_c oc kc R1.ext rx ez
  exact ⟨x, .ref Cc, t, .ref Cc, b, rfl, .own _, t1, t2, kk (.bl b) H1 F1 _ sd1 R1 S1 (.bl b) q⟩
theorem pdt_inM {CN : String → Option Addr} {c : Str} {spec : PSpec} {ma mb : ME} {a b : Expr} {pos : Pos} {k j : Nat} (cl : CalM X.prog X.w X.K X.mg X.base CN k c "__contains__" spec) (hr : RoomG j X.A) (hk : k ≤ j) (ha : PE X a (tD X.K C ma)) (hb : PE X b (tD X.K C mb)) (hm : behindInMarks .In b = false) :
    PT X (.Compare a [.In] [b] pos) (tDT X.K C (mT (mInM c spec ma mb))) := by
  obtain ⟨f, fd, ps, Cc, F, oc, hf, hfn, hbi⟩ := cl.ex
  refine pt_imp (pt_cmpR (op_inO hf hfn F hbi (hr.mono hk)) ha hb hm) (td_test ?_)
  rintro σ H Q ⟨F0, sd, Qd, R, h, kk⟩
  refine ⟨F0, sd, _, R, h, fun x H1 F1 d sd1 R1 S1 rx h1 => ⟨F1, sd1, _, R1, h1, fun y H2 F2 e sd2 R2 S2 ry h2 => ?_⟩⟩
  obtain ⟨⟨es2, rfl⟩, hs⟩ := h2
  have rx := rx.mono S2.fr
  obtain ⟨a2, C2, d2, f2, rfl, h2, o2, r2⟩ := rp_obj ry
  cases o2.uniq oc
  refine ⟨a2, d2, f2, rfl, R2.ext _ _ h2, F2, _, _, _, R2.ext, .cons ry (.cons rx .nil), hs, fun v H' F' r P ro q => ?_, fun _ _ _ _ _ _ z => z⟩
  obtain ⟨t, rfl, q⟩ := q
  obtain ⟨R3, S3⟩ := R2.post P
  cases ro
  exact ⟨t, rfl, kk (.bl t) H' F' _ sd2 R3 ((S1.trans S2).trans S3) (.bl t) q⟩
end
end DL
namespace DL
open PySem PySem.Spec PyProof.Rows L2
theorem RoomG.in1 {k : Nat} {A : Around} (h : RoomG (k + 1) A) : RoomG k A.in1 := ⟨L2.Room.in1 h.r, h.g⟩
theorem callK_of {M : Model} {A : Around} {E : Value → Shared → Prop} {s : Shared} {a : Addr} {pos : Pos} {Q : Value → Shared → Prop} {args : List (Bool × Sem Value)} {keywords : List (Option Str × Sem Value)} (hplain : (args.any (·.1) || keywords.any (·.1.isNone)) = false)
    (h : wpAny M A (evalArgs (.ref a) true args keywords) (fun x s₁ => (∃ C ox od, PySem.W.InstAt s₁.heap a ox C od ∧ ox.data = .plain) ∧ wpAny M A (call (.ref a) ([] ++ x.pos) x.kw) Q E s₁) E s) : wpAny M A (callWith pos (.ref a) [] args keywords) Q E s := by
  unfold callWith
  refine wpAny_bind (wpAny_holding (wpAny_mono h (fun a s₁ h₁ => wpAny_bind (wpAny_standAt ?_)) fun _ _ y => y))
  obtain ⟨⟨C, ox, od, J, hd⟩, h₁⟩ := h₁
  have L := PySem.W.kco_keeper (M := M) J hd
  simp only [hplain]
  refine wpAny_bind (L.here ?_)
  have tail : ∀ {t : Sem Value}, wpAny M A t Q E s₁ → wpAny M A (t >>= fun r => holding [r] point >>= fun _ => pure r) Q E s₁ :=
    fun ht => wpAny_bind (wpAny_mono ht (fun r s₂ hr => wpAny_bind (wpAny_holding (wpAny_point (wpAny_pure hr)))) fun _ _ y => y)
  exact tail (wpAny_operateT h₁)
/-- a one-place operation by the def of the instance's class -/
def rUnO (C : Addr) (sp : Sp) : V → Hp → VK → Prop := fun x H Q => ∃ a dx fs, x = .ref a ∧ H a = some (.ins C dx fs) ∧ sp [x] H Q fun _ _ _ => False
section
variable {X : Cx} {C : Ct} {CN : String → Option Addr} {k : Nat} {f Cc g p : Addr} {fd : FuncData} {ps : List Str} {sp : Sp}
theorem un_negO (hf : PySem.W.findIn X.K (.ref Cc) "__neg__" = some (some (.ref f))) (hfn : PySem.W.isFn X.K (.ref f) = true) (F : FnG X.prog X.w X.K X.mg X.base k f fd ps sp) (hb : Binds X.K fd ps []) (hr : RoomG k X.A) : UnR X (unaryOp .USub) (rUnO Cc sp) := by
  intro pins s σ H x v Q I rx h
  obtain ⟨a, dx, fs, rfl, h1, q⟩ := h
  cases (show v = Value.ref a from rx)
  obtain ⟨m, fr⟩ := I.fr
  obtain ⟨ox, od, J⟩ := ins_inst I.hok h1
  refine PySem.W.ksp_neg fr I.ok.mod.kin J hf hfn ?_
  refine wp_callG (E := fun _ _ _ _ => False) F hr hb (fun pins H s e s' _ z => ?_) I (vs := [V.ref a]) (.cons (show L2.RelV (V.ref a) (.ref a) from rfl) .nil) q
  obtain ⟨_, _, _, _, _, _, _, _, _, _, _, _, z⟩ := z
  exact z.elim
/-- a property of an instance of the class c, or -a: its def, which raises nothing -/
def mUnM (c : Str) (spec : PSpec) (ma : ME) : ME := fun sd Q => ma sd fun a s1 => (∃ es, a = objD c es) ∧ spec [a] (fun r => ∃ d, fz r = some d ∧ Q d s1) fun _ => False
theorem td_unM {c : Str} {spec : PSpec} {ma : ME} (oc : ObjC X.K c Cc) : ∀ σ H Q, tD X.K C (mUnM c spec ma) σ H Q → tUn (rUnO Cc (spP X.K CN spec)) (tD X.K C ma) σ H Q := by
  rintro σ H Q ⟨F0, sd, Qd, R, h, kk⟩
  refine ⟨F0, sd, _, R, h, fun x H1 F1 d sd1 R1 S1 rx h1 => ?_⟩
  obtain ⟨⟨es1, rfl⟩, hs⟩ := h1
  obtain ⟨a1, C1, d1, f1, rfl, h1, o1, r1⟩ := rp_obj rx
  cases o1.uniq oc
  refine ⟨a1, d1, f1, rfl, R1.ext _ _ h1, F1, _, _, _, R1.ext, .cons rx .nil, hs, fun v H' F' r P ro q => ?_, fun _ _ _ _ _ _ z => z⟩
  obtain ⟨d, hfz, q⟩ := q
  obtain ⟨R3, S3⟩ := R1.post P
  obtain ⟨F3, R4, S4, rp⟩ := R3.res (S1.trans S3) ro (fun p hp => ⟨S1.st p hp, fun z => (R1.fresh hp).1 (S3.ow p z), (R1.fresh hp).2⟩) hfz
  exact kk v H' F3 d sd1 R4 S4 rp q
theorem pd_negM {c : Str} {spec : PSpec} {ma : ME} {a : Expr} {pos : Pos} {j : Nat} (cl : CalM X.prog X.w X.K X.mg X.base CN k c "__neg__" spec) (hr : RoomG j X.A) (hk : k ≤ j) (ha : PE X a (tD X.K C ma)) :
    PE X (.UnaryOp .USub a pos) (tD X.K C (mUnM c spec ma)) := by
  obtain ⟨f, fd, ps, Cc, F, oc, hf, hfn, hbi⟩ := cl.ex
  exact pe_imp (pe_un (un_negO hf hfn F hbi (hr.mono hk)) ha) (td_unM oc)
theorem getprop_okG {pins : List (Addr × Obj)} {σ : L2.St} {H : Hp} {s : Shared} {Q : VK} {b : Bool} {a dx : Addr} {fs : List (Str × V)} {n : Str} (I : L2.Inv X pins σ H s) (ea : H a = some (.ins Cc dx fs)) (hg1 : PySem.W.plainGet X.K Cc Str.empty = true) (hd1 : PySem.W.hasDictIn X.K Cc = true) (hp : PropOf X.K Cc n p g)
    (F : FnG X.prog X.w X.K X.mg X.base k g fd ps sp) (hr : RoomG (k + 1) X.A) (hb : Binds X.K fd ps []) (h : sp [.ref a] H Q fun _ _ _ => False) :
    wpAny (model X.prog X.w) X.A (getAttr (.ref a) n b) (EP X pins σ Q) X.xe s := by
  obtain ⟨mA, O, _, _, _, _⟩ := ins_get I.hok ea
  obtain ⟨od, J, _⟩ := O.look
  obtain ⟨rest, hrec⟩ := hp.rec_
  have I1 := I.tok (s.toks + 1)
  have hl : ([Value.ref a] ++ []).length = ps.length := by
    rw [← F.len _ _ _ _ h]; rfl
  have hc : (PySem.W.clsIn X.K Cc).isSome = true := by
    obtain ⟨cd, hc, _⟩ := PySem.W.any_some hd1
    rw [hc]
    rfl
  have bb := hb { s with toks := s.toks + 1 } [.ref a] I1.kIn hl
  rw [List.append_nil] at bb
  refine PySem.W.get_bind I.kIn J (PySem.W.plainGet_of hg1).1 (PySem.W.findObj_data hc hp.at_ hp.get hp.tak) (PySem.W.plainGet_of hg1).2 (wpAny_call (PySem.W.prop_get (s := { s with toks := s.toks + 1 }) I.kIn hrec ?_))
  refine codeAny_mono (F.run hr.in1 I1.env0.in1 bb (.cons (show L2.RelV (V.ref a) (.ref a) from rfl) .nil) h) fun r s' hq => ?_
  cases r with
  | error er =>
    obtain ⟨_, _, _, _, _, _, _, _, _, _, _, _, z⟩ := hq
    exact z.elim
  | ok fl =>
    cases fl with
    | ret u =>
      obtain ⟨v, H', I3, rv, q3⟩ := I1.after hq
      show wpAny _ _ (handedOut u) _ _ _
      rw [PySem.W.handedOut_of (handed_of rv)]
      exact wpAny_pure ⟨v, H', I3, rv, q3⟩
    | next => exact False.elim hq
    | brk => exact False.elim hq
    | cont => exact False.elim hq
/-- the class c has the name as a property whose getter is promised -/
structure CalPr (P : Program) (w : World) (K : PySem.W.Frag) (mg : Str → Option Value) (base : Heap) (CN : String → Option Addr) (k : Nat) (c n : Str) (spec : PSpec) : Prop where
  ex : ∃ g fd ps p Cc, FnG P w K mg base k g fd ps (spP K CN spec) ∧ ObjC K c Cc ∧ PropOf K Cc n p g ∧ Binds K fd ps []
theorem pd_propM {c n : Str} {spec : PSpec} {ma : ME} {a : Expr} {pos : Pos} {j : Nat} (cl : CalPr X.prog X.w X.K X.mg X.base CN k c n spec) (hr : RoomG j X.A) (hk : k + 1 ≤ j) (ha : PE X a (tD X.K C ma)) (hab : attributeBase a n X.env (eval a X.env) = eval a X.env) :
    PE X (.Attribute a n pos) (tD X.K C (mUnM c spec ma)) := by
  obtain ⟨g, fd, ps, p, Cc, F, oc, hp, hbi⟩ := cl.ex
  refine pe_imp (t := tUn (rUnO Cc (spP X.K CN spec)) (tD X.K C ma)) ⟨fun pins s σ H Q I h => ?_⟩ (td_unM oc)
  refine attr_of hab (thn (ha.run pins s σ H _ I h) fun u s1 ⟨x, H1, I1, rx, a, dx, fs, ex, ea, q⟩ => ?_)
  subst ex
  obtain rfl : u = Value.ref a := rx
  exact getprop_okG I1 ea oc.cl.pg oc.cl.hd hp F (hr.mono hk) hbi q
/-- f(e, ..), f an expression that gives an instance of C -/
def tCallI (C : Addr) (sp : Sp) (tf : TE) (t : TA) : TE := fun σ H Q => tf σ H fun y H1 => ∃ a, y = V.ref a ∧ t σ H1 fun vs H2 => (∃ dx fs, H2 a = some (.ins C dx fs)) ∧ sp (V.ref a :: vs) H2 Q fun _ _ _ => False
def tCallIK (C : Addr) (sp : Sp) (gV : List V → List V → List V) (tf : TE) (tk : TA) : TE := fun σ H Q => tf σ H fun y H1 => ∃ a, y = V.ref a ∧ tk σ H1 fun zs H2 => (∃ dx fs, H2 a = some (.ins C dx fs)) ∧ sp (gV [V.ref a] zs) H2 Q fun _ _ _ => False
theorem passNo {σ : L2.St} : PassesAt (L2.CX X.prog X.w) X σ fun _ _ _ => False := fun pins H s e s' _ z => by
  obtain ⟨_, _, _, _, _, _, _, _, _, _, _, _, z⟩ := z
  exact z.elim
theorem run_callI {pins : List (Addr × Obj)} {σ : L2.St} {H : Hp} {s : Shared} {Q : VK} {a dx : Addr} {fs : List (Str × V)} {us : List Value} {vs : List V} (c : StX.CallO X.K Cc g) (F : FnG X.prog X.w X.K X.mg X.base k g fd ps sp) (hr : RoomG k X.A) (hb : Binds X.K fd ps []) (I : L2.Inv X pins σ H s) (e : H a = some (.ins Cc dx fs)) (r : Vals vs us)
    (h : sp (V.ref a :: vs) H Q fun _ _ _ => False) : wpAny (model X.prog X.w) X.A (call (.ref a) us) (EP X pins σ Q) X.xe s := by
  obtain ⟨ox, od, J, hd⟩ := StX.insC_at I (.inr ⟨dx, fs, e⟩)
  have rr : Vals (V.ref a :: vs) (Value.ref a :: us) := .cons rfl r
  have hl : ((Value.ref a :: us) ++ []).length = ps.length := by rw [List.append_nil, ← rr.length]; exact F.len _ _ _ _ h
  have b := hb s (Value.ref a :: us) I.kIn hl
  rw [List.append_nil] at b
  refine wpAny_call (PySem.W.kco_code I.kIn J hd c.at_ c.fn c.fi (codeAny_mono (run_fnG (E := fun _ _ _ _ => False) (args := ⟨Value.ref a :: us, []⟩) (n := 0) F hr b (passNo (σ := σ)) I rr h) fun r s' hq => ?_))
  rcases r with _ | (_ | _ | _ | _) <;> exact hq
theorem run_callIK {ks : List Str} {gg : List Value → List Value → List Value} {gV : List V → List V → List V} {pins : List (Addr × Obj)} {σ : L2.St} {H : Hp} {s : Shared} {Q : VK} {a dx : Addr} {fs : List (Str × V)} {ws : List Value} {zs : List V} (c : StX.CallO X.K Cc g) (F : FnG X.prog X.w X.K X.mg X.base k g fd ps sp) (hr : RoomG k X.A) (hb : KBinds X.K fd ps ks gg gV) (I : L2.Inv X pins σ H s) (e : H a = some (.ins Cc dx fs)) (rz : Vals zs ws)
    (h : sp (gV [V.ref a] zs) H Q fun _ _ _ => False) : wpAny (model X.prog X.w) X.A (call (.ref a) [] (ks.zip ws)) (EP X pins σ Q) X.xe s := by
  obtain ⟨ox, od, J, hd⟩ := StX.insC_at I (.inr ⟨dx, fs, e⟩)
  have rg := hb.rel (vs := [V.ref a]) (us := [Value.ref a]) (.cons (show L2.RelV (V.ref a) (.ref a) from rfl) .nil) rz
  have hl : (gg [Value.ref a] ws).length = ps.length := rg.length ▸ F.len _ _ _ _ h
  refine wpAny_call (PySem.W.kco_code I.kIn J hd c.at_ c.fn c.fi (codeAny_mono (run_fnG (E := fun _ _ _ _ => False) (args := ⟨[Value.ref a], ks.zip ws⟩) (n := 0) F hr (hb.to s [Value.ref a] ws I.kIn hl) (passNo (σ := σ)) I rg h) fun r s' hq => ?_))
  rcases r with _ | (_ | _ | _ | _) <;> exact hq
theorem pe_callI {fe e : Expr} {es : List Expr} {pos : Pos} {tf : TE} {t : TA} (hf : PE X fe tf) (c : StX.CallO X.K Cc g) (F : FnG X.prog X.w X.K X.mg X.base k g fd ps sp) (hr : RoomG k X.A) (hb : Binds X.K fd ps []) (ha : PA X (e :: es) t)
    (ht : eval (.Call fe (e :: es) [] pos) X.env = (do callWith pos (← eval fe X.env) [] (backTo pos (starEach (e :: es) X.env)) (backToKw pos (keywordEach [] X.env))))
    (he : starEach (e :: es) X.env = (false, eval e X.env) :: starEach es X.env) (hpl : (backTo pos (starEach es X.env)).any (·.1) = false) : PE X (.Call fe (e :: es) [] pos) (tCallI Cc sp tf t) := by
  refine ⟨fun pins s σ H Q I h => ?_⟩
  rw [ht]
  refine wpAny_bind (thn (hf.run pins s σ H _ I h) fun u s1 ⟨y, H1, I1, ry, a, ey, q⟩ => ?_)
  subst ey
  obtain rfl : u = Value.ref a := ry
  refine StX.callO_with (thn (ha.run pos pins s1 σ H1 _ I1 q) fun us s2 ⟨vs, H2, I2, r, ⟨dx, fs, hi⟩, q2⟩ => ?_) he hpl
  obtain ⟨ox, od, J, hd⟩ := StX.insC_at I2 (.inr ⟨dx, fs, hi⟩)
  exact ⟨⟨Cc, ox, od, J, hd⟩, run_callI c F hr hb I2 hi r q2⟩
theorem pe_callIK {ks : List Str} {gg : List Value → List Value → List Value} {gV : List V → List V → List V} {fe : Expr} {kws : List Keyword} {pos : Pos} {tf : TE} {tk : TA} (hf : PE X fe tf) (c : StX.CallO X.K Cc g) (F : FnG X.prog X.w X.K X.mg X.base k g fd ps sp) (hr : RoomG k X.A) (hb : KBinds X.K fd ps ks gg gV) (hkw : PK X kws tk)
    (ht : eval (.Call fe [] kws pos) X.env = (do callWith pos (← eval fe X.env) [] (backTo pos (starEach [] X.env)) (backToKw pos (keywordEach kws X.env))))
    (hall : (backToKw pos (keywordEach kws X.env)).all (·.1.isSome) = true) (hks : (backToKw pos (keywordEach kws X.env)).filterMap (·.1) = ks)
    (hpl : ((backTo pos (starEach [] X.env)).any (·.1) || (backToKw pos (keywordEach kws X.env)).any (·.1.isNone)) = false) : PE X (.Call fe [] kws pos) (tCallIK Cc sp gV tf tk) := by
  refine ⟨fun pins s σ H Q I h => ?_⟩
  rw [ht]
  refine wpAny_bind (thn (hf.run pins s σ H _ I h) fun u s1 ⟨y, H1, I1, ry, a, ey, q⟩ => ?_)
  subst ey
  obtain rfl : u = Value.ref a := ry
  refine callK_of hpl (evalArgs_kw2_nil hall (thn (hkw.run pos pins s1 σ H1 _ I1 q) fun ws s2 ⟨zs, H2, I2, rz, ⟨dx, fs, hi⟩, q2⟩ => ?_))
  obtain ⟨ox, od, J, hd⟩ := StX.insC_at I2 (.inr ⟨dx, fs, hi⟩)
  refine ⟨⟨Cc, ox, od, J, hd⟩, ?_⟩
  rw [hks]
  exact run_callIK c F hr hb I2 hi rz q2
/-- a(e, ..): the class's __call__, which raises nothing -/
def mCallM (c : Str) (spec : PSpec) (mf : ME) (ma : MA) : ME := fun sd Q => mf sd fun a s1 => (∃ es, a = objD c es) ∧ ma s1 fun ds s2 => spec (a :: ds) (fun r => ∃ d, fz r = some d ∧ Q d s2) fun _ => False
/-- a(x=e, ..) -/
def mCallMK (c : Str) (spec : PSpec) (gg : List PyData → List PyData → List PyData) (mf : ME) (mk : MA) : ME := fun sd Q => mf sd fun a s1 => (∃ es, a = objD c es) ∧ mk s1 fun ds s2 => spec (gg [a] ds) (fun r => ∃ d, fz r = some d ∧ Q d s2) fun _ => False
structure CalC (P : Program) (w : World) (K : PySem.W.Frag) (mg : Str → Option Value) (base : Heap) (CN : String → Option Addr) (k : Nat) (c : Str) (spec : PSpec) : Prop where
  ex : ∃ g fd ps Cc, FnG P w K mg base k g fd ps (spP K CN spec) ∧ ObjC K c Cc ∧ StX.CallO K Cc g ∧ Binds K fd ps []
structure CalCK (P : Program) (w : World) (K : PySem.W.Frag) (mg : Str → Option Value) (base : Heap) (CN : String → Option Addr) (k : Nat) (c : Str) (spec : PSpec) (ks : List Str) (gg : {α : Type} → List α → List α → List α) : Prop where
  ex : ∃ g fd ps Cc, FnG P w K mg base k g fd ps (spP K CN spec) ∧ ObjC K c Cc ∧ StX.CallO K Cc g ∧ KBinds K fd ps ks gg gg
  ord : Ord gg
theorem td_callI {c : Str} {spec : PSpec} {mf : ME} {ma : MA} (oc : ObjC X.K c Cc) : ∀ σ H Q, tD X.K C (mCallM c spec mf ma) σ H Q → tCallI Cc (spP X.K CN spec) (tD X.K C mf) (tDA X.K C ma) σ H Q := by
  rintro σ H Q ⟨F0, sd, Qd, R, h, kk⟩
  refine ⟨F0, sd, _, R, h, fun x H1 F1 d sd1 R1 S1 rx h1 => ?_⟩
  obtain ⟨⟨es1, rfl⟩, hs⟩ := h1
  obtain ⟨a1, C1, d1, f1, rfl, h1, o1, r1⟩ := rp_obj rx
  cases o1.uniq oc
  refine ⟨a1, rfl, F1, sd1, _, R1, hs, fun vs H2 F2 ds sd2 R2 S2 rs h2 => ?_⟩
  have rx := rx.mono S2.fr
  obtain ⟨a2, C2, d2, f2, e2, h3, o2, r2⟩ := rp_obj rx
  cases e2
  cases o2.uniq oc
  refine ⟨⟨d2, f2, R2.ext _ _ h3⟩, F2, _, _, _, R2.ext, .cons rx rs, h2, fun v H' F' r P ro q => ?_, fun _ _ _ _ _ _ z => z⟩
  obtain ⟨d, hfz, q⟩ := q
  obtain ⟨R3, S3⟩ := R2.post P
  obtain ⟨F3, R4, S4, rp⟩ := R3.res ((S1.trans S2).trans S3) ro (fun p hp => ⟨S1.st p (S2.st p hp), fun z => (R2.fresh hp).1 (S3.ow p z), (R2.fresh hp).2⟩) hfz
  exact kk v H' F3 d sd2 R4 S4 rp q
theorem td_callIK {c : Str} {spec : PSpec} {mf : ME} {mk : MA} {gg : {α : Type} → List α → List α → List α} (og : Ord gg) (oc : ObjC X.K c Cc) : ∀ σ H Q, tD X.K C (mCallMK c spec gg mf mk) σ H Q → tCallIK Cc (spP X.K CN spec) gg (tD X.K C mf) (tDA X.K C mk) σ H Q := by
  rintro σ H Q ⟨F0, sd, Qd, R, h, kk⟩
  refine ⟨F0, sd, _, R, h, fun x H1 F1 d sd1 R1 S1 rx h1 => ?_⟩
  obtain ⟨⟨es1, rfl⟩, hs⟩ := h1
  obtain ⟨a1, C1, d1, f1, rfl, h1, o1, r1⟩ := rp_obj rx
  cases o1.uniq oc
  refine ⟨a1, rfl, F1, sd1, _, R1, hs, fun vs H2 F2 ds sd2 R2 S2 rs h2 => ?_⟩
  have rx := rx.mono S2.fr
  obtain ⟨a2, C2, d2, f2, e2, h3, o2, r2⟩ := rp_obj rx
  cases e2
  cases o2.uniq oc
  refine ⟨⟨d2, f2, R2.ext _ _ h3⟩, F2, _, _, _, R2.ext, paired_rpA (og.rel _ (rpA_paired (.cons rx .nil)) (rpA_paired rs)), h2, fun v H' F' r P ro q => ?_, fun _ _ _ _ _ _ z => z⟩
  obtain ⟨d, hfz, q⟩ := q
  obtain ⟨R3, S3⟩ := R2.post P
  obtain ⟨F3, R4, S4, rp⟩ := R3.res ((S1.trans S2).trans S3) ro (fun p hp => ⟨S1.st p (S2.st p hp), fun z => (R2.fresh hp).1 (S3.ow p z), (R2.fresh hp).2⟩) hfz
  exact kk v H' F3 d sd2 R4 S4 rp q
theorem pd_callI {c : Str} {spec : PSpec} {mf : ME} {ma : MA} {fe e : Expr} {es : List Expr} {pos : Pos} {j : Nat} (cl : CalC X.prog X.w X.K X.mg X.base CN k c spec) (hr : RoomG j X.A) (hk : k ≤ j) (hf : PE X fe (tD X.K C mf)) (ha : PA X (e :: es) (tDA X.K C ma))
    (ht : eval (.Call fe (e :: es) [] pos) X.env = (do callWith pos (← eval fe X.env) [] (backTo pos (starEach (e :: es) X.env)) (backToKw pos (keywordEach [] X.env))) := by rfl)
    (he : starEach (e :: es) X.env = (false, eval e X.env) :: starEach es X.env := by rfl) (hpl : (backTo pos (starEach es X.env)).any (·.1) = false := by rfl) :
    PE X (.Call fe (e :: es) [] pos) (tD X.K C (mCallM c spec mf ma)) := by
  obtain ⟨g, fd, ps, Cc, F, oc, co, hb⟩ := cl.ex
  exact pe_imp (pe_callI hf co F (hr.mono hk) hb ha ht he hpl) (td_callI oc)
theorem pd_callIK {c : Str} {spec : PSpec} {mf : ME} {mk : MA} {fe : Expr} {kws : List Keyword} {ks : List Str} {pos : Pos} {j : Nat} {gg : {α : Type} → List α → List α → List α} (cl : CalCK X.prog X.w X.K X.mg X.base CN k c spec ks gg) (hr : RoomG j X.A) (hk : k ≤ j) (hf : PE X fe (tD X.K C mf)) (hkw : PK X kws (tDA X.K C mk))
    (ht : eval (.Call fe [] kws pos) X.env = (do callWith pos (← eval fe X.env) [] (backTo pos (starEach [] X.env)) (backToKw pos (keywordEach kws X.env))) := by rfl)
    (hall : (backToKw pos (keywordEach kws X.env)).all (·.1.isSome) = true := by rfl) (hks : (backToKw pos (keywordEach kws X.env)).filterMap (·.1) = ks := by rfl)
    (hpl : ((backTo pos (starEach [] X.env)).any (·.1) || (backToKw pos (keywordEach kws X.env)).any (·.1.isNone)) = false := by rfl) :
    PE X (.Call fe [] kws pos) (tD X.K C (mCallMK c spec gg mf mk)) := by
  obtain ⟨g, fd, ps, Cc, F, oc, co, hb⟩ := cl.ex
  exact pe_imp (pe_callIK hf co F (hr.mono hk) hb hkw ht hall hks hpl) (td_callIK cl.ord oc)
theorem nf_c {K : PySem.W.Frag} {c : Str} {F H : Hp} {x : V} {d : PyData} (oc : ObjC K c Cc) (e : Same F H) (r : Rp K F x d) (h : ∃ z, bIsC c d = some z) : ∃ t, TyX K H x t ∧ PySem.W.notFirst K Cc t = true := by
  have nf : ∀ {T : String}, (PySem.W.subIn K (.type T) (.ref Cc) == some false) = true → PySem.W.notFirst K Cc (.type T) = true := fun h => by
    unfold PySem.W.notFirst
    rw [h, Bool.or_true]
  obtain ⟨z, h⟩ := h
  cases r with
  | non => exact ⟨_, .base .non, nf rfl⟩
  | bl b => exact ⟨_, .base (.bl b), nf rfl⟩
  | int i => exact ⟨_, .base (.int i), nf rfl⟩
  | str s => exact ⟨_, .base (.str s), nf rfl⟩
  | lst hh _ => exact ⟨_, .base (.lst (e _ _ hh)), nf rfl⟩
  | tup hh _ =>
    rcases hh with (hh | ⟨o, hh⟩) | ⟨o, its, n, hh, c, _⟩
    · exact ⟨_, .base (.tup (e _ _ hh)), nf rfl⟩
    · exact ⟨_, .fTuple (e _ _ hh), nf rfl⟩
    · exact ⟨_, .kTuple hh c, nf rfl⟩
  | dct hh rd => exact ⟨_, .base (.dK (e _ _ hh)), nf rfl⟩
  | ex0 _ _ => cases h
  | exF _ _ _ _ => cases h
  | ins hh o _ =>
    rename_i c' _ _ _
    have h : (if c' = c then some (PyData.bool true) else none) = some z := h
    by_cases q : c' = c
    · have o2 : ObjC K c _ := q ▸ o
      cases o2.uniq oc
      refine ⟨_, .base (.ins (e _ _ hh) o.cl o.ha o.hn o.htk o.hm), ?_⟩
      unfold PySem.W.notFirst
      rw [beq_self_eq_true, Bool.true_or]
    · rw [if_neg q] at h
      cases h
def rEqO (K : PySem.W.Frag) (C : Addr) (sp : Sp) : R2 := fun x y H Q => ∃ a dx fs t, x = .ref a ∧ H a = some (.ins C dx fs) ∧ TyX K H y t ∧ PySem.W.notFirst K C t = true ∧ sp [x, y] H (fun v H2 => ∃ t, v = .bl t ∧ Q (.bl t) H2) fun _ _ _ => False
theorem op_eqO {op : CmpOp} (hop : ∀ a b, compareOp op a b = richCompare op a b) (hs : PySem.W.findIn X.K (.ref Cc) (cmpInfo op).2.1 = some (some (.ref f))) (hf : PySem.W.isFn X.K (.ref f) = true) (F : FnG X.prog X.w X.K X.mg X.base k f fd ps sp) (hb : Binds X.K fd ps []) (hr : RoomG k X.A) : OpR X (compareOp op) (rEqO X.K Cc sp) := by
  intro pins s σ H x y v u Q I rx ry h
  obtain ⟨a, dx, fs, t, rfl, h1, ty, hn, q⟩ := h
  cases (show v = Value.ref a from rx)
  obtain ⟨m, fr⟩ := I.fr
  obtain ⟨ox, od, J⟩ := ins_inst I.hok h1
  obtain ⟨P, kx, hp, _⟩ := kit_of I ry ty
  rw [hop]
  refine PySem.W.cmp_K hr.r.units0 fr I.ok.mod.kin J (kx.ty _ _ I.kIn hp) hn hs hf ?_
  refine wpAny_mono (wp_callG (E := fun _ _ _ _ => False) F hr hb (passNo (σ := σ)) I (vs := [V.ref a, y]) (.cons (show L2.RelV (V.ref a) (.ref a) from rfl) (.cons ry .nil)) q) (fun v s' hq => ?_) fun _ _ z => z
  obtain ⟨z, H2, I2, rz, t, rfl, hq⟩ := hq
  cases (show v = Value.bool t from rz)
  exact ⟨.bl t, H2, I2, rfl, hq⟩
/-- a == b, a an instance of the class c: its def, which raises nothing and gives a truth value -/
def mEqM (c : Str) (spec : PSpec) (ma mb : ME) : ME := fun sd Q => ma sd fun a s1 => mb s1 fun b s2 => (∃ es, a = objD c es) ∧ (∃ z, bIsC c b = some z) ∧ spec [a, b] (fun r => ∃ t, r = .va (.bool t) ∧ Q (.bool t) s2) fun _ => False
theorem td_eqM {c : Str} {spec : PSpec} {ma mb : ME} (oc : ObjC X.K c Cc) : ∀ σ H Q, tD X.K C (mEqM c spec ma mb) σ H Q → tOp (rEqO X.K Cc (spP X.K CN spec)) (tD X.K C ma) (tD X.K C mb) σ H Q := by
  rintro σ H Q ⟨F0, sd, Qd, R, h, kk⟩
  refine ⟨F0, sd, _, R, h, fun x H1 F1 d sd1 R1 S1 rx h1 => ⟨F1, sd1, _, R1, h1, fun y H2 F2 e sd2 R2 S2 ry h2 => ?_⟩⟩
  obtain ⟨⟨es2, rfl⟩, hz, hs⟩ := h2
  have rx := rx.mono S2.fr
  obtain ⟨a2, C2, d2, f2, rfl, h2, o2, r2⟩ := rp_obj rx
  cases o2.uniq oc
  obtain ⟨t, ty, hn⟩ := nf_c oc R2.ext ry hz
  refine ⟨a2, d2, f2, t, rfl, R2.ext _ _ h2, ty, hn, F2, _, _, _, R2.ext, .cons rx (.cons ry .nil), hs, fun v H' F' r P ro q => ?_, fun _ _ _ _ _ _ z => z⟩
  obtain ⟨t, rfl, q⟩ := q
  obtain ⟨R3, S3⟩ := R2.post P
  cases ro
  exact ⟨t, rfl, kk (.bl t) H' F' _ sd2 R3 ((S1.trans S2).trans S3) (.bl t) q⟩
theorem pd_eqM {op : CmpOp} {c dn : Str} {spec : PSpec} {ma mb : ME} {a b : Expr} {pos : Pos} {j : Nat} (cl : CalM X.prog X.w X.K X.mg X.base CN k c dn spec) (hd : (cmpInfo op).2.1 = dn) (hop : ∀ a b, compareOp op a b = richCompare op a b) (hr : RoomG j X.A) (hk : k ≤ j) (ha : PE X a (tD X.K C ma)) (hb : PE X b (tD X.K C mb)) (hm : behindInMarks op b = false) :
    PE X (.Compare a [op] [b] pos) (tD X.K C (mEqM c spec ma mb)) := by
  obtain ⟨f, fd, ps, Cc, F, oc, hf, hfn, hbi⟩ := cl.ex
  subst hd
  exact pe_imp (pe_cmpR (op_eqO hop hf hfn F hbi (hr.mono hk)) ha hb hm) (td_eqM oc)
theorem pdt_eqM {op : CmpOp} {c dn : Str} {spec : PSpec} {ma mb : ME} {a b : Expr} {pos : Pos} {j : Nat} (cl : CalM X.prog X.w X.K X.mg X.base CN k c dn spec) (hd : (cmpInfo op).2.1 = dn) (hop : ∀ a b, compareOp op a b = richCompare op a b) (hr : RoomG j X.A) (hk : k ≤ j) (ha : PE X a (tD X.K C ma)) (hb : PE X b (tD X.K C mb)) (hm : behindInMarks op b = false) :
    PT X (.Compare a [op] [b] pos) (tDT X.K C (mT (mEqM c spec ma mb))) := by
  obtain ⟨f, fd, ps, Cc, F, oc, hf, hfn, hbi⟩ := cl.ex
  subst hd
  exact pt_imp (pt_cmpR (op_eqO hop hf hfn F hbi (hr.mono hk)) ha hb hm) (td_test (td_eqM oc))
theorem ne_K {prog : Program} {w : World} {A : Around} {E : Value → Shared → Prop} {s : Shared} {K : PySem.W.Frag} {x C L f : Addr} {h₀ : Heap} {m : Str → Option Value} {ox : Obj} {od : Option Obj} {b tb : Value} {Q : Value → Shared → Prop}
    (hu : A.units < cLine) (hu1 : A.in1.units < cLine) (fr : Fr h₀ L s.heap m) (X₀ : K.In h₀) (I : PySem.W.InstAt s.heap x ox C od) (hb : PySem.W.Looks (model prog w) s.heap (typeOf b) tb) (hn : PySem.W.notFirst K C tb = true)
    (hs : PySem.W.findIn K (.ref C) "__ne__" = some (some (.builtin "object.__ne__"))) (he : PySem.W.findIn K (.ref C) "__eq__" = some (some (.ref f))) (hf : PySem.W.isFn K (.ref f) = true) (hm : PySem.W.mroIn K C (.type "object") = some true)
    (h : wpAny (model prog w) A.in1 (call (.ref f) [.ref x, b]) (fun v s' => ∃ t, v = .bool t ∧ Q (.bool (!t)) s') E s) : wpAny (model prog w) A (richCompare .NotEq (.ref x) b) Q E s := by
  have X := X₀.keeps fr.keep
  have one : wpAny (model prog w) A (tryCompare (.ref x) "__ne__" b) (fun r s' => ∃ v, r = some v ∧ Q v s') E s := by
    unfold tryCompare
    refine wpAny_bind (NtL.csib (I.type.andThen (PySem.W.looks_findIn X hs)) (PySem.F.cmp_object.ne.bind _) ?_)
    refine wpAny_call (codeAny_call_builtin PySem.F.cmp_object.ne.plain PySem.F.cmpEntry_ne (PySem.W.check_slot PySem.F.cmpKind_ne PySem.F.cmpSplit_ne (I.type.andThen (PySem.W.looks_subIn X hm)) (PySem.F.cmpArgs_ne _ _) ?_))
    show wpAny _ A.in1 (Builtin.«object.__ne__» ⟨[.ref x, b], []⟩) _ _ s
    unfold Builtin.«object.__ne__»
    refine wpAny_bind (wpAny_of_eq (a := ((Value.ref x), [b])) rfl ?_)
    refine wpAny_bind (wpAny_cRoomFor hu1 ?_)
    refine wpAny_bind (PySem.W.ifBound_K X I he hf (wpAny_mono h (fun v s' hv => ?_) fun _ _ e => e))
    obtain ⟨t, rfl, q⟩ := hv
    refine wpAny_bind (wpAny_truthy_bool ?_)
    exact wpAny_pure (wpAny_pure ⟨_, rfl, q⟩)
  unfold richCompare
  simp only [oneThing_ref]
  refine wpAny_holding (wpAny_bind (wpAny_cRoomFor hu ?_))
  refine wpAny_bind (I.type.here (wpAny_bind (hb.here ?_)))
  split
  · rename_i q
    have e : PySem.W.subIn K tb (.ref C) = some false := by
      rcases Bool.or_eq_true_iff.mp hn with e | e
      · rw [beq_iff_eq.mp e] at q; simp at q
      · exact beq_iff_eq.mp e
    refine wpAny_bind ((PySem.W.looks_subIn X e).here ?_)
    simp only [Bool.false_eq_true, if_false]
    refine wpAny_bind (wpAny_mono one (fun r s' z => ?_) fun _ _ e => e)
    obtain ⟨v, rfl, hq⟩ := z
    exact wpAny_pure hq
  · refine wpAny_bind (wpAny_pure ?_)
    simp only [Bool.false_eq_true, if_false]
    refine wpAny_bind (wpAny_mono one (fun r s' z => ?_) fun _ _ e => e)
    obtain ⟨v, rfl, hq⟩ := z
    exact wpAny_pure hq
theorem op_neO (hs : PySem.W.findIn X.K (.ref Cc) "__ne__" = some (some (.builtin "object.__ne__"))) (he : PySem.W.findIn X.K (.ref Cc) "__eq__" = some (some (.ref f))) (hf : PySem.W.isFn X.K (.ref f) = true) (hm : PySem.W.mroIn X.K Cc (.type "object") = some true)
    (F : FnG X.prog X.w X.K X.mg X.base k f fd ps sp) (hb : Binds X.K fd ps []) (hr : RoomG (k + 1) X.A) : OpR X (compareOp .NotEq) (fun x y H Q => rEqO X.K Cc sp x y H fun v H2 => ∃ t, v = .bl t ∧ Q (.bl (!t)) H2) := by
  intro pins s σ H x y v u Q I rx ry h
  obtain ⟨a, dx, fs, t, rfl, h1, ty, hn, q⟩ := h
  cases (show v = Value.ref a from rx)
  obtain ⟨m, fr⟩ := I.fr
  obtain ⟨ox, od, J⟩ := ins_inst I.hok h1
  obtain ⟨P, kx, hp, _⟩ := kit_of I ry ty
  show wpAny _ _ (richCompare .NotEq (.ref a) u) _ _ _
  refine ne_K hr.r.units0 hr.in1.r.units0 fr I.ok.mod.kin J (kx.ty _ _ I.kIn hp) hn hs he hf hm ?_
  have rr : Vals [V.ref a, y] [Value.ref a, u] := .cons (show L2.RelV (V.ref a) (.ref a) from rfl) (.cons ry .nil)
  have hl : ([Value.ref a, u] ++ []).length = ps.length := by rw [← F.len _ _ _ _ q]; rfl
  have bb := hb s [.ref a, u] I.kIn hl
  rw [List.append_nil] at bb
  refine wpAny_call (codeAny_mono (F.run hr.in1 I.env0.in1 bb rr q) fun r s' hq => ?_)
  cases r with
  | error er =>
    obtain ⟨_, _, _, _, _, _, _, _, _, _, _, _, z⟩ := hq
    exact z.elim
  | ok fl =>
    cases fl with
    | ret u =>
      obtain ⟨z, H', I3, rv, t, rfl, t2, e2, q3⟩ := I.after hq
      cases e2
      cases (show u = Value.bool t from rv)
      exact ⟨t, rfl, .bl (!t), H', I3, rfl, q3⟩
    | next => exact False.elim hq
    | brk => exact False.elim hq
    | cont => exact False.elim hq
/-- a != b, a an instance of the class c that has no __ne__ of its own -/
def mNeM (c : Str) (spec : PSpec) (ma mb : ME) : ME := fun sd Q => ma sd fun a s1 => mb s1 fun b s2 => (∃ es, a = objD c es) ∧ (∃ z, bIsC c b = some z) ∧ spec [a, b] (fun r => ∃ t, r = .va (.bool t) ∧ Q (.bool (!t)) s2) fun _ => False
theorem td_neM {c : Str} {spec : PSpec} {ma mb : ME} (oc : ObjC X.K c Cc) : ∀ σ H Q, tD X.K C (mNeM c spec ma mb) σ H Q → tOp (fun x y H Q => rEqO X.K Cc (spP X.K CN spec) x y H fun v H2 => ∃ t, v = .bl t ∧ Q (.bl (!t)) H2) (tD X.K C ma) (tD X.K C mb) σ H Q := by
  rintro σ H Q ⟨F0, sd, Qd, R, h, kk⟩
  refine ⟨F0, sd, _, R, h, fun x H1 F1 d sd1 R1 S1 rx h1 => ⟨F1, sd1, _, R1, h1, fun y H2 F2 e sd2 R2 S2 ry h2 => ?_⟩⟩
  obtain ⟨⟨es2, rfl⟩, hz, hs⟩ := h2
  have rx := rx.mono S2.fr
  obtain ⟨a2, C2, d2, f2, rfl, h2, o2, r2⟩ := rp_obj rx
  cases o2.uniq oc
  obtain ⟨t, ty, hn⟩ := nf_c oc R2.ext ry hz
  refine ⟨a2, d2, f2, t, rfl, R2.ext _ _ h2, ty, hn, F2, _, _, _, R2.ext, .cons rx (.cons ry .nil), hs, fun v H' F' r P ro q => ?_, fun _ _ _ _ _ _ z => z⟩
  obtain ⟨t, rfl, q⟩ := q
  obtain ⟨R3, S3⟩ := R2.post P
  cases ro
  exact ⟨t, rfl, t, rfl, kk (.bl (!t)) H' F' _ sd2 R3 ((S1.trans S2).trans S3) (.bl (!t)) q⟩
/-- the class c has object's __ne__, and its own __eq__ -/
structure CalN (P : Program) (w : World) (K : PySem.W.Frag) (mg : Str → Option Value) (base : Heap) (CN : String → Option Addr) (k : Nat) (c : Str) (spec : PSpec) : Prop where
  ex : ∃ f fd ps Cc, FnG P w K mg base k f fd ps (spP K CN spec) ∧ ObjC K c Cc ∧ PySem.W.findIn K (.ref Cc) "__eq__" = some (some (.ref f)) ∧ PySem.W.isFn K (.ref f) = true ∧ Binds K fd ps [] ∧ PySem.W.findIn K (.ref Cc) "__ne__" = some (some (.builtin "object.__ne__"))
theorem pd_neM {c : Str} {spec : PSpec} {ma mb : ME} {a b : Expr} {pos : Pos} {j : Nat} (cl : CalN X.prog X.w X.K X.mg X.base CN k c spec) (hr : RoomG j X.A) (hk : k + 1 ≤ j) (ha : PE X a (tD X.K C ma)) (hb : PE X b (tD X.K C mb)) (hm : behindInMarks .NotEq b = false) :
    PE X (.Compare a [.NotEq] [b] pos) (tD X.K C (mNeM c spec ma mb)) := by
  obtain ⟨f, fd, ps, Cc, F, oc, hf, hfn, hbi, hne⟩ := cl.ex
  exact pe_imp (pe_cmpR (op_neO hne hf hfn oc.hm F hbi (hr.mono hk)) ha hb hm) (td_neM oc)
theorem pdt_neM {c : Str} {spec : PSpec} {ma mb : ME} {a b : Expr} {pos : Pos} {j : Nat} (cl : CalN X.prog X.w X.K X.mg X.base CN k c spec) (hr : RoomG j X.A) (hk : k + 1 ≤ j) (ha : PE X a (tD X.K C ma)) (hb : PE X b (tD X.K C mb)) (hm : behindInMarks .NotEq b = false) :
    PT X (.Compare a [.NotEq] [b] pos) (tDT X.K C (mT (mNeM c spec ma mb))) := by
  obtain ⟨f, fd, ps, Cc, F, oc, hf, hfn, hbi, hne⟩ := cl.ex
  exact pt_imp (pt_cmpR (op_neO hne hf hfn oc.hm F hbi (hr.mono hk)) ha hb hm) (td_test (td_neM oc))
/-- the class c may be made by the keywords ks (n of them), whose order hh turns into the def's -/
structure CalIK (P : Program) (w : World) (K : PySem.W.Frag) (mg : Str → Option Value) (base : Heap) (CN : String → Option Addr) (k : Nat) (c : Str) (spec : OSpec) (ks : List Str) (hh : {α : Type} → List α → List α) : Prop where
  ex : ∃ f fd ps Cc, ∃ gg : {α : Type} → List α → List α → List α, FnG P w K mg base k f fd ps (spO K CN c spec) ∧ mg c = some (.ref Cc) ∧ ObjC K c Cc ∧ Mk K Cc f ∧ KBinds K fd ps ks gg gg ∧ ∀ {α : Type} (v : α) (ws : List α), ws.length = ks.length → gg [v] ws = v :: hh ws
  ord : ∀ {α β : Type} (R : α → β → Prop) {as : List α} {bs : List β}, Paired R as bs → Paired R (hh as) (hh bs)
def mKw (n : Nat) (hh : {α : Type} → List α → List α) (mk : MA) : MA := fun sd Q => mk sd fun ds s1 => ds.length = n ∧ Q (hh ds) s1
def mMakeK (c : Str) (spec : OSpec) (W : WD) (n : Nat) (hh : {α : Type} → List α → List α) (mk : MA) : ME := mMake c spec W (mKw n hh mk)
def tKw (n : Nat) (hh : {α : Type} → List α → List α) (tk : TA) : TA := fun σ H Q => tk σ H fun zs H1 => zs.length = n ∧ Q (hh zs) H1
theorem rpA_length {K : PySem.W.Frag} {F : Hp} : ∀ {vs : List V} {ds : List PyData}, RpA K F vs ds → vs.length = ds.length
  | _, _, .nil => rfl
  | _, _, .cons _ r => congrArg Nat.succ (rpA_length r)
theorem td_kw {K : PySem.W.Frag} {n : Nat} {hh : {α : Type} → List α → List α} {mk : MA} (og : ∀ {α β : Type} (R : α → β → Prop) {as : List α} {bs : List β}, Paired R as bs → Paired R (hh as) (hh bs)) : ∀ σ H Q, tDA K C (mKw n hh mk) σ H Q → tKw n hh (tDA K C mk) σ H Q := by
  rintro σ H Q ⟨F, sd, Qd, R, h, kk⟩
  refine ⟨F, sd, _, R, h, fun vs H1 F1 ds sd1 R1 S1 rs h1 => ?_⟩
  obtain ⟨hl, q⟩ := h1
  exact ⟨(rpA_length rs).trans hl, kk _ _ _ _ _ R1 S1 (paired_rpA (og _ (rpA_paired rs))) q⟩
theorem run_makeGK {E : L2.St → XK} {ks : List Str} {gg : {α : Type} → List α → List α → List α} {pins : List (Addr × Obj)} {σ : L2.St} {H : Hp} {s : Shared} {Q : VK} {ws : List Value} {zs : List V} (M : Mk X.K Cc f) (F : FnG X.prog X.w X.K X.mg X.base k f fd ps sp) (hr : RoomG (k + 1) X.A) (hb : KBinds X.K fd ps ks gg gg) (hx : PassesAt (L2.CX X.prog X.w) X σ (E σ))
    (I : L2.Inv X pins σ H s) (rz : Vals zs ws) (h : ∀ x dx, H x = none → H dx = none → dx ≠ x → sp (gg [V.ref x] zs) (upd (upd H dx (.own x)) x (.ins Cc dx [])) (fun v H2 => v = .non ∧ Q (.ref x) H2) (E σ)) :
    wpAny (model X.prog X.w) X.A (call (.ref Cc) [] (ks.zip ws)) (EP X pins σ Q) X.xe s := by
  have I1 := I.made (C := Cc)
  have f1 := I.hok.fresh (a := s.heap.objs.size) (Nat.le_refl _)
  have f2 := I.hok.fresh (a := s.heap.objs.size + 1) (Nat.le_succ _)
  have hs := h (s.heap.objs.size + 1) s.heap.objs.size f2 f1 (Nat.ne_of_lt (Nat.lt_succ_self _))
  have rg := hb.rel (vs := [V.ref (s.heap.objs.size + 1)]) (us := [Value.ref (s.heap.objs.size + 1)]) (.cons (show L2.RelV (V.ref (s.heap.objs.size + 1)) (.ref (s.heap.objs.size + 1)) from rfl) .nil) rz
  have hl : (gg [Value.ref (s.heap.objs.size + 1)] ws).length = ps.length := rg.length ▸ F.len _ _ _ _ hs
  have b := hb.to _ [Value.ref (s.heap.objs.size + 1)] ws I1.kIn hl
  refine wpAny_call (make_map I.kIn M.makes M.init (by have := M.fn; simpa [PySem.W.isFn] using this) (codeAny_mono (F.run (hr.make Cc [] (ks.zip ws)) (I1.env0.make Cc [] (ks.zip ws)) b rg hs) fun r s' hq => ?_))
  cases r with
  | error e => exact hx pins _ _ e s' I1 hq
  | ok fl =>
    cases fl with
    | ret u =>
      have q := I1.after hq
      obtain ⟨v, H2, I2, rv, hv, hq2⟩ := q
      subst hv
      cases rv
      exact ⟨rfl, .ref _, H2, I2, rfl, hq2⟩
    | next => exact hq
    | brk => exact hq
    | cont => exact hq
theorem pd_makeK {c : Str} {spec : OSpec} {W : WD} {mk : MA} {p pos : Pos} {kws : List Keyword} {ks : List Str} {k j : Nat} {hh : {α : Type} → List α → List α} (cl : CalIK X.prog X.w X.K X.mg X.base CN k c spec ks hh) (hr : RoomG j X.A) (hk : k + 1 ≤ j) (tk : Takes X (wD X.K C CN W)) (hkw : PK X kws (tDA X.K C mk)) (hg : Gl X c := by rfl)
    (hall : (backToKw pos (keywordEach kws X.env)).all (·.1.isSome) = true := by rfl) (hks : (backToKw pos (keywordEach kws X.env)).filterMap (·.1) = ks := by rfl) (hdb : (c == ("__debug__" : Str)) = false := by decide)
    (hpl : ((backTo pos (starEach [] X.env)).any (·.1) || (backToKw pos (keywordEach kws X.env)).any (·.1.isNone)) = false := by rfl) :
    PE X (.Call (.Name c p) [] kws pos) (tD X.K C (mMakeK c spec W ks.length hh mk)) := by
  obtain ⟨f, fd, ps, Cc, gg, F, hm, oc, M, hb, sh⟩ := cl.ex
  refine pe_imp (t := tMakeG Cc (spO X.K CN c spec) (WE (wD X.K C CN W)) (tKw ks.length hh (tDA X.K C mk))) ⟨fun pins s σ H Q I h => ?_⟩ fun σ H Q h => ?_
  · refine wpAny_Call_Name_kw (ld_glob I hg hm (PySem.W.callWith_KW0 (h₀ := X.base) I.ok.mod.kin M.kp hall (thn (hkw.run pos pins s σ H _ I h) fun ws s2 h2 => ?_) hpl) hdb)
    obtain ⟨zs, H2, I2, rz, hl, q2⟩ := h2
    refine ⟨I2.kIn, ?_⟩
    rw [hks]
    refine run_makeGK (E := WE (wD X.K C CN W)) M F (hr.mono hk) hb (passAt tk σ) I2 rz fun x dx h1 h2 h3 => ?_
    rw [sh _ _ hl]
    exact q2 x dx h1 h2 h3
  · have z := td_make (K := X.K) (C := C) (CN := CN) (W := W) (ma := mKw ks.length hh mk) (spec := spec) oc σ H Q h
    exact td_kw cl.ord σ H _ z
theorem op_ninO (hf : PySem.W.findIn X.K (.ref Cc) "__contains__" = some (some (.ref f))) (hfn : PySem.W.isFn X.K (.ref f) = true) (F : FnG X.prog X.w X.K X.mg X.base k f fd ps sp) (hb : Binds X.K fd ps []) (hr : RoomG k X.A) : OpR X (compareOp .NotIn) (fun x y H Q => rInO Cc sp x y H fun v H2 => ∃ t, v = .bl t ∧ Q (.bl (!t)) H2) := by
  intro pins s σ H x y v u Q I rx ry h
  obtain ⟨b, dy, gs, rfl, h1, q⟩ := h
  cases (show u = Value.ref b from ry)
  obtain ⟨m, fr⟩ := I.fr
  obtain ⟨ox, od, J⟩ := ins_inst I.hok h1
  refine PySem.W.notIn_K fr I.ok.mod.kin J hf hfn ?_
  refine wpAny_mono (wp_callG (E := fun _ _ _ _ => False) F hr hb (passNo (σ := σ)) I (vs := [V.ref b, x]) (.cons (show L2.RelV (V.ref b) (.ref b) from rfl) (.cons rx .nil)) q) (fun v s' hq => ?_) fun _ _ z => z
  obtain ⟨z, H2, I2, rz, t, rfl, t2, e2, hq⟩ := hq
  cases e2
  cases (show v = Value.bool t from rz)
  exact wpAny_truthy_bool ⟨.bl (!t), H2, I2, rfl, hq⟩
def mNinM (c : Str) (spec : PSpec) (ma mb : ME) : ME := fun sd Q => ma sd fun a s1 => mb s1 fun b s2 => (∃ es, b = objD c es) ∧ spec [b, a] (fun r => ∃ t, r = .va (.bool t) ∧ Q (.bool (!t)) s2) fun _ => False
theorem td_ninM {c : Str} {spec : PSpec} {ma mb : ME} (oc : ObjC X.K c Cc) : ∀ σ H Q, tD X.K C (mNinM c spec ma mb) σ H Q → tOp (fun x y H Q => rInO Cc (spP X.K CN spec) x y H fun v H2 => ∃ t, v = .bl t ∧ Q (.bl (!t)) H2) (tD X.K C ma) (tD X.K C mb) σ H Q := by
  rintro σ H Q ⟨F0, sd, Qd, R, h, kk⟩
  refine ⟨F0, sd, _, R, h, fun x H1 F1 d sd1 R1 S1 rx h1 => ⟨F1, sd1, _, R1, h1, fun y H2 F2 e sd2 R2 S2 ry h2 => ?_⟩⟩
  obtain ⟨⟨es2, rfl⟩, hs⟩ := h2
  have rx := rx.mono S2.fr
  obtain ⟨a2, C2, d2, f2, rfl, h2, o2, r2⟩ := rp_obj ry
  cases o2.uniq oc
  refine ⟨a2, d2, f2, rfl, R2.ext _ _ h2, F2, _, _, _, R2.ext, .cons ry (.cons rx .nil), hs, fun v H' F' r P ro q => ?_, fun _ _ _ _ _ _ z => z⟩
  obtain ⟨t, rfl, q⟩ := q
  obtain ⟨R3, S3⟩ := R2.post P
  cases ro
  exact ⟨t, rfl, t, rfl, kk (.bl (!t)) H' F' _ sd2 R3 ((S1.trans S2).trans S3) (.bl (!t)) q⟩
theorem pd_ninM {c : Str} {spec : PSpec} {ma mb : ME} {a b : Expr} {pos : Pos} {j : Nat} (cl : CalM X.prog X.w X.K X.mg X.base CN k c "__contains__" spec) (hr : RoomG j X.A) (hk : k ≤ j) (ha : PE X a (tD X.K C ma)) (hb : PE X b (tD X.K C mb)) (hm : behindInMarks .NotIn b = false) :
    PE X (.Compare a [.NotIn] [b] pos) (tD X.K C (mNinM c spec ma mb)) := by
  obtain ⟨f, fd, ps, Cc, F, oc, hf, hfn, hbi⟩ := cl.ex
  exact pe_imp (pe_cmpR (op_ninO hf hfn F hbi (hr.mono hk)) ha hb hm) (td_ninM oc)
theorem pdt_ninM {c : Str} {spec : PSpec} {ma mb : ME} {a b : Expr} {pos : Pos} {j : Nat} (cl : CalM X.prog X.w X.K X.mg X.base CN k c "__contains__" spec) (hr : RoomG j X.A) (hk : k ≤ j) (ha : PE X a (tD X.K C ma)) (hb : PE X b (tD X.K C mb)) (hm : behindInMarks .NotIn b = false) :
    PT X (.Compare a [.NotIn] [b] pos) (tDT X.K C (mT (mNinM c spec ma mb))) := by
  obtain ⟨f, fd, ps, Cc, F, oc, hf, hfn, hbi⟩ := cl.ex
  exact pt_imp (pt_cmpR (op_ninO hf hfn F hbi (hr.mono hk)) ha hb hm) (td_test (td_ninM oc))
end
theorem pick_paired {α β : Type} (R : α → β → Prop) {as : List α} {bs : List β} {ss : List Sel} (h : Paired R as bs) : Paired R (pick [] as ss) (pick [] bs ss) := by
  induction ss with
  | nil => exact .nil
  | cons s ss ih =>
    cases s with
    | p i => exact paired_app (paired_at i .nil) ih
    | k i => exact paired_app (paired_at i h) ih
end DL
namespace DL
open PySem PySem.Spec PyProof.Rows L2
/-- a two-place operation that may raise -/
def tOpE (r : V → V → Hp → VK → XK → Prop) (E : L2.St → XK) (ta tb : TE) : TE := fun σ H Q => ta σ H fun x H1 => tb σ H1 fun y H2 => r x y H2 Q (E σ)
/-- f(e, ..), f an expression that gives an instance of C -/
def tCallIE (C : Addr) (sp : Sp) (E : L2.St → XK) (tf : TE) (t : TA) : TE := fun σ H Q => tf σ H fun y H1 => ∃ a, y = V.ref a ∧ t σ H1 fun vs H2 => (∃ dx fs, H2 a = some (.ins C dx fs)) ∧ sp (V.ref a :: vs) H2 Q (E σ)
def tCallIKE (C : Addr) (sp : Sp) (E : L2.St → XK) (gV : List V → List V → List V) (tf : TE) (tk : TA) : TE := fun σ H Q => tf σ H fun y H1 => ∃ a, y = V.ref a ∧ tk σ H1 fun zs H2 => (∃ dx fs, H2 a = some (.ins C dx fs)) ∧ sp (gV [V.ref a] zs) H2 Q (E σ)
section
variable {X : Cx} {k : Nat} {g f Cc : Addr} {fd : FuncData} {ps : List Str} {sp : Sp} {E : L2.St → XK}
theorem run_callIE {pins : List (Addr × Obj)} {σ : L2.St} {H : Hp} {s : Shared} {Q : VK} {a dx : Addr} {fs : List (Str × V)} {us : List Value} {vs : List V} (c : StX.CallO X.K Cc g) (F : FnG X.prog X.w X.K X.mg X.base k g fd ps sp) (hr : RoomG k X.A) (hb : Binds X.K fd ps []) (hx : PassesAt (L2.CX X.prog X.w) X σ (E σ)) (I : L2.Inv X pins σ H s) (e : H a = some (.ins Cc dx fs)) (r : Vals vs us)
    (h : sp (V.ref a :: vs) H Q (E σ)) : wpAny (model X.prog X.w) X.A (call (.ref a) us) (EP X pins σ Q) X.xe s := by
  obtain ⟨ox, od, J, hd⟩ := StX.insC_at I (.inr ⟨dx, fs, e⟩)
  have rr : Vals (V.ref a :: vs) (Value.ref a :: us) := .cons rfl r
  have hl : ((Value.ref a :: us) ++ []).length = ps.length := by rw [List.append_nil, ← rr.length]; exact F.len _ _ _ _ h
  have b := hb s (Value.ref a :: us) I.kIn hl
  rw [List.append_nil] at b
  refine wpAny_call (PySem.W.kco_code I.kIn J hd c.at_ c.fn c.fi (codeAny_mono (run_fnG (args := ⟨Value.ref a :: us, []⟩) (n := 0) F hr b hx I rr h) fun r s' hq => ?_))
  rcases r with _ | (_ | _ | _ | _) <;> exact hq
theorem run_callIKE {ks : List Str} {gg : List Value → List Value → List Value} {gV : List V → List V → List V} {pins : List (Addr × Obj)} {σ : L2.St} {H : Hp} {s : Shared} {Q : VK} {a dx : Addr} {fs : List (Str × V)} {ws : List Value} {zs : List V} (c : StX.CallO X.K Cc g) (F : FnG X.prog X.w X.K X.mg X.base k g fd ps sp) (hr : RoomG k X.A) (hb : KBinds X.K fd ps ks gg gV) (hx : PassesAt (L2.CX X.prog X.w) X σ (E σ)) (I : L2.Inv X pins σ H s) (e : H a = some (.ins Cc dx fs)) (rz : Vals zs ws)
    (h : sp (gV [V.ref a] zs) H Q (E σ)) : wpAny (model X.prog X.w) X.A (call (.ref a) [] (ks.zip ws)) (EP X pins σ Q) X.xe s := by
  obtain ⟨ox, od, J, hd⟩ := StX.insC_at I (.inr ⟨dx, fs, e⟩)
  have rg := hb.rel (vs := [V.ref a]) (us := [Value.ref a]) (.cons (show L2.RelV (V.ref a) (.ref a) from rfl) .nil) rz
  have hl : (gg [Value.ref a] ws).length = ps.length := rg.length ▸ F.len _ _ _ _ h
  refine wpAny_call (PySem.W.kco_code I.kIn J hd c.at_ c.fn c.fi (codeAny_mono (run_fnG (args := ⟨[Value.ref a], ks.zip ws⟩) (n := 0) F hr (hb.to s [Value.ref a] ws I.kIn hl) hx I rg h) fun r s' hq => ?_))
  rcases r with _ | (_ | _ | _ | _) <;> exact hq
theorem pe_callIE {fe e : Expr} {es : List Expr} {pos : Pos} {tf : TE} {t : TA} (hf : PE X fe tf) (c : StX.CallO X.K Cc g) (F : FnG X.prog X.w X.K X.mg X.base k g fd ps sp) (hr : RoomG k X.A) (hb : Binds X.K fd ps []) (hx : ∀ σ, PassesAt (L2.CX X.prog X.w) X σ (E σ)) (ha : PA X (e :: es) t)
    (ht : eval (.Call fe (e :: es) [] pos) X.env = (do callWith pos (← eval fe X.env) [] (backTo pos (starEach (e :: es) X.env)) (backToKw pos (keywordEach [] X.env))))
    (he : starEach (e :: es) X.env = (false, eval e X.env) :: starEach es X.env) (hpl : (backTo pos (starEach es X.env)).any (·.1) = false) : PE X (.Call fe (e :: es) [] pos) (tCallIE Cc sp E tf t) := by
  refine ⟨fun pins s σ H Q I h => ?_⟩
  rw [ht]
  refine wpAny_bind (thn (hf.run pins s σ H _ I h) fun u s1 ⟨y, H1, I1, ry, a, ey, q⟩ => ?_)
  subst ey
  obtain rfl : u = Value.ref a := ry
  refine StX.callO_with (thn (ha.run pos pins s1 σ H1 _ I1 q) fun us s2 ⟨vs, H2, I2, r, ⟨dx, fs, hi⟩, q2⟩ => ?_) he hpl
  obtain ⟨ox, od, J, hd⟩ := StX.insC_at I2 (.inr ⟨dx, fs, hi⟩)
  exact ⟨⟨Cc, ox, od, J, hd⟩, run_callIE c F hr hb (hx σ) I2 hi r q2⟩
theorem pe_callIKE {ks : List Str} {gg : List Value → List Value → List Value} {gV : List V → List V → List V} {fe : Expr} {kws : List Keyword} {pos : Pos} {tf : TE} {tk : TA} (hf : PE X fe tf) (c : StX.CallO X.K Cc g) (F : FnG X.prog X.w X.K X.mg X.base k g fd ps sp) (hr : RoomG k X.A) (hb : KBinds X.K fd ps ks gg gV) (hx : ∀ σ, PassesAt (L2.CX X.prog X.w) X σ (E σ)) (hkw : PK X kws tk)
    (ht : eval (.Call fe [] kws pos) X.env = (do callWith pos (← eval fe X.env) [] (backTo pos (starEach [] X.env)) (backToKw pos (keywordEach kws X.env))))
    (hall : (backToKw pos (keywordEach kws X.env)).all (·.1.isSome) = true) (hks : (backToKw pos (keywordEach kws X.env)).filterMap (·.1) = ks)
    (hpl : ((backTo pos (starEach [] X.env)).any (·.1) || (backToKw pos (keywordEach kws X.env)).any (·.1.isNone)) = false) : PE X (.Call fe [] kws pos) (tCallIKE Cc sp E gV tf tk) := by
  refine ⟨fun pins s σ H Q I h => ?_⟩
  rw [ht]
  refine wpAny_bind (thn (hf.run pins s σ H _ I h) fun u s1 ⟨y, H1, I1, ry, a, ey, q⟩ => ?_)
  subst ey
  obtain rfl : u = Value.ref a := ry
  refine callK_of hpl (evalArgs_kw2_nil hall (thn (hkw.run pos pins s1 σ H1 _ I1 q) fun ws s2 ⟨zs, H2, I2, rz, ⟨dx, fs, hi⟩, q2⟩ => ?_))
  obtain ⟨ox, od, J, hd⟩ := StX.insC_at I2 (.inr ⟨dx, fs, hi⟩)
  refine ⟨⟨Cc, ox, od, J, hd⟩, ?_⟩
  rw [hks]
  exact run_callIKE c F hr hb (hx σ) I2 hi rz q2
end
/-- a(e, ..): the class's __call__ -/
def mCallME (c : Str) (spec : PSpec) (W : WD) (mf : ME) (ma : MA) : ME := fun sd Q => mf sd fun a s1 => (∃ es, a = objD c es) ∧ ma s1 fun ds s2 => spec (a :: ds) (fun r => ∃ d, fz r = some d ∧ Q d s2) fun cn => W cn s2
/-- a(x=e, ..) -/
def mCallMKE (c : Str) (spec : PSpec) (W : WD) (gg : List PyData → List PyData → List PyData) (mf : ME) (mk : MA) : ME := fun sd Q => mf sd fun a s1 => (∃ es, a = objD c es) ∧ mk s1 fun ds s2 => spec (gg [a] ds) (fun r => ∃ d, fz r = some d ∧ Q d s2) fun cn => W cn s2
section
variable {X : Cx} {C : Ct} {CN : String → Option Addr} {k : Nat} {Cc : Addr}
theorem td_callIE {c : Str} {spec : PSpec} {W : WD} {mf : ME} {ma : MA} (oc : ObjC X.K c Cc) : ∀ σ H Q, tD X.K C (mCallME c spec W mf ma) σ H Q → tCallIE Cc (spP X.K CN spec) (WE (wD X.K C CN W)) (tD X.K C mf) (tDA X.K C ma) σ H Q := by
  rintro σ H Q ⟨F0, sd, Qd, R, h, kk⟩
  refine ⟨F0, sd, _, R, h, fun x H1 F1 d sd1 R1 S1 rx h1 => ?_⟩
  obtain ⟨⟨es1, rfl⟩, hs⟩ := h1
  obtain ⟨a1, C1, d1, f1, rfl, h1, o1, r1⟩ := rp_obj rx
  cases o1.uniq oc
  refine ⟨a1, rfl, F1, sd1, _, R1, hs, fun vs H2 F2 ds sd2 R2 S2 rs h2 => ?_⟩
  have rx := rx.mono S2.fr
  obtain ⟨a2, C2, d2, f2, e2, h3, o2, r2⟩ := rp_obj rx
  cases e2
  cases o2.uniq oc
  refine ⟨⟨d2, f2, R2.ext _ _ h3⟩, F2, _, _, _, R2.ext, .cons rx rs, h2, fun v H' F' r P ro q => ?_, fun cn a H' F' hc P q => ?_⟩
  · obtain ⟨d, hfz, q⟩ := q
    obtain ⟨R3, S3⟩ := R2.post P
    obtain ⟨F3, R4, S4, rp⟩ := R3.res ((S1.trans S2).trans S3) ro (fun p hp => ⟨S1.st p (S2.st p hp), fun z => (R2.fresh hp).1 (S3.ow p z), (R2.fresh hp).2⟩) hfz
    exact kk v H' F3 d sd2 R4 S4 rp q
  · exact ⟨cn, a, F', sd2, hc, rfl, rfl, (R2.post P).1, q⟩
theorem td_callIKE {c : Str} {spec : PSpec} {W : WD} {mf : ME} {mk : MA} {gg : {α : Type} → List α → List α → List α} (og : Ord gg) (oc : ObjC X.K c Cc) : ∀ σ H Q, tD X.K C (mCallMKE c spec W gg mf mk) σ H Q → tCallIKE Cc (spP X.K CN spec) (WE (wD X.K C CN W)) gg (tD X.K C mf) (tDA X.K C mk) σ H Q := by
  rintro σ H Q ⟨F0, sd, Qd, R, h, kk⟩
  refine ⟨F0, sd, _, R, h, fun x H1 F1 d sd1 R1 S1 rx h1 => ?_⟩
  obtain ⟨⟨es1, rfl⟩, hs⟩ := h1
  obtain ⟨a1, C1, d1, f1, rfl, h1, o1, r1⟩ := rp_obj rx
  cases o1.uniq oc
  refine ⟨a1, rfl, F1, sd1, _, R1, hs, fun vs H2 F2 ds sd2 R2 S2 rs h2 => ?_⟩
  have rx := rx.mono S2.fr
  obtain ⟨a2, C2, d2, f2, e2, h3, o2, r2⟩ := rp_obj rx
  cases e2
  cases o2.uniq oc
  refine ⟨⟨d2, f2, R2.ext _ _ h3⟩, F2, _, _, _, R2.ext, paired_rpA (og.rel _ (rpA_paired (.cons rx .nil)) (rpA_paired rs)), h2, fun v H' F' r P ro q => ?_, fun cn a H' F' hc P q => ?_⟩
  · obtain ⟨d, hfz, q⟩ := q
    obtain ⟨R3, S3⟩ := R2.post P
    obtain ⟨F3, R4, S4, rp⟩ := R3.res ((S1.trans S2).trans S3) ro (fun p hp => ⟨S1.st p (S2.st p hp), fun z => (R2.fresh hp).1 (S3.ow p z), (R2.fresh hp).2⟩) hfz
    exact kk v H' F3 d sd2 R4 S4 rp q
  · exact ⟨cn, a, F', sd2, hc, rfl, rfl, (R2.post P).1, q⟩
theorem pd_callIE {c : Str} {spec : PSpec} {W : WD} {mf : ME} {ma : MA} {fe e : Expr} {es : List Expr} {pos : Pos} {j : Nat} (cl : CalC X.prog X.w X.K X.mg X.base CN k c spec) (hr : RoomG j X.A) (hk : k ≤ j) (tk : Takes X (wD X.K C CN W)) (hf : PE X fe (tD X.K C mf)) (ha : PA X (e :: es) (tDA X.K C ma))
    (ht : eval (.Call fe (e :: es) [] pos) X.env = (do callWith pos (← eval fe X.env) [] (backTo pos (starEach (e :: es) X.env)) (backToKw pos (keywordEach [] X.env))) := by rfl)
    (he : starEach (e :: es) X.env = (false, eval e X.env) :: starEach es X.env := by rfl) (hpl : (backTo pos (starEach es X.env)).any (·.1) = false := by rfl) :
    PE X (.Call fe (e :: es) [] pos) (tD X.K C (mCallME c spec W mf ma)) := by
  obtain ⟨g, fd, ps, Cc, F, oc, co, hb⟩ := cl.ex
  exact pe_imp (pe_callIE hf co F (hr.mono hk) hb (passAt tk) ha ht he hpl) (td_callIE oc)
theorem pd_callIKE {c : Str} {spec : PSpec} {W : WD} {mf : ME} {mk : MA} {fe : Expr} {kws : List Keyword} {ks : List Str} {pos : Pos} {j : Nat} {gg : {α : Type} → List α → List α → List α} (cl : CalCK X.prog X.w X.K X.mg X.base CN k c spec ks gg) (hr : RoomG j X.A) (hk : k ≤ j) (tk : Takes X (wD X.K C CN W)) (hf : PE X fe (tD X.K C mf)) (hkw : PK X kws (tDA X.K C mk))
    (ht : eval (.Call fe [] kws pos) X.env = (do callWith pos (← eval fe X.env) [] (backTo pos (starEach [] X.env)) (backToKw pos (keywordEach kws X.env))) := by rfl)
    (hall : (backToKw pos (keywordEach kws X.env)).all (·.1.isSome) = true := by rfl) (hks : (backToKw pos (keywordEach kws X.env)).filterMap (·.1) = ks := by rfl)
    (hpl : ((backTo pos (starEach [] X.env)).any (·.1) || (backToKw pos (keywordEach kws X.env)).any (·.1.isNone)) = false := by rfl) :
    PE X (.Call fe [] kws pos) (tD X.K C (mCallMKE c spec W gg mf mk)) := by
  obtain ⟨g, fd, ps, Cc, F, oc, co, hb⟩ := cl.ex
  exact pe_imp (pe_callIKE hf co F (hr.mono hk) hb (passAt tk) hkw ht hall hks hpl) (td_callIKE cl.ord oc)
end
/-- what the built-in type T says of an operator: it may know it, but the own class stands first -/
structure BinT (K : PySem.W.Frag) (Cc : Addr) (nm T : String) : Prop where
  sub : PySem.W.subIn K (.type T) (.ref Cc) = some false
  fo : ∃ r, PySem.W.findIn K (.type T) (PySem.dunder nm) = some r
  ro : ∃ r, PySem.W.findIn K (.type T) (dunderR nm) = some r
/-- the kinds that stand at the right of & -/
theorem and_kinds {K : PySem.W.Frag} {Cc : Addr} : ∀ T ∈ ["NoneType", "bool", "int", "str", "list", "tuple", "dict"], BinT K Cc "and" T := by
  intro T hT
  simp only [List.mem_cons, List.not_mem_nil, or_false] at hT
  rcases hT with rfl | rfl | rfl | rfl | rfl | rfl | rfl <;> exact ⟨rfl, ⟨_, rfl⟩, ⟨_, rfl⟩⟩
section
open PySem.W
variable {prog : Program} {w : World} {K : PySem.W.Frag} {Cc f : Addr}
/-- the def of the left one's class, where the right one's kind is built in -/
theorem bin_kind {A : Around} {E : Value → Shared → Prop} {st : Shared} {p L : Addr} {base : Heap} {mo : Str → Option Value} {po : Obj} {pd : Option Obj} {T : String} {o : Operator} {y : Value} {back : Option Value} {Q : Value → Shared → Prop}
    (FR : Fr base L st.heap mo) (kin : K.In base) (J : InstAt st.heap p po Cc pd) (ty : Looks (model prog w) st.heap (typeOf y) (.type T)) (sf : selfFirst K Cc = true)
    (left : findIn K (.ref Cc) (PySem.dunder o.info.2) = some (some (.ref f))) (fn : isFn K (.ref f) = true) (refl : findIn K (.ref Cc) (dunderR o.info.2) = some back) (own : back = none ∨ ∃ q : Addr, back = some (.ref q)) (bt : BinT K Cc o.info.2 T)
    (go : wpAny (model prog w) A (call (.ref f) [.ref p, y]) (PySem.W.CmpBack Q) E st) : wpAny (model prog w) A (binaryOp o (.ref p) y) Q E st := by
  have here := kin.keeps FR.keep
  obtain ⟨dat, others, known, first⟩ := ksp_first sf
  obtain ⟨sub, ⟨lo, klo⟩, ⟨ro, kro⟩⟩ := bt
  rcases hop : o.info with ⟨sign, name⟩
  rw [hop] at left refl klo kro
  dsimp only at left refl klo kro
  have done1 := ksp_try here J left fn go
  obtain ⟨hp, gl, di, tk, os⟩ := st
  have a1 : Looks (model prog w) hp (typeOf (.ref p)) (.ref Cc) := J.type
  have a2 : Looks (model prog w) hp (typeOf y) (.type T) := ty
  have a3 : Looks (model prog w) hp (fillsNumberSlot (.ref Cc) name) true := fills_K here known first left
  have a4 := ksp_fillsT (M := model prog w) here klo kro
  have a5 : Looks (model prog w) hp (isSubtype (.type T) (.ref Cc)) false := looks_subIn here sub
  have a6 : Looks (model prog w) hp (numberSlotInPython (.ref Cc) name) true := ksp_inPy here left refl own
  have a7 : Looks (model prog w) hp (numberSlotInPython (.type T) name) false := Looks.of_pure rfl
  have a8 : Looks (model prog w) hp (typeLookup (.type T) (dunderR name)) ro := looks_findIn here kro
  generalize ((lo.isSome && !isSeqSlot lo) || (ro.isSome && !isSeqSlot ro)) = fills at a4
  have other : (Value.ref Cc == Value.type T) = false := Bool.eq_false_iff.mpr fun q => by cases beq_iff_eq.mp q
  simp only [binaryOp, hop]
  refine wpAny_holding (wpAny_bind ?_)
  unfold binaryOp1
  refine wpAny_bind (a1.at (wpAny_bind (a2.at (wpAny_bind (a3.at ?_)))))
  simp only [other, Bool.false_eq_true, if_false]
  cases fills with
  | false =>
    ksp_lk
    refine wpAny_mono done1 (fun r st' hr' => ?_) fun _ _ e => e
    obtain ⟨v, rfl, hq⟩ := hr'
    ksp_lk
    exact hq
  | true =>
    ksp_lk
    refine wpAny_mono done1 (fun r st' hr' => ?_) fun _ _ e => e
    obtain ⟨v, rfl, hq⟩ := hr'
    ksp_lk
    exact hq
end
/-- what stands at the right: an instance of the class itself, or a built-in kind -/
def Right (K : PySem.W.Frag) (Cc : Addr) (nm : String) (t : Value) : Prop := t = .ref Cc ∨ ∃ T, t = .type T ∧ BinT K Cc nm T
def rBinE (K : PySem.W.Frag) (Cc : Addr) (nm : String) (sp : Sp) : V → V → Hp → VK → XK → Prop := fun x y H Q E => ∃ a dx fs t, x = .ref a ∧ H a = some (.ins Cc dx fs) ∧ TyX K H y t ∧ Right K Cc nm t ∧ sp [x, y] H Q E
section
variable {X : Cx} {k : Nat} {f Cc : Addr} {fd : FuncData} {ps : List Str} {sp : Sp} {E : L2.St → XK}
theorem pe_binE {op : Operator} {a b : Expr} {ta tb : TE} {pos : Pos} (hf : PySem.W.findIn X.K (.ref Cc) (dunder op.info.snd) = some (some (.ref f))) (hfn : PySem.W.isFn X.K (.ref f) = true) (sf : PySem.W.selfFirst X.K Cc = true) (nr : PySem.W.findIn X.K (.ref Cc) (dunderR op.info.snd) = some none) (F : FnG X.prog X.w X.K X.mg X.base k f fd ps sp) (hb : Binds X.K fd ps []) (hr : RoomG k X.A) (hx : ∀ σ, PassesAt (L2.CX X.prog X.w) X σ (E σ)) (ha : PE X a ta) (hbb : PE X b tb) :
    PE X (.BinOp a op b pos) (tOpE (rBinE X.K Cc op.info.snd sp) E ta tb) := by
  refine ⟨fun pins s σ H Q I h => ?_⟩
  refine wpAny_BinOp (binT ha hbb I h fun v u s2 x y H2 I2 rx ry q => ?_)
  obtain ⟨p, dx, fs, t, rfl, h1, ty, rt, q⟩ := q
  cases (show v = Value.ref p from rx)
  obtain ⟨m, fr⟩ := I2.fr
  obtain ⟨ox, od, J⟩ := ins_inst I2.hok h1
  obtain ⟨P, kx, hp, _⟩ := kit_of I2 ry ty
  have fin := wpAny_mono (wp_callG (E := E) F hr hb (hx σ) I2 (vs := [V.ref p, y]) (.cons (show L2.RelV (V.ref p) (.ref p) from rfl) (.cons ry .nil)) q) (fun v s' hq => (show PySem.W.CmpBack (EP X pins σ Q) v s' from by
    obtain ⟨z, H2, I2, rz, hq⟩ := hq
    exact SlX.cmpback rz ⟨z, H2, I2, rz, hq⟩)) fun _ _ z => z
  have lk := kx.ty (model X.prog X.w) _ I2.kIn hp
  rcases rt with rfl | ⟨T, rfl, bt⟩
  · exact PySem.W.binop_K fr I2.ok.mod.kin J lk sf hf hfn fin
  · exact bin_kind fr I2.ok.mod.kin J lk sf hf hfn nr (.inl rfl) bt fin
end
/-- a op b by the def of the left one's class, b of any kind that isinstance tells -/
def mBinE (c : Str) (spec : PSpec) (W : WD) (ma mb : ME) : ME := fun sd Q => ma sd fun a s1 => mb s1 fun b s2 => (∃ es, a = objD c es) ∧ (∃ z, bIsC c b = some z) ∧ spec [a, b] (fun r => ∃ d, fz r = some d ∧ Q d s2) fun cn => W cn s2
section
variable {X : Cx} {C : Ct} {CN : String → Option Addr} {k : Nat} {Cc : Addr}
theorem right_c {K : PySem.W.Frag} {c : Str} {nm : String} {F H : Hp} {x : V} {d : PyData} (kinds : ∀ T ∈ ["NoneType", "bool", "int", "str", "list", "tuple", "dict"], BinT K Cc nm T) (oc : ObjC K c Cc) (e : Same F H) (r : Rp K F x d) (h : ∃ z, bIsC c d = some z) : ∃ t, TyX K H x t ∧ Right K Cc nm t := by
  have kd : ∀ T ∈ ["NoneType", "bool", "int", "str", "list", "tuple", "dict"], Right K Cc nm (.type T) := fun T hT => .inr ⟨T, rfl, kinds T hT⟩
  obtain ⟨z, h⟩ := h
  cases r with
  | non => exact ⟨_, .base .non, kd _ (by simp)⟩
  | bl b => exact ⟨_, .base (.bl b), kd _ (by simp)⟩
  | int i => exact ⟨_, .base (.int i), kd _ (by simp)⟩
  | str s => exact ⟨_, .base (.str s), kd _ (by simp)⟩
  | lst hh _ => exact ⟨_, .base (.lst (e _ _ hh)), kd _ (by simp)⟩
  | tup hh _ =>
    rcases hh with (hh | ⟨o, hh⟩) | ⟨o, its, n, hh, c, _⟩
    · exact ⟨_, .base (.tup (e _ _ hh)), kd _ (by simp)⟩
    · exact ⟨_, .fTuple (e _ _ hh), kd _ (by simp)⟩
    · exact ⟨_, .kTuple hh c, kd _ (by simp)⟩
  | dct hh rd => exact ⟨_, .base (.dK (e _ _ hh)), kd _ (by simp)⟩
  | ex0 _ _ => cases h
  | exF _ _ _ _ => cases h
  | ins hh o _ =>
    rename_i c' _ _ _
    have h : (if c' = c then some (PyData.bool true) else none) = some z := h
    by_cases q : c' = c
    · have o2 : ObjC K c _ := q ▸ o
      cases o2.uniq oc
      exact ⟨_, .base (.ins (e _ _ hh) o.cl o.ha o.hn o.htk o.hm), .inl rfl⟩
    · rw [if_neg q] at h
      cases h
theorem td_binE {c : Str} {nm : String} {spec : PSpec} {W : WD} {ma mb : ME} (kinds : ∀ T ∈ ["NoneType", "bool", "int", "str", "list", "tuple", "dict"], BinT X.K Cc nm T) (oc : ObjC X.K c Cc) : ∀ σ H Q, tD X.K C (mBinE c spec W ma mb) σ H Q → tOpE (rBinE X.K Cc nm (spP X.K CN spec)) (WE (wD X.K C CN W)) (tD X.K C ma) (tD X.K C mb) σ H Q := by
  rintro σ H Q ⟨F0, sd, Qd, R, h, kk⟩
  refine ⟨F0, sd, _, R, h, fun x H1 F1 d sd1 R1 S1 rx h1 => ⟨F1, sd1, _, R1, h1, fun y H2 F2 e sd2 R2 S2 ry h2 => ?_⟩⟩
  obtain ⟨⟨es2, rfl⟩, hz, hs⟩ := h2
  have rx := rx.mono S2.fr
  obtain ⟨a2, C2, d2, f2, rfl, h2, o2, r2⟩ := rp_obj rx
  cases o2.uniq oc
  obtain ⟨t, ty, hn⟩ := right_c kinds oc R2.ext ry hz
  refine ⟨a2, d2, f2, t, rfl, R2.ext _ _ h2, ty, hn, F2, _, _, _, R2.ext, .cons rx (.cons ry .nil), hs, fun v H' F' r P ro q => ?_, fun cn a H' F' hc P q => ?_⟩
  · obtain ⟨d, hfz, q⟩ := q
    obtain ⟨R3, S3⟩ := R2.post P
    obtain ⟨F3, R4, S4, rp⟩ := R3.res ((S1.trans S2).trans S3) ro (fun p hp => ⟨S1.st p (S2.st p hp), fun z => (R2.fresh hp).1 (S3.ow p z), (R2.fresh hp).2⟩) hfz
    exact kk v H' F3 d sd2 R4 S4 rp q
  · exact ⟨cn, a, F', sd2, hc, rfl, rfl, (R2.post P).1, q⟩
theorem pd_binE {op : Operator} {c dn : Str} {spec : PSpec} {W : WD} {ma mb : ME} {a b : Expr} {pos : Pos} {j : Nat} (cl : CalM X.prog X.w X.K X.mg X.base CN k c dn spec) (hd : dunder op.info.snd = dn) (sf : ∀ Cc, ObjC X.K c Cc → PySem.W.selfFirst X.K Cc = true ∧ PySem.W.findIn X.K (.ref Cc) (dunderR op.info.snd) = some none) (kinds : ∀ Cc, ∀ T ∈ ["NoneType", "bool", "int", "str", "list", "tuple", "dict"], BinT X.K Cc op.info.snd T) (hr : RoomG j X.A) (hk : k ≤ j) (tk : Takes X (wD X.K C CN W)) (ha : PE X a (tD X.K C ma)) (hb : PE X b (tD X.K C mb)) :
    PE X (.BinOp a op b pos) (tD X.K C (mBinE c spec W ma mb)) := by
  obtain ⟨f, fd, ps, Cc, F, oc, hf, hfn, hbi⟩ := cl.ex
  subst hd
  exact pe_imp (pe_binE hf hfn (sf Cc oc).1 (sf Cc oc).2 F hbi (hr.mono hk) (passAt tk) ha hb) (td_binE (kinds Cc) oc)
end
end DL
namespace DL
open PySem PySem.Spec PyProof.Rows L2
structure PEAt (X : Cx) (whole : List Stmt) (e : Expr) (t : TE) : Prop where
  run : ∀ (pins : List (Addr × Obj)) (s : Shared) (σ : L2.St) (H : Hp) (Q : VK), L2.Inv X pins σ H s → t σ H Q → _root_.PySem.wpAt (model X.prog X.w) X.A (.func whole X.env) (eval e X.env) (EP X pins σ Q) X.xe s
structure PSAt (X : Cx) (whole : List Stmt) (st : Stmt) (t : TS) : Prop where
  run : ∀ (pins : List (Addr × Obj)) (s : Shared) (σ : L2.St) (H : Hp) (D : Ends), L2.Inv X pins σ H s → t D σ H → _root_.PySem.wpAt (model X.prog X.w) X.A (.func whole X.env) (exec st X.env) (SP X pins D) X.xe s
structure PSsAt (X : Cx) (whole st : List Stmt) (t : TS) : Prop where
  run : ∀ (pins : List (Addr × Obj)) (s : Shared) (σ : L2.St) (H : Hp) (D : Ends), L2.Inv X pins σ H s → t D σ H → _root_.PySem.wpAt (model X.prog X.w) X.A (.func whole X.env) (execs st X.env) (SP X pins D) X.xe s
section
variable {X : Cx} {whole rest : List Stmt} {e : Expr} {te : TE} {st : Stmt} {t u : TS} {pos pos' : Pos}
theorem PSsAt.of (h : PSs X rest t) : PSsAt X whole rest t := ⟨fun pins s σ H D I q => _root_.PySem.wpAt_of_wpAny (h.run pins s σ H D I q)⟩
theorem pssAt_cons (h1 : PSAt X whole st t) (h2 : PSsAt X whole rest u) : PSsAt X whole (st :: rest) (tSeq t u) := by
  refine ⟨fun pins s σ H D I h => ?_⟩
  refine PySem.ks_wpAt_execs_cons (PySem.ks_wpAt_mono (h1.run pins s σ H { D with nx := u D } I h) (fun f s1 q => ?_) fun _ _ z => z)
  cases f with
  | next =>
    obtain ⟨σ', H', I', q⟩ := q
    exact h2.run pins s1 σ' H' D I' q
  | ret _ => exact q
  | brk => exact q
  | cont => exact q
theorem psAt_set {i : Nat} {x : Str} (hN : X.N.Nodup) (hi : X.N[i]? = some x) (hx : Loc X.env.scope x) (he : PEAt X whole e te) (hs : swapsWith e (some (.Name x pos')) pos.line X.env = pure false := by rfl) (hf : X.env.scope.names.lookup x = some .local := by first | rfl | assumption) :
    PSAt X whole (.Assign [.Name x pos'] e pos) (tAsg te (gName i)) :=
  ⟨fun pins s σ H D I h => PySem.ks_wpAt_Assign_Name (PySem.ks_wpAt_mono (he.run pins s σ H _ I h) (fun v s1 hv => by
    obtain ⟨y, H1, I1, r1, q1⟩ := hv
    exact store_ok I1 hN hi hx r1 (fun s2 I2 => ⟨_, H1, I2, q1⟩) (.inr hf)) fun _ _ z => z) hs⟩
theorem psAt_ret (he : PEAt X whole e te) : PSAt X whole (.Return (some e) pos) (tRet te) :=
  ⟨fun pins s σ H D I h => PySem.ks_wpAt_Return_some (PySem.ks_wpAt_mono (he.run pins s σ H _ I h) (fun v s1 hv => by
    obtain ⟨x, H1, I1, r1, q1⟩ := hv
    exact ⟨x, σ, H1, I1, r1, q1⟩) fun _ _ z => z)⟩
end
/-- the frame is that of a method of the class at D, whose first parameter is sf -/
structure SupX (X : Cx) (f D : Addr) (sf : Str) : Prop where
  ks : X.env.kindOf "super" = some .globalImplicit
  kc : X.env.kindOf "__class__" = some .free
  kl : X.env.kindOf sf = some .local
  i0 : X.N[0]? = some sf
  fu : X.env.func = some f
  fn : ∃ oc od fd osl ar, X.K.lookup f = some ⟨oc, od, .func fd, osl⟩ ∧ (fd.params.posonlyargs ++ fd.params.args).head? = some ar ∧ ar.arg = sf
  cd : ∃ c ccl cdd vs ccs file tf, X.env.code = .ref c ∧ X.K.lookup c = some ⟨ccl, cdd, .fields vs, ccs⟩ ∧ vs[2]? = some (.str file tf) ∧ ((X.prog.main.file : Str) == file) = true
  top : (X.prog.main.scope.names.lookup ("super" : Str)).isSome = false
  cell : ∃ cc cl cld csl, X.env.cells.lookup ("__class__" : Str) = some cc ∧ X.K.lookup cc = some ⟨cl, cld, .cell (some (.ref D)), csl⟩
  cls : ∃ cd, PySem.W.clsIn X.K D = some cd
  mgs : X.mg "super" = none
section
variable {X : Cx} {whole : List Stmt} {f D C a : Addr} {sf m : Str} {p0 p1 pos apos : Pos} {pins : List (Addr × Obj)} {σ : L2.St} {H : Hp} {s : Shared} {E : Value → Shared → Prop}
theorem cls_at {K : PySem.W.Frag} {h : Heap} {D : Addr} {cd : ClassData} (X : K.In h) (e : PySem.W.clsIn K D = some cd) : ∃ oD, h.get? D = some oD ∧ oD.data = .cls cd := by
  unfold PySem.W.clsIn at e
  split at e
  · rename_i ho
    cases e
    exact ⟨_, X _ _ ho, rfl⟩
  · cases e
theorem wp_super {Q : Value → Shared → Prop} {w0 : Sem Value} {ox : Obj} {odx : Option Obj} (S : SupX X f D sf) (I : L2.Inv X pins σ H s) (h0 : σ[0]? = some (some (.ref a))) (J : PySem.W.InstAt s.heap a ox C odx) (sub : PySem.W.mroIn X.K C (.ref D) = some true)
    (hm : (m == ("__class__" : Str)) = false) (h : ∀ so s', L2.Inv X ((so, PySem.W.ks_superObj D a C) :: pins) σ H s' → s'.heap.get? a = some ox → (∀ b o, s.heap.get? b = some o → s'.heap.get? b = some o) → Q (.ref so) s') :
    _root_.PySem.wpAt (model X.prog X.w) X.A (.func whole X.env) (attributeBase (.Call (.Name "super" p0) [] [] p1) m X.env w0) Q E s := by
  obtain ⟨oc, od, fd, osl, ar, lf, hp, rfl⟩ := S.fn
  obtain ⟨c, ccl, cdd, vs, ccs, file, tf, hco, lc, hvs, hfile⟩ := S.cd
  obtain ⟨cc, cl, cld, csl, hcl, lcc⟩ := S.cell
  obtain ⟨cd, hcd⟩ := S.cls
  obtain ⟨oD, hD1, hD2⟩ := cls_at I.kIn hcd
  obtain ⟨mL, hns, hloc⟩ := I.loc
  obtain ⟨u, ru, hlk⟩ := hloc 0 _ _ S.i0 h0 (.inl S.kl)
  cases ru
  have hv : mL ar.arg = some (.ref a) := by
    rcases hlk with z | z
    · exact z.2
    · rw [S.kl] at z
      rcases z.1 with z | z <;> cases z
  obtain ⟨mb, b1, b2⟩ := I.mod.blt
  refine PySem.ks_wpAt_super_base S.ks S.kc hm S.fu (I.kIn _ _ lf) rfl hp hco (I.kIn _ _ lc) rfl hvs hfile S.top ?_
  refine PySem.W.ks_loadName_global I.ok.kind S.ks (PySem.Calls.loadGlobal_builtin (by rw [I.ok.glob]; exact I.mod.glob.keeps I.bk) S.mgs (by rw [I.ok.blt]; exact b1.keeps I.bk) ((b2 _ (by decide)).trans (by decide +kernel)) ⟨rfl, ?_⟩)
  refine wpAny_loadName_free I.ok.kind S.kc hcl ⟨_, I.kIn _ _ lcc, rfl⟩ ?_
  refine wpAny_loadName_local I.ok.kind S.kl hns hv ?_
  refine PySem.ks_wpAny_isType_cls hD1 hD2 ⟨rfl, ?_⟩
  obtain ⟨hh, g, d, t, os⟩ := s
  refine PySem.ks_wpAny_call_super hD1 hD2 J.at_ J.cls (fun c e => ?_) (PySem.W.looks_mroIn I.kIn sub) (fun h' e k => ?_)
  · have := J.no
    unfold PySem.W.notCls at this
    rw [e] at this
    exact Bool.noConfusion this
  · exact h _ _ (ClX.pin_new (t' := t) I k (Nat.le_refl _) e (fun v z => nomatch z)) (k _ _ J.at_) k
end
section
variable {X : Cx} {whole : List Stmt} {f D C a g : Addr} {sf m : Str} {p0 p1 pos apos : Pos} {k : Nat} {fd : FuncData} {ps : List Str} {sp : Sp} {E : L2.St → XK} {e : Expr} {es : List Expr} {ta : TA}
/-- what H says at a is an instance of the class at C -/
def InsH (P : Program) (w : World) (H : Hp) (a C : Addr) : Prop := ∀ h, HOk P w H h → ∃ ox od, PySem.W.InstAt h a ox C od
theorem insH_ins {P : Program} {w : World} {H : Hp} {dx : Addr} {fs : List (Str × V)} (h : H a = some (.ins C dx fs)) : InsH P w H a C := fun _ ok => by
  obtain ⟨ox, od, J⟩ := ins_inst ok h
  exact ⟨ox, od, J⟩
/-- super().m(e, ..) -/
def tSup (P : Program) (w : World) (C : Addr) (sp : Sp) (E : L2.St → XK) (t : TA) : TE := fun σ H Q => ∃ a, σ[0]? = some (some (.ref a)) ∧ InsH P w H a C ∧ t σ H fun vs H1 => sp (.ref a :: vs) H1 Q (E σ)
theorem peAt_sup {pl : Sem Bool} (S : SupX X f D sf) (F : FnG X.prog X.w X.K X.mg X.base k g fd ps sp) (hr : RoomG k X.A) (hb : Binds X.K fd ps []) (hx : ∀ σ, PassesAt (L2.CX X.prog X.w) X σ (E σ)) (hs : PySem.W.ks_superIn X.K C D m = some (some (.ref g)))
    (ht : PySem.W.typeIn X.K (.ref g) = some (.type "function")) (hfn : PySem.W.fnIn X.K g = true) (sub : PySem.W.mroIn X.K C (.ref D) = some true) (opq : PySem.W.nsIn X.K cStatics "thirdparty.any" = some none) (ha : PA X (e :: es) ta) (hm : (m == ("__class__" : Str)) = false)
    (he : starEach (e :: es) X.env = (false, eval e X.env) :: starEach es X.env := by rfl) (hpl : (backTo pos (starEach es X.env)).any (·.1) = false := by rfl)
    (hev : eval (.Call (.Attribute (.Call (.Name "super" p0) [] [] p1) m apos) (e :: es) [] pos) X.env = (do
      let ov ← attributeBase (.Call (.Name "super" p0) [] [] p1) m X.env (eval (.Call (.Name "super" p0) [] [] p1) X.env)
      standAt apos.atName
      let (f, first) ← holding [ov] (getMethod ov m pl)
      callWith pos f first (backTo pos (starEach (e :: es) X.env)) []) := by rfl) :
    PEAt X whole (.Call (.Attribute (.Call (.Name "super" p0) [] [] p1) m apos) (e :: es) [] pos) (tSup X.prog X.w C sp E ta) := by
  refine ⟨fun pins s σ H Q I h => ?_⟩
  obtain ⟨a, h0, hi, q⟩ := h
  obtain ⟨ox, odx, J⟩ := hi _ I.hok
  refine PySem.ks_wpAt_MethodCall (wp_super S I h0 J sub hm fun so s1 I1 ho1 k1 => ?_) hev
  have J1 : PySem.W.InstAt s1.heap a ox C odx := ⟨ho1, J.cls, J.no, by
    have z := J.dict
    generalize ox.dict = dd at z ⊢
    cases dd <;> cases odx <;> first | exact z | exact k1 _ _ z | exact z.elim⟩
  cases hc : PySem.W.clsIn X.K C with
  | none => unfold PySem.W.ks_superIn at hs; rw [hc] at hs; cases hs
  | some cd =>
    unfold PySem.W.ks_superIn at hs
    rw [hc] at hs
    obtain ⟨og, hog, hogc⟩ : ∃ og, s1.heap.get? g = some og ∧ og.cls = .type "function" := by
      have ht : (X.K.lookup g).map (·.cls) = some (.type "function") := ht
      cases z : X.K.lookup g with
      | none => rw [z] at ht; cases ht
      | some og => rw [z] at ht; exact ⟨og, I1.kIn _ _ z, Option.some.inj ht⟩
    have hmro : PySem.W.Looks (model X.prog X.w) s1.heap (mroOf (.ref C)) cd.mro := (PySem.W.looks_clsIn I1.kIn hc).andThen .now
    have hne := PySem.W.ks_ne I1.kIn J1 hc
    obtain ⟨hh, gg, d, t, os⟩ := s1
    refine PySem.ks_wpAny_getMethod_super (ClX.pin_at I1) (PySem.W.looks_opaque I1.kIn opq) hmro rfl I1.kIn hs hog hogc hne hm ?_
    have I2 := ClX.pin_new (t' := t + 1) (o := PySem.W.methodObj (.ref g) (.ref a)) I1 (fun _ _ z => Heap.get?_push_of_some _ z) (Nat.le_refl _) (Heap.get?_push_size hh rfl) (fun v z => nomatch z)
    have hL : hh.objs.size ≠ X.env.locals := (I2.pin (hh.objs.size, PySem.W.methodObj (.ref g) (.ref a)) (List.mem_append_right _ List.mem_cons_self)).2.2.1
    refine PySem.W.callWith_M (K := X.K) (h₀ := X.base) (first := []) I2.ok.mod.kin (news_at hL (ClX.base_none I1 (Nat.le_refl _)) (ClX.pin_at I2)) List.mem_cons_self hfn ?_ he hpl
    refine thn (ha.run pos _ _ σ H _ I2 q) fun us s3 hv => ?_
    obtain ⟨vs, H3, I3, rv, q3⟩ := hv
    refine ⟨⟨ClX.pin_at I3, I3.kIn⟩, ?_⟩
    have rr : Vals (V.ref a :: vs) (Value.ref a :: us) := .cons rfl rv
    have hl : ((Value.ref a :: us) ++ []).length = ps.length := by rw [List.append_nil, ← rr.length]; exact F.len _ _ _ _ q3
    have b := hb s3 (Value.ref a :: us) I3.kIn hl
    rw [List.append_nil] at b
    have z : wpAny (model X.prog X.w) X.A (call (.ref hh.objs.size) us) (EP X ((hh.objs.size, PySem.W.methodObj (.ref g) (.ref a)) :: (so, PySem.W.ks_superObj D a C) :: pins) σ Q) X.xe s3 :=
      wpAny_call (PySem.W.method_call (ClX.pin_at I3) (codeAny_mono (run_fnG (args := ⟨Value.ref a :: us, []⟩) (n := 0) F hr b (hx σ) I3 rr q3) fun r s' hq => by rcases r with _ | (_ | _ | _ | _) <;> exact hq))
    exact thn z fun _ _ y => ClX.unpinE (ClX.unpinE y)
end
structure FunS (K : PySem.W.Frag) (x qual : Str) (st : Stmt) (f cda cc D : Addr) (fd : FuncData) : Prop where
  ex : ∃ (oc : Value) (od : Option Addr) (dV kV doc pm : Value) (an : Option Addr) (ct : Value) (osl : Array (Option Value)),
    fd = PySem.W.ksFn x qual (defArgs st) (defBody st) (defScope st) dV kV doc pm an (.ref cda) ct cc ∧ K.lookup f = some ⟨oc, od, .func fd, osl⟩ ∧ PySem.W.codeIn K (.ref cda) qual = true
  cell : ∃ cl cld csl, K.lookup cc = some ⟨cl, cld, .cell (some (.ref D)), csl⟩
abbrev nfS (x qual : Str) (st : Stmt) (cda cc : Addr) : NdefX.NF := ⟨x, qual, defArgs st, defBody st, defScope st, [(("__class__" : Str), cc)], cda⟩
/-- its body's context -/
abbrev cxS (P : Program) (w : World) (K : PySem.W.Frag) (mg : Str → Option Value) (base : Heap) (N : List Str) (x qual : Str) (st : Stmt) (f cda cc : Addr) (A : Around) (outer : List Env) (s : Shared) (H : Hp) (E : XK) : Cx :=
  NdefX.ncx (L2.CX P w) P w K mg base N (nfS x qual st cda cc) f A outer s H E
theorem fun_okS {P : Program} {w : World} {K : PySem.W.Frag} {mg : Str → Option Value} {base : Heap} {k : Nat} {x qual : Str} {st : Stmt} {f cda cc D : Addr} {fd : FuncData} {N ps : List Str} {sp : Sp} (F : FunS K x qual st f cda cc D fd)
    (S : NdefX.NScope N ps ["__class__"] (defScope st)) (len : ∀ vs H Q E, sp vs H Q E → vs.length = ps.length)
    (body : ∀ (A : Around) (outer : List Env) (s : Shared) (H : Hp) (vs : List V) (Q : VK) (E : XK), RoomG k (A.deeper (NdefX.envF (nfS x qual st cda cc) f s.heap.objs.size)) → sp vs H Q E →
      ∃ t, PSsAt (cxS P w K mg base N x qual st f cda cc A outer s H E) (defBody st) (defBody st) t ∧ t { nx := fun _ H' => Q .non H', rt := Q } (NdefX.startF N vs [none]) H) : FnG P w K mg base (k + 1) f fd ps sp := by
  obtain ⟨oc, od, dV, kV, doc, pm, an, ct, osl, rfl, lk, code⟩ := F.ex
  obtain ⟨cl, cld, csl, lcc⟩ := F.cell
  refine ⟨len, fun {A outer s H args us vs Q E} hr e0 hb rv hs => ?_⟩
  have stays : ∀ b o, base.get? b = some o → s.heap.get? b = some o := fun b o e => (e0.bs b o e).1
  have KX := e0.mod.kin.keeps stays
  have hcc : H cc = none := (e0.bs _ _ (e0.mod.kin _ _ lcc)).2
  have one : ∀ {y : Str} {c : Addr}, (nfS x qual st cda cc).cl.lookup y = some c → y = "__class__" ∧ c = cc := fun {y c} z => by
    have z : ([(("__class__" : Str), cc)] : List (Str × Addr)).lookup y = some c := z
    by_cases e : y = "__class__"
    · subst e
      simp [List.lookup] at z
      exact ⟨rfl, z.symm⟩
    · have : (y == ("__class__" : Str)) = false := beq_false_of_ne e
      simp [List.lookup, this] at z
  have CA : NdefX.CellsAt (nfS x qual st cda cc).cl ["__class__"] [none] s.heap H := ⟨rfl, fun y c z => by
    obtain ⟨rfl, rfl⟩ := one z
    exact ⟨hcc, some (.ref D), _, KX _ _ lcc, rfl⟩, fun y z c h1 h2 => (one h1).1.trans (one h2).1.symm, fun i y z => by
    cases i with
    | zero =>
      cases z
      exact ⟨cc, rfl, fun v e => by cases e⟩
    | succ i => cases z⟩
  refine PySem.ks_codeAny_call_defAt hr.r.depth (KX _ _ lk) rfl (e0.mod.nolimit.keeps stays) (PySem.W.codeRec_of KX code) rfl hb S.nocell (fun y hy => S.par _ (List.of_mem_zip (show (y.1, y.2) ∈ ps.zip us from hy)).1) (fun h1 hns kp => ?_) S.co S.gen S.kind
  obtain ⟨t, ht, ht2⟩ := body A outer s H vs Q E (hr.deeper _) hs
  have I0 := NdefX.inv_startN (CX := L2.CX P w) (E := E) (f := f) (h₁ := h1) (tk := s.toks + (ps.zip us).length) S hr.r.hd e0 (len _ _ _ _ hs) rv CA hns kp
  refine PySem.ks_wpAt_mono (ht.run [] _ _ H _ I0 ht2) (fun fl s2 h2 => ?_) fun _ _ h2 => h2
  cases fl with
  | brk => exact h2.elim fun _ h => h.elim fun _ h => h.2.elim
  | cont => exact h2.elim fun _ h => h.elim fun _ h => h.2.elim
  | next => exact h2.elim fun σ2 h => h.elim fun H2 h => ⟨V.non, H2, h.1.os, h.1.bare, h.1.base, h.1.hok, rfl, h.2⟩
  | ret u => exact h2.elim fun v h => h.elim fun σ2 h => h.elim fun H2 h => ⟨v, H2, h.1.os, h.1.bare, h.1.base, h.1.hok, h.2.1, h.2.2⟩
end DL
namespace DL
open PySem PySem.Spec PyProof.Rows L2
section
variable {P : Program} {w : World} {A : Around} {E : Value → Shared → Prop} {h : Heap} {g : Array GenState} {d : Drawn} {t : Nat} {os : OsState}
/-- the bound __init__ of ValueError, called -/
theorem call_mw {nm q : Str} {a u C N t0 : Addr} {bs bm : List Value} {hd : Bool} {sn : List Str} {sub : List Value} {ab : Bool} {col : Option Bool} {dd : Option Addr} {k0 k1 k2 k3 k5 : Option Value} {us : List Value} {Q : Value → Shared → Prop}
    (hC : h.get? C = some (excClassObj nm q C N bs bm hd sn sub ab col dd k0 k1 k2 k3 k5 "ValueError.__new__")) (ha : h.get? a = some (PySem.HandSPX.excO C t0)) (hu : h.get? u = some (PySem.W.kxs_mw "ValueError.__init__" a)) (hz : us.length ≤ sizeLine)
    (hq : ∀ h' t1, (∀ b o, b ≠ a → h.get? b = some o → h'.get? b = some o) → h'.get? a = some (PySem.HandSPX.excO C t1) → Q .none ⟨h', g, d, t, os⟩) : wpAny (model P w) A (call (.ref u) us) Q E ⟨h, g, d, t, os⟩ := by
  have FB := F.excBase_ValueError
  have e1 : (Value.type "method-wrapper" == Value.type "method" || Value.type "method-wrapper" == Value.type "builtin_function_or_method" || Value.type "method-wrapper" == Value.type "method-wrapper") = true := by decide
  refine wpAny_call (codeAny_of_tree (show wpAny _ A.in1 (callAny (.ref u) ⟨us, []⟩) _ _ _ from ?_))
  simp only [callAny]; refine wpAny_bind (wpAny_load hu ?_)
  simp only [PySem.W.kxs_mw, e1, if_true]
  refine PySem.W.KFB.if_so (by decide) (wpAny_bind (PySem.W.check_bound_init FB.toExcCallFacts hC ha rfl (wpAny_bind (wpAny_pure (wpAny_pure ⟨PySem.plainId_quiet FB.init.plain _, codeAny_builtin FB.initEntry ?_⟩)))))
  exact PySem.W.exc_init_tree (cls := .ref C) (t0 := t0) (dv := none) (c2 := .none) (c3 := .none) (b4 := .bool false) ha hz fun h' k e _ => hq h' _ k e
end
section
variable {X : Cx} {whole : List Stmt} {f D C : Addr} {sf : Str} {p0 p1 pos apos : Pos} {e : Expr} {es : List Expr} {ta : TA}
/-- super().__init__(e, ..), the next one being ValueError's -/
def tSupV (C : Addr) (t : TA) : TE := fun σ H Q => ∃ a, σ[0]? = some (some (.ref a)) ∧ H a = some (exo a C none) ∧ t σ H fun vs H1 => vs.length ≤ 1000 ∧ H1 a = some (exo a C none) ∧ Q .non H1
theorem peAt_supV {pl : Sem Bool} (S : SupX X f D sf) (T : OexC X.K C) (hs : PySem.W.ks_superIn X.K C D "__init__" = some (some (.builtin "ValueError.__init__"))) (hB : PySem.W.subIn X.K (.ref C) (.type "ValueError") = some true) (sub : PySem.W.mroIn X.K C (.ref D) = some true)
    (opq : PySem.W.nsIn X.K cStatics "thirdparty.any" = some none) (ha : PA X (e :: es) ta)
    (he : starEach (e :: es) X.env = (false, eval e X.env) :: starEach es X.env := by rfl) (hpl : (backTo pos (starEach es X.env)).any (·.1) = false := by rfl)
    (hev : eval (.Call (.Attribute (.Call (.Name "super" p0) [] [] p1) "__init__" apos) (e :: es) [] pos) X.env = (do
      let ov ← attributeBase (.Call (.Name "super" p0) [] [] p1) "__init__" X.env (eval (.Call (.Name "super" p0) [] [] p1) X.env)
      standAt apos.atName
      let (f, first) ← holding [ov] (getMethod ov "__init__" pl)
      callWith pos f first (backTo pos (starEach (e :: es) X.env)) []) := by rfl) :
    PEAt X whole (.Call (.Attribute (.Call (.Name "super" p0) [] [] p1) "__init__" apos) (e :: es) [] pos) (tSupV C ta) := by
  refine ⟨fun pins s σ H Q I h => ?_⟩
  obtain ⟨a, h0, ea, q⟩ := h
  obtain ⟨t1, ho⟩ := exo_at I.hok ea
  have J : PySem.W.InstAt s.heap a (PySem.HandSPX.excO C t1) C none := ⟨ho, rfl, rfl, trivial⟩
  refine PySem.ks_wpAt_MethodCall (wp_super S I h0 J sub (by decide) fun so s1 I1 ho1 k1 => ?_) hev
  have J1 : PySem.W.InstAt s1.heap a (PySem.HandSPX.excO C t1) C none := ⟨ho1, rfl, rfl, trivial⟩
  cases hc : PySem.W.clsIn X.K C with
  | none => unfold PySem.W.ks_superIn at hs; rw [hc] at hs; cases hs
  | some cd =>
    unfold PySem.W.ks_superIn at hs
    rw [hc] at hs
    have hmro : PySem.W.Looks (model X.prog X.w) s1.heap (mroOf (.ref C)) cd.mro := (PySem.W.looks_clsIn I1.kIn hc).andThen .now
    have hne := PySem.W.ks_ne I1.kIn J1 hc
    have hI : PySem.W.Looks (model X.prog X.w) s1.heap (isInstance (.ref a) (.type "ValueError")) true := J1.type.andThen (PySem.W.looks_subIn I1.kIn hB)
    obtain ⟨hh, gg, d, t, os⟩ := s1
    refine PySem.W.kxs_getMethod PySem.W.kxs_ValueError (ClX.pin_at I1) (PySem.W.looks_opaque I1.kIn opq) hmro rfl I1.kIn hs hI hne (by decide) ?_
    have I2 := ClX.pin_new (t' := t + 1) (o := PySem.W.kxs_mw "ValueError.__init__" a) I1 (fun _ _ z => Heap.get?_push_of_some _ z) (Nat.le_refl _) (Heap.get?_push_size hh rfl) (fun v z => nomatch z)
    have hL : hh.objs.size ≠ X.env.locals := (I2.pin (hh.objs.size, PySem.W.kxs_mw "ValueError.__init__" a) (List.mem_append_right _ List.mem_cons_self)).2.2.1
    refine PySem.W.kxs_callWith1 (i := "ValueError.__init__") (x := a) (news_at hL (ClX.base_none I1 (Nat.le_refl _)) (ClX.pin_at I2)) List.mem_cons_self ?_ he hpl
    refine thn (ha.run pos _ _ σ H _ I2 q) fun us s3 hv => ?_
    obtain ⟨vs, H3, I3, rv, hl, e3, q3⟩ := hv
    refine ⟨ClX.pin_at I3, ?_⟩
    obtain ⟨nm, qn, N, bs, bm, sn, sb, ab, col, dd, k0, k1', k2, k3, k5, hC, hbm⟩ := T.cls
    obtain ⟨t0, h3⟩ := exo_at I3.hok e3
    have z : wpAny (model X.prog X.w) X.A (call (.ref hh.objs.size) us) (EP X ((hh.objs.size, PySem.W.kxs_mw "ValueError.__init__" a) :: (so, PySem.W.ks_superObj D a C) :: pins) σ Q) X.xe s3 := by
      obtain ⟨hp3, g3, d3, t3, os3⟩ := s3
      refine call_mw (I3.kIn _ _ hC) h3 (ClX.pin_at I3) (by rw [← rv.length, sizeLine_eq]; omega) fun h' t4 k hx => ?_
      have W := I3.write (t' := t3) (x := a) (e := a) (o := exo a C none) (by rw [e3]; exact True.intro) (.inl rfl) k ⟨_, hx⟩ (exo_ok hx)
      have eu : upd H3 a (exo a C none) = H3 := by
        funext b
        by_cases hb : b = a
        · rw [hb, upd_same, e3]
        · exact upd_ne hb
      rw [eu] at W
      exact ⟨.non, H3, W, rfl, q3⟩
    exact thn z fun _ _ y => ClX.unpinE (ClX.unpinE y)
end
section
variable {X : Cx} {whole : List Stmt} {e : Expr} {te : TE} {pos : Pos}
theorem psAt_expr (he : PEAt X whole e te) (hs : swapsWith e none pos.line X.env = pure false) : PSAt X whole (.Expr e pos) (tDrop te) :=
  ⟨fun pins s σ H D I h => PySem.ks_wpAt_Expr_any (PySem.ks_wpAt_mono (he.run pins s σ H _ I h) (fun v s1 hv => by
    obtain ⟨x, H1, I1, r1, q1⟩ := hv
    exact ⟨σ, H1, I1, q1⟩) fun _ _ z => z) I.quiet hs⟩
end
def spXI (C : Addr) (fl : Str) : Sp := fun vs H Q _ => ∃ a y, vs = [.ref a, y] ∧ H a = some (exo a C none) ∧ ∀ dx, H dx = none → dx ≠ a → Q .non (upd (upd H dx (exd dx [(fl, y)])) a (exo a C (some dx)))
/-- super().m(es) is evaluated as a method's call -/
def SupEv (p0 p1 p2 p4 : Pos) (m : Str) (es : List Expr) (pl : Sem Bool) : Prop := ∀ env, eval (.Call (.Attribute (.Call (.Name "super" p0) [] [] p1) m p2) es [] p4) env = (do
      let ov ← attributeBase (.Call (.Name "super" p0) [] [] p1) m env (eval (.Call (.Name "super" p0) [] [] p1) env)
      standAt p2.atName
      let (f, first) ← holding [ov] (getMethod ov m pl)
      callWith p4 f first (backTo p4 (starEach es env)) [])
/-- what such an __init__ is -/
structure XInit (P : Program) (w : World) (K : PySem.W.Frag) (mg : Str → Option Value) (base : Heap) (qual : Str) (st : Stmt) (f cda cc C : Addr) (fd : FuncData) (sf ar fl tx : Str) : Prop where
  F : FunS K "__init__" qual st f cda cc C fd
  S : NdefX.NScope [sf, ar, "__class__"] [sf, ar] ["__class__"] (defScope st)
  body : ∃ p0 p1 p2 p3 p4 p5 p6 p7 p8 p9 j pl, defBody st = [.Expr (.Call (.Attribute (.Call (.Name "super" p0) [] [] p1) "__init__" p2) [.Constant (.str tx) j p3] [] p4) p5, .Assign [.Attribute (.Name sf p6) fl p7] (.Name ar p8) p9] ∧
    SupEv p0 p1 p2 p4 "__init__" [.Constant (.str tx) j p3] pl ∧ (∀ env, swapsWith (.Call (.Attribute (.Call (.Name "super" p0) [] [] p1) "__init__" p2) [.Constant (.str tx) j p3] [] p4) none p5.line env = pure false) ∧
    ∀ env, swapsWith (.Name ar p8) (some (.Attribute (.Name sf p6) fl p7)) p9.line env = pure false
  SX : ∀ A outer s H E, SupX (cxS P w K mg base [sf, ar, "__class__"] "__init__" qual st f cda cc A outer s H E) f C sf
  T : OexC K C
  hs : PySem.W.ks_superIn K C C "__init__" = some (some (.builtin "ValueError.__init__"))
  hB : PySem.W.subIn K (.ref C) (.type "ValueError") = some true
  sub : PySem.W.mroIn K C (.ref C) = some true
  opq : PySem.W.nsIn K cStatics "thirdparty.any" = some none
  hno : PySem.W.findIn K (.ref C) fl = some none
  d1 : (sf == ("__debug__" : Str)) = false ∧ (sf == ("__classdict__" : Str)) = false
  d2 : (ar == ("__debug__" : Str)) = false ∧ (ar == ("__classdict__" : Str)) = false
theorem xinit_ok {P : Program} {w : World} {K : PySem.W.Frag} {mg : Str → Option Value} {base : Heap} {k : Nat} {qual : Str} {st : Stmt} {f cda cc C : Addr} {fd : FuncData} {sf ar fl tx : Str} (W : XInit P w K mg base qual st f cda cc C fd sf ar fl tx) :
    FnG P w K mg base (k + 1) f fd [sf, ar] (spXI C fl) := by
  refine fun_okS W.F W.S (fun vs H Q E h => ?_) (fun A outer s H vs Q E hr h => ?_)
  · obtain ⟨a, y, rfl, _⟩ := h
    rfl
  · obtain ⟨a, y, rfl, ea, q⟩ := h
    obtain ⟨p0, p1, p2, p3, p4, p5, p6, p7, p8, p9, j, pl, hst, ev, w1, w2⟩ := W.body
    have v0 : Vis (cxS P w K mg base [sf, ar, "__class__"] "__init__" qual st f cda cc A outer s H E).env.scope sf := .inl (W.S.par sf (by simp))
    have v1 : Vis (cxS P w K mg base [sf, ar, "__class__"] "__init__" qual st f cda cc A outer s H E).env.scope ar := .inl (W.S.par ar (by simp))
    have hb := pssAt_cons (whole := defBody st) (psAt_expr (pos := p5) (peAt_supV (p0 := p0) (p1 := p1) (apos := p2) (pos := p4) (W.SX A outer s H E) W.T W.hs W.hB W.sub W.opq (pa_cons (pe_str (x := tx) (j := j) (pos := p3)) pa_nil) (by rfl) (by rfl) (ev _)) (w1 _))
      (PSsAt.of (pss_one (ps_ost (f := fl) (p' := p7) (pos := p9) (pe_var (i := 0) (pos := p6) rfl v0 W.d1.1 W.d1.2) (pe_var (i := 1) (pos := p8) rfl v1 W.d2.1 W.d2.2) (w2 _))))
    rw [← hst] at hb
    exact ⟨_, hb, a, rfl, ea, Nat.le_of_ble_eq_true rfl, ea, y, rfl, .ref a, rfl, a, C, rfl, W.T, W.hno, .inl ⟨ea, fun dx h1 h2 => q dx h1 h2⟩⟩
end DL
namespace DL
open PySem PySem.Spec PyProof.Rows L2
section
variable {P : Program} {w : World} {A : Around} {E : Value → Shared → Prop} {R : Result → Shared → Prop} {h : Heap} {g : Array GenState} {d : Drawn} {t : Nat} {os : OsState}
variable {nm q : Str} {C N : Addr} {bs bm : List Value} {hd : Bool} {sn : List Str} {sub : List Value} {ab : Bool} {col : Option Bool} {dd : Option Addr} {k0 k1 k2 k3 k5 : Option Value} {kw : List (Str × Value)}
theorem chk_typeK {M : Model} {Q : Unit → Shared → Prop} (hC : h.get? C = some (excClassObj nm q C N bs bm hd sn sub ab col dd k0 k1 k2 k3 k5 "ValueError.__new__")) (hq : Q () ⟨h, g, d, t, os⟩) : wpAny M A (checkBuiltinCall "type.__call__" ⟨[.ref C], kw⟩) Q E ⟨h, g, d, t, os⟩ := by
  have f3 := tc_sub
  have hT : (⟨h, g, d, t, os⟩ : Shared).TypeIs (.ref C) "type" := ⟨_, hC, rfl⟩
  simp only [checkBuiltinCall, tc_kind, tc_split]
  repeat (any_goals (first | assumption | with_reducible refine wpAny_loadPart_at hC ?_ | with_reducible refine wpAny_onRaise ?_ | wp_step))
theorem chk_newK {M : Model} {Q : Unit → Shared → Prop} (hbm : PySem.HandSPX.refsVE bm = true)
    (hC : h.get? C = some (excClassObj nm q C N bs bm hd sn sub ab col dd k0 k1 k2 k3 k5 "ValueError.__new__")) (hq : Q () ⟨h, g, d, t, os⟩) : wpAny M A (checkBuiltinCall "ValueError.__new__" ⟨[.ref C], kw⟩) Q E ⟨h, g, d, t, os⟩ := by
  have FB := F.excBase_ValueError
  have hv : (Value.ref C :: bm).contains (.type "ValueError") = true := by rw [List.contains_cons, PySem.HandSPX.refsVE_contains _ bm hbm, FB.hasB, Bool.or_true]
  have hn := FB.noStar
  simp only [checkBuiltinCall, FB.newKind, FB.newSplit, FB.newRow]
  repeat (first | refine wpAny_loadPart_at hC ?_ | (refine wpAny_isSubtype_exc hC ?_; rw [hv]) | refine wpAny_staticBase_exc hC ?_ | refine wpAny_madeBy_exc hC ?_ | simp only [bne_self_eq_false, Bool.false_eq_true, if_false] | wp_step)
  exact hq
theorem new_ownK (hbm : PySem.HandSPX.refsVE bm = true) (hC : h.get? C = some (excClassObj nm q C N bs bm hd sn sub ab col dd k0 k1 k2 k3 k5 "ValueError.__new__"))
    (hq : R (.ok (.ret (.ref (h.objs.size + 1)))) ⟨(h.push (PySem.W.kdv_tup [])).push (PySem.HandSPX.excO C h.objs.size), g, d, t, os⟩) : codeAny (model P w) A (.builtin "ValueError.__new__" ⟨[.ref C], kw⟩) R ⟨h, g, d, t, os⟩ := by
  have FB := F.excBase_ValueError
  have he := FB.ends
  have cT := PySem.HandSPX.refsVE_contains
  have v1 : (Value.ref C :: bm).contains (.type "ValueError") = true := by rw [List.contains_cons, cT _ bm hbm, FB.hasB, Bool.or_true]
  have v2 : (Value.ref C :: bm).contains (.type "AttributeError") = false := by rw [List.contains_cons, cT _ bm hbm, FB.noAttr]; rfl
  have v3 : (Value.ref C :: bm).contains (.type "NameError") = false := by rw [List.contains_cons, cT _ bm hbm, FB.noName]; rfl
  refine codeAny_builtinAt FB.entry ?_; unfold Builtin.«BaseException.__new__»
  refine PyProof.Rows.wpAt_bind (show PyProof.Rows.wpAt _ _ _ (stack >>= _) _ _ _ from PyProof.Rows.wpAt_bind (PyProof.Rows.wpAt_stack fun p1 b1 => PyProof.Rows.wpAt_of_any ?_))
  wp_walk; refine PyProof.Rows.wpAt_of_any ?_; rw [FB.owner]
  repeat (first | refine wpAny_madeHere_exc FB.canon hC ?_ | refine wpAny_loadPart_at hC ?_ | (refine wpAny_isSubtype_exc hC ?_; first | rw [v1] | rw [v2] | rw [v3]) | wp_step)
  show R _ _; rw [Heap.size_push]; exact hq
theorem type_callK {fI : Addr} {Q : Fin → Shared → Prop} (hbm : PySem.HandSPX.refsVE bm = true) (hC : h.get? C = some (excClassObj nm q C N bs bm hd sn sub ab col dd k0 k1 k2 k3 k5 "ValueError.__new__"))
    (hi : PySem.W.Looks (model P w) h (typeLookup (.ref C) "__init__") (some (.ref fI))) (hb : ∀ self, PySem.W.Looks (model P w) h (bindSpecial (.ref fI) self) (.ref fI, [self]))
    (hq : codeAny (model P w) A (.call (.ref fI) ⟨[.ref (h.objs.size + 1)], kw⟩) (fun r s' => match r with | .ok (.ret v) => v = .none ∧ Q (.done (.ret (.ref (h.objs.size + 1)))) s' | .ok _ => False | .error e => E e s')
      ⟨(h.push (PySem.W.kdv_tup [])).push (PySem.HandSPX.excO C h.objs.size), g, d, t, os⟩) : wpAny (model P w) A (Builtin.«type.__call__» ⟨[.ref C], kw⟩) Q E ⟨h, g, d, t, os⟩ := by
  have FB := F.excBase_ValueError
  have k : ∀ b o, h.get? b = some o → ((h.push (PySem.W.kdv_tup [])).push (PySem.HandSPX.excO C h.objs.size)).get? b = some o := fun b o e => Heap.get?_push_of_some _ (Heap.get?_push_of_some _ e)
  have hC2 := k _ _ hC
  have hx : ((h.push (PySem.W.kdv_tup [])).push (PySem.HandSPX.excO C h.objs.size)).get? (h.objs.size + 1) = some (PySem.HandSPX.excO C h.objs.size) := by heap_get
  have hcC : (Value.ref C :: bm).contains (.ref C) = true := by simp
  have i2 := hi.keeps k
  have b2 := (hb (.ref (h.objs.size + 1))).keeps k
  repeat (first | refine wpAny_loadPart_at hC ?_ | refine wpAny_madeBy_exc hC ?_ | wp_step)
  refine codeAny_call_builtin_code (Code.quiet_builtin _ FB.quiet) (chk_newK hbm hC (new_ownK hbm hC ?_))
  show wpAny _ _ _ _ _ _
  unfold isInstance
  repeat (first | refine wpAny_loadPart_at hx ?_ | (refine wpAny_isSubtype_exc hC2 ?_; rw [hcC]) | wp_step)
  show wpAny _ _ (typeLookup (.ref C) _) _ _ _; refine i2.at (wpAny_holding (wpAny_bind (b2.at (wpAny_bind (wpAny_call (codeAny_mono hq fun r s' z => ?_))))))
  rcases r with e | (v | _ | _ | _) <;> first | exact z | exact z.elim | skip
  obtain ⟨rfl, z⟩ := z
  first | exact wpAny_pure (wpAny_pure z) | (wp_walk; exact z)
theorem call_ownK {fI : Addr} (hbm : PySem.HandSPX.refsVE bm = true) (hC : h.get? C = some (excClassObj nm q C N bs bm hd sn sub ab col dd k0 k1 k2 k3 k5 "ValueError.__new__"))
    (hi : PySem.W.Looks (model P w) h (typeLookup (.ref C) "__init__") (some (.ref fI))) (hb : ∀ self, PySem.W.Looks (model P w) h (bindSpecial (.ref fI) self) (.ref fI, [self]))
    (hq : codeAny (model P w) (A.under (.builtin "type.__call__" ⟨[.ref C], kw⟩)) (.call (.ref fI) ⟨[.ref (h.objs.size + 1)], kw⟩) (PySem.W.InitBack (h.objs.size + 1) R) ⟨(h.push (PySem.W.kdv_tup [])).push (PySem.HandSPX.excO C h.objs.size), g, d, t, os⟩) :
    codeAny (model P w) A (.call (.ref C) ⟨[], kw⟩) R ⟨h, g, d, t, os⟩ := by
  have f1 := tc_lookup
  have f2 := tc_bind (.ref C)
  have hT : (⟨h, g, d, t, os⟩ : Shared).TypeIs (.ref C) "type" := ⟨_, hC, rfl⟩
  refine codeAny_of_tree (show wpAny _ _ (callAny (.ref C) _) _ _ _ from ?_)
  repeat (any_goals (first | assumption | refine wpAny_loadPart_at hC ?_ | wp_step))
  refine ⟨rfl, codeAny_call_builtin_at (Code.quiet_builtin _ (by decide +kernel)) entry_typeCall (chk_typeK hC (type_callK hbm hC hi hb (codeAny_mono hq fun r s' z => ?_)))⟩
  rcases r with e | (v | _ | _ | _) <;> exact z
end
section
variable {X : Cx} {k : Nat} {C fI : Addr} {fd : FuncData} {sf ar fl : Str} {pins : List (Addr × Obj)} {σ : L2.St} {H : Hp} {s : Shared} {y : V} {u : Value} {Q : VK}
theorem upd3 {a dx : Addr} {o1 o2 o3 : HO} (h : dx ≠ a) : upd (upd (upd H a o1) dx o2) a o3 = upd (upd H dx o2) a o3 := by
  funext b
  by_cases e : b = a
  · rw [e, upd_same, upd_same]
  · rw [upd_ne e, upd_ne e]
    by_cases e2 : b = dx
    · rw [e2, upd_same, upd_same]
    · rw [upd_ne e2, upd_ne e2, upd_ne e]
theorem mkX_end {h2 : Heap} {us : List Value} {args : Args} (T : OexC X.K C) (F : FnG X.prog X.w X.K X.mg X.base k fI fd [sf, ar] (spXI C fl)) (hr : RoomG (k + 1) X.A) (hx : PassesAt (L2.CX X.prog X.w) X σ fun _ _ _ => False) (I : L2.Inv X pins σ H s) (ry : RelV y u) {kw : List (Str × Value)}
    (hb : ∀ s' : Shared, X.K.In s'.heap → BindsTo s' fd ⟨.ref (s.heap.objs.size + 1) :: us, kw⟩ ([sf, ar].zip [.ref (s.heap.objs.size + 1), u]))
    (h : ∀ a dx, H a = none → H dx = none → dx ≠ a → Q (.ref a) (upd (upd H dx (exd dx [(fl, y)])) a (exo a C (some dx)))) :
    codeAny (model X.prog X.w) (X.A.under (.builtin "type.__call__" ⟨.ref C :: us, kw⟩)) (.call (.ref fI) ⟨.ref (s.heap.objs.size + 1) :: us, kw⟩)
      (PySem.W.InitBack (s.heap.objs.size + 1) fun r s' => match r with | .error e => X.xe e s' | .ok (.ret v) => EP X pins σ Q v s' | .ok _ => False)
      ⟨(s.heap.push (PySem.W.kdv_tup us)).push (PySem.HandSPX.excO C s.heap.objs.size), s.gens, s.drawn, s.toks, s.os⟩ := by
  obtain ⟨hp, g, dr, tk, os⟩ := s
  have hn : H (hp.objs.size + 1) = none := I.hok.fresh (Nat.le_succ _)
  have kk : ∀ b o, hp.get? b = some o → ((hp.push (PySem.W.kdv_tup us)).push (PySem.HandSPX.excO C hp.objs.size)).get? b = some o := fun b o e => Heap.get?_push_of_some _ (Heap.get?_push_of_some _ e)
  have hg : ((hp.push (PySem.W.kdv_tup us)).push (PySem.HandSPX.excO C hp.objs.size)).get? (hp.objs.size + 1) = some (PySem.HandSPX.excO C hp.objs.size) := by heap_get
  have I2 : L2.Inv X pins σ (upd H (hp.objs.size + 1) (exo (hp.objs.size + 1) C none)) ⟨(hp.push (PySem.W.kdv_tup us)).push (PySem.HandSPX.excO C hp.objs.size), g, dr, tk, os⟩ :=
    I.laid (t' := tk) (a := hp.objs.size + 1) (o := exo (hp.objs.size + 1) C none) (h' := (hp.push (PySem.W.kdv_tup us)).push (PySem.HandSPX.excO C hp.objs.size)) kk (Nat.le_succ _) (exo_ok hg)
  have hs : spXI C fl [.ref (hp.objs.size + 1), y] (upd H (hp.objs.size + 1) (exo (hp.objs.size + 1) C none)) (fun v H2 => v = .non ∧ Q (.ref (hp.objs.size + 1)) H2) (fun _ _ _ => False) :=
    ⟨_, y, rfl, upd_same, fun dx h1 h2 => ⟨rfl, by rw [upd3 h2]; exact h _ dx hn (by rw [upd_ne h2] at h1; exact h1) h2⟩⟩
  refine codeAny_mono (F.run (hr.make C us kw) (I2.env0.make C us kw) (hb _ I2.kIn) (.cons (show L2.RelV (V.ref (hp.objs.size + 1)) (.ref (hp.objs.size + 1)) from rfl) (.cons ry .nil)) hs) fun r s' hq => ?_
  cases r with
  | error e => exact hx pins _ _ e s' I2 hq
  | ok fl =>
    cases fl with
    | ret v =>
      obtain ⟨v2, H2, I3, rv, hv, q2⟩ := I2.after hq
      subst hv
      cases rv
      exact ⟨rfl, .ref _, H2, I3, rfl, q2⟩
    | next => exact hq
    | brk => exact hq
    | cont => exact hq
/-- C(e) -/
theorem run_mkX (T : OexC X.K C) (iC : PySem.W.findIn X.K (.ref C) "__init__" = some (some (.ref fI))) (tI : PySem.W.typeIn X.K (.ref fI) = some (.type "function")) (F : FnG X.prog X.w X.K X.mg X.base k fI fd [sf, ar] (spXI C fl)) (hr : RoomG (k + 1) X.A) (hb : Binds X.K fd [sf, ar] [])
    (hx : PassesAt (L2.CX X.prog X.w) X σ fun _ _ _ => False) (I : L2.Inv X pins σ H s) (ry : RelV y u) (h : ∀ a dx, H a = none → H dx = none → dx ≠ a → Q (.ref a) (upd (upd H dx (exd dx [(fl, y)])) a (exo a C (some dx)))) :
    wpAny (model X.prog X.w) X.A (call (.ref C) [u]) (EP X pins σ Q) X.xe s := by
  obtain ⟨nm, q, N, bs, bm, sn, sub, ab, col, dd, k0, k1, k2, k3, k5, hC, hbm⟩ := T.cls
  have z := mkX_end (h2 := s.heap) (us := [u]) (args := ⟨[u], []⟩) (kw := []) T F hr hx I ry (fun s' kin => by
    have b := hb s' [.ref (s.heap.objs.size + 1), u] kin rfl
    rw [List.append_nil] at b
    exact b) h
  have KI := I.kIn
  obtain ⟨hp, g, dr, tk, os⟩ := s
  refine wpAny_call (codeAny_mono (PySem.HandSPX.call_own PySem.F.excBase_ValueError (fun Y => PySem.HandSPX.refsVE_contains Y bm hbm) (KI _ _ hC) (PySem.W.looks_findIn KI iC) (fun sf => PySem.W.bind_fn KI sf tI) (by show 1 ≤ sizeLine; rw [sizeLine_eq]; omega) z) fun r s' hq => ?_)
  rcases r with _ | (_ | _ | _ | _) <;> exact hq
/-- C(f=e) -/
theorem run_mkXK (T : OexC X.K C) (iC : PySem.W.findIn X.K (.ref C) "__init__" = some (some (.ref fI))) (tI : PySem.W.typeIn X.K (.ref fI) = some (.type "function")) (F : FnG X.prog X.w X.K X.mg X.base k fI fd [sf, ar] (spXI C fl)) (hr : RoomG (k + 1) X.A)
    (hb : ∀ (s' : Shared) (a : Addr) (u : Value), X.K.In s'.heap → BindsTo s' fd ⟨[.ref a], [(ar, u)]⟩ ([sf, ar].zip [.ref a, u]))
    (hx : PassesAt (L2.CX X.prog X.w) X σ fun _ _ _ => False) (I : L2.Inv X pins σ H s) (ry : RelV y u) (h : ∀ a dx, H a = none → H dx = none → dx ≠ a → Q (.ref a) (upd (upd H dx (exd dx [(fl, y)])) a (exo a C (some dx)))) :
    wpAny (model X.prog X.w) X.A (call (.ref C) [] [(ar, u)]) (EP X pins σ Q) X.xe s := by
  obtain ⟨nm, q, N, bs, bm, sn, sub, ab, col, dd, k0, k1, k2, k3, k5, hC, hbm⟩ := T.cls
  have z := mkX_end (h2 := s.heap) (us := []) (args := ⟨[], []⟩) (kw := [(ar, u)]) T F hr hx I ry (fun s' kin => hb s' _ u kin) h
  have KI := I.kIn
  obtain ⟨hp, g, dr, tk, os⟩ := s
  refine wpAny_call (codeAny_mono (call_ownK hbm (KI _ _ hC) (PySem.W.looks_findIn KI iC) (fun sf => PySem.W.bind_fn KI sf tI) z) fun r s' hq => ?_)
  rcases r with _ | (_ | _ | _ | _) <;> exact hq
end
end DL
namespace DL
open PySem PySem.Spec PyProof.Rows L2
theorem cl_some {K : PySem.W.Frag} {C : Addr} (h : PySem.W.hasDictIn K C = true) : (PySem.W.clsIn K C).isSome = true := by
  obtain ⟨cd, hc, _⟩ := PySem.W.any_some h
  rw [hc]
  rfl
def errD (c : Str) (es : List PyData) : PyData := .dict [(.none, .list (.str c :: es))]
/-- c() -/
def mNewE0 (c : Str) : ME := fun sd Q => Q (errD c []) sd
/-- c(e), c(fl=e): an error with the field fl -/
def mNewEF (c fl : Str) (me : ME) : ME := fun sd Q => me sd fun d s1 => Q (errD c [.tuple [.str fl, d]]) s1
/-- e.n -/
def opAttrE (n : Str) : PyData → Option PyData
  | .dict [(.none, .list (.str _ :: es))] => fget n es
  | _ => none
def subX (c b : Str) : Bool := decide (c = b) || (decide (b = "ShotError") || decide (b = "ValueError"))
/-- isinstance(e, b), e an error -/
def bIsX (b : Str) : PyData → Option PyData
  | .dict [(.none, .list (.str c :: _))] => some (.bool (subX c b))
  | _ => none
section
variable {X : Cx} {C : Ct} {Cc : Addr} {c fl n b : Str} {p p2 pos : Pos} {e : Expr} {te : TE} {m : ME}
theorem pe_exc0 (T : ExcCls X.K X.mg c Cc) (hg : Gl X c) (hdb : (c == ("__debug__" : Str)) = false) : PE X (.Call (.Name c p) [] [] pos) (fun σ H Q => ∀ a, H a = none → Q (.ref a) (upd H a (exo a Cc none))) := by
  refine ⟨fun pins s σ H Q I h => ?_⟩
  refine wpAny_Call_Name_kw (ld_glob I hg T.gC (PySem.W.callWith_K0 I.kIn T.kC ?_) hdb)
  obtain ⟨bm, N, nm, qn, bs, hdct, sn, sub, ab, col, dd, k0, k1, k2, k3, k5, mN, hC, hN, hni, TT⟩ := exc_obj I.kIn T.q
  obtain ⟨hp, g, d, t, os⟩ := s
  refine wpAny_call_exc_subT PySem.F.excBase_ValueError TT hC hN hni (fun h' a hm => ?_) (Nat.zero_le _)
  have hn : H a = none := I.hok.gone hm.new
  obtain ⟨t1, ht, _, _⟩ := hm.there
  exact ⟨.ref a, _, I.laidN hm.keeps hm.new hn (exo_ok ht), rfl, h a hn⟩
theorem pd_newE0 (T : ExcCls X.K X.mg c Cc) (O : ObjE X.K c Cc) (hg : Gl X c := by rfl) (hdb : (c == ("__debug__" : Str)) = false := by decide) : PE X (.Call (.Name c p) [] [] pos) (tD X.K C (mNewE0 c)) := pe_imp (pe_exc0 T hg hdb) (by
  rintro σ H Q ⟨F, sd, Qd, R, h, k⟩ a ha
  exact k (.ref a) _ _ _ sd (R.al (.new ha)) (.al R (.new ha)) (.ex0 upd_same O) h)
def tMkV (Cc : Addr) (fl : Str) (te : TE) : TE := fun σ H Q => te σ H fun z H1 => ∃ y, [z] = [y] ∧ ∀ a dx, H1 a = none → H1 dx = none → dx ≠ a → Q (.ref a) (upd (upd H1 dx (exd dx [(fl, y)])) a (exo a Cc (some dx)))
theorem td_newEF (O : ObjE X.K c Cc) : ∀ σ H Q, tD X.K C (mNewEF c fl m) σ H Q → tMkV Cc fl (tD X.K C m) σ H Q := by
  rintro σ H Q ⟨F, sd, Qd, R, h, k⟩
  refine ⟨F, sd, _, R, h, fun y H1 F1 d sd1 R1 S1 ry h1 => ⟨y, rfl, fun a dx h2 h3 h4 => ?_⟩⟩
  have R2 := R1.al (.new (o := exd dx [(fl, y)]) h3)
  have h2' : upd H1 dx (exd dx [(fl, y)]) a = none := by rw [upd_ne (Ne.symm h4)]; exact h2
  have R3 := R2.al (.new (o := exo a Cc (some dx)) h2')
  have g1 : Same F1 (upd F1 dx (exd dx [(fl, y)])) := same_new (R1.free h3)
  have g2 := same_new (o := exo a Cc (some dx)) (R2.free h2')
  exact k (.ref a) _ _ _ sd1 R3 (S1.trans ((Stp.al R1 (.new h3)).trans (Stp.al R2 (.new h2')))) (.exF upd_same (by rw [upd_ne h4]; exact upd_same) O (.cons ((ry.mono g1).mono g2) .nil)) h1
variable {k j : Nat} {fI : Addr} {fd : FuncData} {sf ar : Str}
/-- what c's __init__ keeps -/
structure CalX (P : Program) (w : World) (K : PySem.W.Frag) (mg : Str → Option Value) (base : Heap) (k : Nat) (c fl : Str) (Cc fI : Addr) (fd : FuncData) (sf ar : Str) : Prop where
  F : FnG P w K mg base k fI fd [sf, ar] (spXI Cc fl)
  T : OexC K Cc
  iC : PySem.W.findIn K (.ref Cc) "__init__" = some (some (.ref fI))
  tI : PySem.W.typeIn K (.ref fI) = some (.type "function")
  O : ObjE K c Cc
  gC : mg c = some (.ref Cc)
  hb : Binds K fd [sf, ar] []
  hbK : ∀ (s' : Shared) (a : Addr) (u : Value), K.In s'.heap → BindsTo s' fd ⟨[.ref a], [(ar, u)]⟩ ([sf, ar].zip [.ref a, u])
theorem pd_newEF (W : CalX X.prog X.w X.K X.mg X.base k c fl Cc fI fd sf ar) (hr : RoomG j X.A) (hk : k + 1 ≤ j) (hx : ∀ σ, PassesAt (L2.CX X.prog X.w) X σ fun _ _ _ => False) (he : PE X e (tD X.K C m)) (hg : Gl X c := by rfl) (hdb : (c == ("__debug__" : Str)) = false := by decide)
    (hs : starEach [e] X.env = (false, eval e X.env) :: starEach [] X.env := by rfl) (hpl : (backTo pos (starEach [] X.env)).any (·.1) = false := by rfl) : PE X (.Call (.Name c p) [e] [] pos) (tD X.K C (mNewEF c fl m)) := by
  refine pe_imp (t := tMkV Cc fl (tD X.K C m)) ⟨fun pins s σ H Q I h => ?_⟩ (td_newEF W.O)
  refine wpAny_Call_Name_kw (ld_glob I hg W.gC (PySem.W.callWith_K (h₀ := X.base) I.ok.mod.kin W.T.kC (thn ((pa_cons he pa_nil hs).run pos pins s σ H (fun vs H1 => ∃ y, vs = [y] ∧ ∀ a dx, H1 a = none → H1 dx = none → dx ≠ a → Q (.ref a) (upd (upd H1 dx (exd dx [(fl, y)])) a (exo a Cc (some dx)))) I h) fun us s1 hh => ?_) hs hpl) hdb)
  obtain ⟨vs, H1, I1, rv, y, rfl, q⟩ := hh
  refine ⟨I1.kIn, ?_⟩
  cases rv with
  | cons ry rr =>
    cases rr
    exact run_mkX W.T W.iC W.tI W.F (hr.mono hk) W.hb (hx σ) I1 ry q
/-- e.n of an error -/
theorem pd_attrE (na : ∀ c Cc, ObjE X.K c Cc → PySem.W.findIn X.K (.ref Cc) n = some none) (he : PE X e (tD X.K C m)) (hb : attributeBase e n X.env (eval e X.env) = eval e X.env := by rfl) : PE X (.Attribute e n pos) (tD X.K C (mOp1 (opAttrE n) m)) := by
  refine ⟨fun pins s σ H Q I h => ?_⟩
  obtain ⟨F, sd, Qd, R, h, k⟩ := h
  refine attr_of hb (thn (he.run pins s σ H (fun x H1 => ∃ F1 d sd1, Rs X.K C F1 H1 σ sd1 ∧ Stp σ sd F H F1 H1 sd1 ∧ Rp X.K F1 x d ∧ ∃ r, opAttrE n d = some r ∧ Qd r sd1) I ⟨F, sd, _, R, h, fun v H' F' d sd' R' S' r' q => ⟨F', d, sd', R', S', r', q⟩⟩) fun u s1 hh => ?_)
  obtain ⟨x, H1, I1, rx, F1, d, sd1, R1, S1, rd, z, ez, q⟩ := hh
  cases rd with
  | dct hF r =>
    unfold opAttrE at ez
    split at ez
    · rename_i q2
      have q2 := PyData.dict.inj q2
      exact (rpD_key r q2).elim
    · cases ez
  | ex0 => cases ez
  | ins => cases ez
  | @exF a Ca dx c' fs es h1 h2 O rf =>
    have ez : fget n es = some z := ez
    obtain ⟨v, hl, rv⟩ := rf.get ez
    obtain ⟨t1, ho⟩ := exo_at I1.hok (R1.ext _ _ h1)
    obtain ⟨mA, hns, hr⟩ := exd_at I1.hok (R1.ext _ _ h2)
    obtain ⟨od, hd, hlk⟩ := lookIn_ns hns
    obtain ⟨w, hw, rw'⟩ := RelO.some_of (v := v) (o := mA n) (by rw [← hl]; exact hr n)
    cases (show u = Value.ref a from rx)
    have J : PySem.W.InstAt s1.heap a _ Ca (some od) := ⟨ho, rfl, rfl, hd⟩
    exact HandSPX.exc_get I1.kIn J O.ec.hg O.ec.hk O.ec.hs (PySem.W.findObj_own O.ec.hd (na _ _ O) rfl (by rw [hlk, hw])) (handed_of rw') ⟨v, H1, I1.tok _, rw', k v H1 F1 z sd1 R1 S1 rv q⟩
  | _ => cases ez
theorem isX_inv {K : PySem.W.Frag} {F H : Hp} {x : V} {d z : PyData} (e : Same F H) (r : Rp K F x d) (h : bIsX b d = some z) : ∃ c Cc, TyE K H x (.ref Cc) ∧ ObjE K c Cc ∧ z = .bool (subX c b) := by
  cases r with
  | dct hF rd =>
    unfold bIsX at h
    split at h
    · rename_i q2
      exact (rpD_key rd (PyData.dict.inj q2)).elim
    · cases h
  | ex0 h1 O => cases h; exact ⟨_, _, .ex0 (e _ _ h1) O.ec O.cl, O, rfl⟩
  | exF h1 h2 O _ => cases h; exact ⟨_, _, .exF (e _ _ h1) (e _ _ h2) O.ec O.cl, O, rfl⟩
  | _ => cases h
theorem pd_isX {B : Addr} (hm : X.mg "isinstance" = none) (hB : X.mg b = some (.ref B)) (hk : ∀ c Cc, ObjE X.K c Cc → PySem.W.kitOne X.K (.ref Cc) (.ref B) = some (subX c b)) (he : PE X e (tD X.K C m))
    (hgI : Gl X "isinstance" := by rfl) (hgT : Gl X b := by rfl) (hdb : (b == ("__debug__" : Str)) = false := by decide) (hpl : (backTo pos (starEach [.Name b p2] X.env)).any (·.1) = false := by rfl)
    (hs : starEach (e :: [.Name b p2]) X.env = (false, eval e X.env) :: starEach [.Name b p2] X.env := by rfl) : PE X (.Call (.Name "isinstance" p) [e, .Name b p2] [] pos) (tD X.K C (mOp1 (bIsX b) m)) := by
  refine pe_imp (pe_callB call_isEv1 hgI hm (by decide +kernel) (pa_cons he (pa_cons (pe_glob (v := .ref B) hgT hB rfl hdb) pa_nil) hs) (by decide) (by decide) hs hpl) ?_
  rintro σ H Q ⟨F, sd, Qd, R, h, kk⟩
  refine ⟨F, sd, _, R, h, fun x H1 F1 a sd1 R1 S1 rx h1 => ?_⟩
  obtain ⟨z, ez, q⟩ := h1
  obtain ⟨c, Cc, ty, O, rfl⟩ := isX_inv R1.ext rx ez
  exact ⟨x, .ref B, _, .ref B, _, rfl, .own _, ty, hk _ _ O, kk (.bl _) H1 F1 _ sd1 R1 S1 (.bl _) q⟩
theorem pd_isXV (hm : X.mg "isinstance" = none) (hB : X.mg "ValueError" = none) (hk : ∀ c Cc, ObjE X.K c Cc → PySem.W.kitOne X.K (.ref Cc) (.type "ValueError") = some true) (he : PE X e (tD X.K C m))
    (hgI : Gl X "isinstance" := by rfl) (hgT : Gl X "ValueError" := by rfl) (hpl : (backTo pos (starEach [.Name "ValueError" p2] X.env)).any (·.1) = false := by rfl)
    (hs : starEach (e :: [.Name "ValueError" p2]) X.env = (false, eval e X.env) :: starEach [.Name "ValueError" p2] X.env := by rfl) : PE X (.Call (.Name "isinstance" p) [e, .Name "ValueError" p2] [] pos) (tD X.K C (mOp1 (bIsX "ValueError") m)) := by
  refine pe_imp (pe_callB call_isEv1 hgI hm (by decide +kernel) (pa_cons he (pa_cons (pe_bltn (v := .ty "ValueError") hgT hB PyProof.Rows.Boot.«ValueError» rfl (by decide) (by decide)) pa_nil) hs) (by decide) (by decide) hs hpl) ?_
  rintro σ H Q ⟨F, sd, Qd, R, h, kk⟩
  refine ⟨F, sd, _, R, h, fun x H1 F1 a sd1 R1 S1 rx h1 => ?_⟩
  obtain ⟨z, ez, q⟩ := h1
  obtain ⟨c, Cc, ty, O, rfl⟩ := isX_inv R1.ext rx ez
  have sb : subX c "ValueError" = true := by unfold subX; simp
  exact ⟨x, .ty "ValueError", _, .type "ValueError", _, rfl, .ty _, ty, (hk _ _ O).trans (by rw [sb]), kk (.bl _) H1 F1 _ sd1 R1 S1 (.bl _) q⟩
/-- c(fl=e) -/
def mNewEFK (c fl : Str) (mk : MA) : ME := fun sd Q => mk sd fun ds s1 => ∃ d, ds = [d] ∧ Q (errD c [.tuple [.str fl, d]]) s1
theorem td_newEFK {mk : MA} (O : ObjE X.K c Cc) : ∀ σ H Q, tD X.K C (mNewEFK c fl mk) σ H Q → tDA X.K C mk σ H fun vs H1 => ∃ y, vs = [y] ∧ ∀ a dx, H1 a = none → H1 dx = none → dx ≠ a → Q (.ref a) (upd (upd H1 dx (exd dx [(fl, y)])) a (exo a Cc (some dx))) := by
  rintro σ H Q ⟨F, sd, Qd, R, h, k⟩
  refine ⟨F, sd, _, R, h, fun vs H1 F1 ds sd1 R1 S1 rv h1 => ?_⟩
  obtain ⟨d, rfl, h1⟩ := h1
  cases rv with
  | @cons y _ _ _ ry rr =>
    cases rr
    refine ⟨y, rfl, fun a dx h2 h3 h4 => ?_⟩
    have R2 := R1.al (.new (o := exd dx [(fl, y)]) h3)
    have h2' : upd H1 dx (exd dx [(fl, y)]) a = none := by rw [upd_ne (Ne.symm h4)]; exact h2
    have R3 := R2.al (.new (o := exo a Cc (some dx)) h2')
    exact k (.ref a) _ _ _ sd1 R3 (S1.trans ((Stp.al R1 (.new h3)).trans (Stp.al R2 (.new h2')))) (.exF upd_same (by rw [upd_ne h4]; exact upd_same) O (.cons ((ry.mono (same_new (R1.free h3))).mono (same_new (R2.free h2'))) .nil)) h1
/-- what C(..) needs of the error class c -/
def CalXE (P : Program) (w : World) (K : PySem.W.Frag) (mg : Str → Option Value) (base : Heap) (k : Nat) (c fl ar : Str) : Prop := ∃ Cc fI fd sf, CalX P w K mg base k c fl Cc fI fd sf ar
theorem pd_newEFE (W : CalXE X.prog X.w X.K X.mg X.base k c fl ar) (hr : RoomG j X.A) (hk : k + 1 ≤ j) (he : PE X e (tD X.K C m)) (hg : Gl X c := by rfl) (hdb : (c == ("__debug__" : Str)) = false := by decide)
    (hs : starEach [e] X.env = (false, eval e X.env) :: starEach [] X.env := by rfl) (hpl : (backTo pos (starEach [] X.env)).any (·.1) = false := by rfl) : PE X (.Call (.Name c p) [e] [] pos) (tD X.K C (mNewEF c fl m)) := by
  obtain ⟨Cc, fI, fd, sf, W⟩ := W
  exact pd_newEF W hr hk (fun σ => passNo (σ := σ)) he hg hdb hs hpl
theorem pd_newEFK {mk : MA} {kws : List Keyword} (W : CalXE X.prog X.w X.K X.mg X.base k c fl ar) (hr : RoomG j X.A) (hk : k + 1 ≤ j) (hkw : PK X kws (tDA X.K C mk)) (hg : Gl X c := by rfl)
    (hall : (backToKw pos (keywordEach kws X.env)).all (·.1.isSome) = true := by rfl) (hks : (backToKw pos (keywordEach kws X.env)).filterMap (·.1) = [ar] := by rfl) (hdb : (c == ("__debug__" : Str)) = false := by decide)
    (hpl : ((backTo pos (starEach [] X.env)).any (·.1) || (backToKw pos (keywordEach kws X.env)).any (·.1.isNone)) = false := by rfl) : PE X (.Call (.Name c p) [] kws pos) (tD X.K C (mNewEFK c fl mk)) := by
  obtain ⟨Cc, fI, fd, sf, W⟩ := W
  refine pe_imp (t := fun σ H Q => tDA X.K C mk σ H fun vs H1 => ∃ y, vs = [y] ∧ ∀ a dx, H1 a = none → H1 dx = none → dx ≠ a → Q (.ref a) (upd (upd H1 dx (exd dx [(fl, y)])) a (exo a Cc (some dx)))) ⟨fun pins s σ H Q I h => ?_⟩ (td_newEFK W.O)
  refine wpAny_Call_Name_kw (ld_glob I hg W.gC (PySem.W.callWith_KW0 (h₀ := X.base) I.ok.mod.kin W.T.kC hall (thn (hkw.run pos pins s σ H _ I h) fun ws s2 h2 => ?_) hpl) hdb)
  obtain ⟨zs, H2, I2, rz, y, rfl, q2⟩ := h2
  refine ⟨I2.kIn, ?_⟩
  rw [hks]
  cases rz with
  | cons ry rr =>
    cases rr
    exact run_mkXK W.T W.iC W.tI W.F (hr.mono hk) W.hbK (passNo (σ := σ)) I2 ry q2
theorem pd_newE0E (h : ∃ Cc, ExcCls X.K X.mg c Cc ∧ ObjE X.K c Cc) (hg : Gl X c := by rfl) (hdb : (c == ("__debug__" : Str)) = false := by decide) : PE X (.Call (.Name c p) [] [] pos) (tD X.K C (mNewE0 c)) := by
  obtain ⟨Cc, T, O⟩ := h
  exact pd_newE0 T O hg hdb
theorem pd_isXE (hm : X.mg "isinstance" = none) (h : ∃ B, X.mg b = some (.ref B) ∧ ∀ c Cc, ObjE X.K c Cc → PySem.W.kitOne X.K (.ref Cc) (.ref B) = some (subX c b)) (he : PE X e (tD X.K C m))
    (hgI : Gl X "isinstance" := by rfl) (hgT : Gl X b := by rfl) (hdb : (b == ("__debug__" : Str)) = false := by decide) (hpl : (backTo pos (starEach [.Name b p2] X.env)).any (·.1) = false := by rfl)
    (hs : starEach (e :: [.Name b p2]) X.env = (false, eval e X.env) :: starEach [.Name b p2] X.env := by rfl) : PE X (.Call (.Name "isinstance" p) [e, .Name b p2] [] pos) (tD X.K C (mOp1 (bIsX b) m)) := by
  obtain ⟨B, hB, hk⟩ := h
  exact pd_isX hm hB hk he hgI hgT hdb hpl hs
end
end DL
namespace LW
open PySem PySem.Spec PyProof.Rows L2 DL
def topS (i : Nat) : Stmt := PySem.Challenge.pw_cushionshots_k43_error_classes.main.body.getD i (.Pass ⟨0, 0, 0, 0⟩)
abbrev s__law_well : Stmt := topS 26
theorem sc__law_well : FnScope ["script", "at", "cell"] ["script", "at"] (defScope s__law_well) := ⟨rfl, rfl, rfl, by decide +kernel, rfl, by decide +kernel, by decide +kernel⟩
abbrev s__law_draw : Stmt := topS 27
theorem sc__law_draw : FnScope ["well", "most", "digit", "blend"] ["well", "most"] (defScope s__law_draw) := ⟨rfl, rfl, rfl, by decide +kernel, rfl, by decide +kernel, by decide +kernel⟩
abbrev s__law_marks : Stmt := topS 28
theorem sc__law_marks : FnScope ["one", "marks"] ["one"] (defScope s__law_marks) := ⟨rfl, rfl, rfl, by decide +kernel, rfl, by decide +kernel, by decide +kernel⟩
abbrev s__law_made : Stmt := topS 29
theorem sc__law_made : FnScope ["made"] [] (defScope s__law_made) := ⟨rfl, rfl, rfl, by decide +kernel, rfl, by decide +kernel, by decide +kernel⟩
abbrev s_law : Stmt := topS 30
theorem sc_law : FnScope ["script", "made", "k", "one", "due", "at", "well", "size", "base", "j"] ["script"] (defScope s_law) := ⟨rfl, rfl, rfl, by decide +kernel, rfl, by decide +kernel, by decide +kernel⟩
def inX : Stmt → Nat → Stmt
  | .ClassDef _ _ _ b _ _ _ _ _ _ _, j => b.getD j (.Pass ⟨0, 0, 0, 0⟩)
  | s, _ => s
abbrev s_x_BallsMeet : Stmt := inX (topS 23) 0
-- TooMany
abbrev s_x_TooMany : Stmt := inX (topS 24) 0
structure G (K : PySem.W.Frag) (mg : Str → Option Value) (CN : String → Option Addr) : Prop where
  b_ValueError : mg "ValueError" = none
  b_abs : mg "abs" = none
  b_any : mg "any" = none
  b_int : mg "int" = none
  b_isinstance : mg "isinstance" = none
  b_len : mg "len" = none
  b_max : mg "max" = none
  b_min : mg "min" = none
  b_range : mg "range" = none
  nx_AlwaysTogether : ∃ Cc, ExcCls K mg "AlwaysTogether" Cc ∧ ObjE K "AlwaysTogether" Cc
  nx_InvalidBall : ∃ Cc, ExcCls K mg "InvalidBall" Cc ∧ ObjE K "InvalidBall" Cc
  nx_InvalidBox : ∃ Cc, ExcCls K mg "InvalidBox" Cc ∧ ObjE K "InvalidBox" Cc
  nx_InvalidChange : ∃ Cc, ExcCls K mg "InvalidChange" Cc ∧ ObjE K "InvalidChange" Cc
  nx_InvalidCushion : ∃ Cc, ExcCls K mg "InvalidCushion" Cc ∧ ObjE K "InvalidCushion" Cc
  nx_InvalidCushions : ∃ Cc, ExcCls K mg "InvalidCushions" Cc ∧ ObjE K "InvalidCushions" Cc
  nx_InvalidIndex : ∃ Cc, ExcCls K mg "InvalidIndex" Cc ∧ ObjE K "InvalidIndex" Cc
  nx_InvalidNumber : ∃ Cc, ExcCls K mg "InvalidNumber" Cc ∧ ObjE K "InvalidNumber" Cc
  nx_InvalidPockets : ∃ Cc, ExcCls K mg "InvalidPockets" Cc ∧ ObjE K "InvalidPockets" Cc
  nx_InvalidShot : ∃ Cc, ExcCls K mg "InvalidShot" Cc ∧ ObjE K "InvalidShot" Cc
  nx_InvalidShots : ∃ Cc, ExcCls K mg "InvalidShots" Cc ∧ ObjE K "InvalidShots" Cc
  nx_InvalidSide : ∃ Cc, ExcCls K mg "InvalidSide" Cc ∧ ObjE K "InvalidSide" Cc
  nx_InvalidSpot : ∃ Cc, ExcCls K mg "InvalidSpot" Cc ∧ ObjE K "InvalidSpot" Cc
  nx_InvalidStretch : ∃ Cc, ExcCls K mg "InvalidStretch" Cc ∧ ObjE K "InvalidStretch" Cc
  nx_InvalidStretches : ∃ Cc, ExcCls K mg "InvalidStretches" Cc ∧ ObjE K "InvalidStretches" Cc
  nx_InvalidTable : ∃ Cc, ExcCls K mg "InvalidTable" Cc ∧ ObjE K "InvalidTable" Cc
  nx_InvalidText : ∃ Cc, ExcCls K mg "InvalidText" Cc ∧ ObjE K "InvalidText" Cc
  nx_InvalidTime : ∃ Cc, ExcCls K mg "InvalidTime" Cc ∧ ObjE K "InvalidTime" Cc
  nx_NotABall : ∃ Cc, ExcCls K mg "NotABall" Cc ∧ ObjE K "NotABall" Cc
  nx_NothingToUndo : ∃ Cc, ExcCls K mg "NothingToUndo" Cc ∧ ObjE K "NothingToUndo" Cc
  nx_OtherTable : ∃ Cc, ExcCls K mg "OtherTable" Cc ∧ ObjE K "OtherTable" Cc
  nx_ShotError : ∃ Cc, ExcCls K mg "ShotError" Cc ∧ ObjE K "ShotError" Cc
  nf_count : ∀ c Cc, ObjE K c Cc → PySem.W.findIn K (.ref Cc) "count" = some none
  nf_time : ∀ c Cc, ObjE K c Cc → PySem.W.findIn K (.ref Cc) "time" = some none
  kx_AlwaysTogether : ∃ B, mg "AlwaysTogether" = some (.ref B) ∧ ∀ c Cc, ObjE K c Cc → PySem.W.kitOne K (.ref Cc) (.ref B) = some (subX c "AlwaysTogether")
  kx_BallsMeet : ∃ B, mg "BallsMeet" = some (.ref B) ∧ ∀ c Cc, ObjE K c Cc → PySem.W.kitOne K (.ref Cc) (.ref B) = some (subX c "BallsMeet")
  kx_InvalidBall : ∃ B, mg "InvalidBall" = some (.ref B) ∧ ∀ c Cc, ObjE K c Cc → PySem.W.kitOne K (.ref Cc) (.ref B) = some (subX c "InvalidBall")
  kx_InvalidBox : ∃ B, mg "InvalidBox" = some (.ref B) ∧ ∀ c Cc, ObjE K c Cc → PySem.W.kitOne K (.ref Cc) (.ref B) = some (subX c "InvalidBox")
  kx_InvalidChange : ∃ B, mg "InvalidChange" = some (.ref B) ∧ ∀ c Cc, ObjE K c Cc → PySem.W.kitOne K (.ref Cc) (.ref B) = some (subX c "InvalidChange")
  kx_InvalidCushion : ∃ B, mg "InvalidCushion" = some (.ref B) ∧ ∀ c Cc, ObjE K c Cc → PySem.W.kitOne K (.ref Cc) (.ref B) = some (subX c "InvalidCushion")
  kx_InvalidCushions : ∃ B, mg "InvalidCushions" = some (.ref B) ∧ ∀ c Cc, ObjE K c Cc → PySem.W.kitOne K (.ref Cc) (.ref B) = some (subX c "InvalidCushions")
  kx_InvalidIndex : ∃ B, mg "InvalidIndex" = some (.ref B) ∧ ∀ c Cc, ObjE K c Cc → PySem.W.kitOne K (.ref Cc) (.ref B) = some (subX c "InvalidIndex")
  kx_InvalidNumber : ∃ B, mg "InvalidNumber" = some (.ref B) ∧ ∀ c Cc, ObjE K c Cc → PySem.W.kitOne K (.ref Cc) (.ref B) = some (subX c "InvalidNumber")
  kx_InvalidPockets : ∃ B, mg "InvalidPockets" = some (.ref B) ∧ ∀ c Cc, ObjE K c Cc → PySem.W.kitOne K (.ref Cc) (.ref B) = some (subX c "InvalidPockets")
  kx_InvalidShot : ∃ B, mg "InvalidShot" = some (.ref B) ∧ ∀ c Cc, ObjE K c Cc → PySem.W.kitOne K (.ref Cc) (.ref B) = some (subX c "InvalidShot")
  kx_InvalidShots : ∃ B, mg "InvalidShots" = some (.ref B) ∧ ∀ c Cc, ObjE K c Cc → PySem.W.kitOne K (.ref Cc) (.ref B) = some (subX c "InvalidShots")
  kx_InvalidSide : ∃ B, mg "InvalidSide" = some (.ref B) ∧ ∀ c Cc, ObjE K c Cc → PySem.W.kitOne K (.ref Cc) (.ref B) = some (subX c "InvalidSide")
  kx_InvalidSpot : ∃ B, mg "InvalidSpot" = some (.ref B) ∧ ∀ c Cc, ObjE K c Cc → PySem.W.kitOne K (.ref Cc) (.ref B) = some (subX c "InvalidSpot")
  kx_InvalidStretch : ∃ B, mg "InvalidStretch" = some (.ref B) ∧ ∀ c Cc, ObjE K c Cc → PySem.W.kitOne K (.ref Cc) (.ref B) = some (subX c "InvalidStretch")
  kx_InvalidStretches : ∃ B, mg "InvalidStretches" = some (.ref B) ∧ ∀ c Cc, ObjE K c Cc → PySem.W.kitOne K (.ref Cc) (.ref B) = some (subX c "InvalidStretches")
  kx_InvalidTable : ∃ B, mg "InvalidTable" = some (.ref B) ∧ ∀ c Cc, ObjE K c Cc → PySem.W.kitOne K (.ref Cc) (.ref B) = some (subX c "InvalidTable")
  kx_InvalidText : ∃ B, mg "InvalidText" = some (.ref B) ∧ ∀ c Cc, ObjE K c Cc → PySem.W.kitOne K (.ref Cc) (.ref B) = some (subX c "InvalidText")
  kx_InvalidTime : ∃ B, mg "InvalidTime" = some (.ref B) ∧ ∀ c Cc, ObjE K c Cc → PySem.W.kitOne K (.ref Cc) (.ref B) = some (subX c "InvalidTime")
  kx_NotABall : ∃ B, mg "NotABall" = some (.ref B) ∧ ∀ c Cc, ObjE K c Cc → PySem.W.kitOne K (.ref Cc) (.ref B) = some (subX c "NotABall")
  kx_NothingToUndo : ∃ B, mg "NothingToUndo" = some (.ref B) ∧ ∀ c Cc, ObjE K c Cc → PySem.W.kitOne K (.ref Cc) (.ref B) = some (subX c "NothingToUndo")
  kx_OtherTable : ∃ B, mg "OtherTable" = some (.ref B) ∧ ∀ c Cc, ObjE K c Cc → PySem.W.kitOne K (.ref Cc) (.ref B) = some (subX c "OtherTable")
  kx_ShotError : ∃ B, mg "ShotError" = some (.ref B) ∧ ∀ c Cc, ObjE K c Cc → PySem.W.kitOne K (.ref Cc) (.ref B) = some (subX c "ShotError")
  kx_TooMany : ∃ B, mg "TooMany" = some (.ref B) ∧ ∀ c Cc, ObjE K c Cc → PySem.W.kitOne K (.ref Cc) (.ref B) = some (subX c "TooMany")
  kv_ : ∀ c Cc, ObjE K c Cc → PySem.W.kitOne K (.ref Cc) (.type "ValueError") = some true
section
variable {P : Program} {w : World} {K : PySem.W.Frag} {mg : Str → Option Value} {base : Heap} {CN : String → Option Addr}
theorem ok_draw {f : Addr} {fd : FuncData} (F : Fun K "_law_draw" "_law_draw" s__law_draw f fd) (mi : mg "int" = none) : FnG P w K mg base 1 f fd ["well", "most"] (spW K dDraw) := by
  refine fun_okG F sc__law_draw (fun vs H Q E h => ?_) (fun cdv A outer s H vs Q E hr h => ⟨_, pss_cons (ps_if (pt_cmpR op_gt (pe_ix ix_list (pv 0) pe_int (fun _ _ => rfl)) pe_int (nomark _))
        (pss_cons (ps_set (i := 2) sc__law_draw.nd rfl (.inl rfl) (pe_op op_mod (pe_callTy cr_int (by rfl) mi (by decide +kernel) (pa_cons (pe_ix ix_list (pv 0) pe_int (fun _ _ => rfl)) pa_nil)) (pv 1)))
        (pss_cons (ps_asg (pe_op op_fdivW (pe_ix ix_list (pv 0) pe_int (fun _ _ => rfl)) (pv 1)) (pg_sub (pv 0) pe_int set_list))
        (pss_one (ps_ret (pv 2))))) pss_nil)
      (pss_cons (ps_asg (pe_op op_add (pe_ix ix_list (pv 0) pe_int (fun _ _ => rfl)) pe_int) (pg_sub (pv 0) pe_int set_list))
      (pss_cons (ps_set (i := 3) sc__law_draw.nd rfl (.inl rfl) (pe_op op_mod (pe_op op_powW (pe_callTy cr_int (by rfl) mi (by decide +kernel) (pa_cons (pe_op op_add (pe_ix ix_list (pv 0) pe_int (fun _ _ => rfl)) (pe_op op_mulW pe_int (pe_ix ix_list (pv 0) pe_int (fun _ _ => rfl)))) pa_nil)) pe_int) (pe_op op_add (pe_op op_powW pe_int pe_int) pe_int)))
      (pss_cons (ps_set (i := 3) sc__law_draw.nd rfl (.inl rfl) (pe_op op_mod (pe_op op_powW (pe_callTy cr_int (by rfl) mi (by decide +kernel) (pa_cons (pe_op op_add (pv 3) (pe_op op_mulW pe_int (pe_ix ix_list (pv 0) pe_int (fun _ _ => rfl)))) pa_nil)) pe_int) (pe_op op_add (pe_op op_powW pe_int pe_int) pe_int)))
      (pss_one (ps_ret (pe_op op_mod (pe_callTy cr_int (by rfl) mi (by decide +kernel) (pa_cons (pe_op op_fdivW (pv 3) pe_int) pa_nil)) (pv 1))))))), ?_⟩)
  · obtain ⟨F0, p, ws, n, a, b, c, ds, Qd, rfl, _, _, _, _, r, ⟨m, rfl, _⟩, _⟩ := h
    obtain ⟨x, rfl, _⟩ := rpA1 r
    rfl
  · obtain ⟨F0, p, ws, n, a, b, c, ds, Qd, rfl, e, hF, hp, hw, r, ⟨m, rfl, h1, h2, h3, h4⟩, hq⟩ := h
    obtain ⟨x, rfl, rx⟩ := rpA1 r
    cases rx
    have ne : ∀ q o, F0 q = some o → q ≠ p := fun q o z y => by subst y; rw [hF] at z; cases z
    have fin : ∀ (a' b' c' r : Int), WellOk (n - 1) a' b' c' → 0 ≤ r → r < m → ∀ H', (∀ q, q ≠ p → H' q = H q) → H' p = some (.lst [.int a', .int b', .int c']) → Q (.int r) H' := fun a' b' c' r ok r0 r1 H' hn hs =>
      hq (.int r) H' F0 (.va (.int r)) (n - 1) ⟨Same.refl _, fun q o z => (hn q (ne q o z)).trans (e q o z), fun q o z y => (hn q z).trans y, fun q o z => .inl z, a', b', c', hs, ok⟩ (.int r) (h4 r r0 r1)
    have hL : SqL K H p [.int a, .int b, .int c] := .inl (.inl hp)
    refine ⟨.ref p, rfl, p, _, 0, .int a, rfl, rfl, hL, rfl, a, 0, rfl, rfl, decide (0 < a), rfl, ?_⟩
    refine ite2 (fun ha => ?_) (fun ha => ?_)
    · have ha : 0 < a := of_decide_eq_true ha
      refine ⟨.ref p, rfl, p, _, 0, .int a, rfl, rfl, hL, rfl, a, rfl, .int m, rfl, a, m, rfl, rfl, by show (0 : Int) < m; omega, ?_⟩
      refine ⟨.ref p, rfl, p, _, 0, .int a, rfl, rfl, hL, rfl, .int m, rfl, a, m, rfl, rfl, ⟨by show (0 : Int) < m; omega, h3⟩, ?_⟩
      refine ⟨.ref p, rfl, p, _, 0, 0, rfl, rfl, hp, rfl, ?_⟩
      refine ⟨.int (a % m), rfl, ?_⟩
      refine fin (a / m) b c (a % m) ?_ (Int.emod_nonneg _ (by omega)) (Int.emod_lt_of_pos _ (by omega)) _ (fun q hq => upd_ne hq) upd_same
      refine ⟨Int.ediv_nonneg hw.a0 (by omega), ?_, hw.b0, hw.b1, hw.c0, by have := hw.c1; omega⟩
      refine Nat.lt_of_le_of_lt ?_ hw.a1
      have h5 : a / m ≤ a := Int.ediv_le_self m hw.a0
      have h6 : 0 ≤ a / m := Int.ediv_nonneg hw.a0 (by omega)
      omega
    · refine ⟨.ref p, rfl, p, _, 2, .int c, rfl, rfl, hL, rfl, c, 1, rfl, rfl, ?_⟩
      refine ⟨.ref p, rfl, p, _, 2, 2, rfl, rfl, hp, rfl, ?_⟩
      have hL2 : SqL K (upd H p (.lst [.int a, .int b, .int (c + 1)])) p [.int a, .int b, .int (c + 1)] := .inl (.inl upd_same)
      have c0 := hw.c0
      have c1 := hw.c1
      have b0 := hw.b0
      have b1 := hw.b1
      have big : ∀ z : Int, 0 ≤ z → z < 2 ^ 200 → z.natAbs < 2 ^ 10000 := fun z z0 z1 => by
        have : z.natAbs < 2 ^ 200 := by omega
        exact Nat.lt_of_lt_of_le this (Nat.pow_le_pow_right (by decide) (by decide))
      have lg : ∀ z : Int, 0 ≤ z → z < 2 ^ 200 → z.natAbs.log2 < 400 := fun z z0 z1 => by
        by_cases hz : z.natAbs = 0
        · rw [hz]; decide
        · refine (Nat.log2_lt hz).mpr ?_
          have : z.natAbs < 2 ^ 200 := by omega
          exact Nat.lt_of_lt_of_le this (Nat.pow_le_pow_right (by decide) (by decide))
      refine ⟨.ref p, rfl, p, _, 1, .int b, rfl, rfl, hL2, rfl, .ref p, rfl, p, _, 2, .int (c + 1), rfl, rfl, hL2, rfl, _, _, rfl, rfl, ?_, _, _, rfl, rfl, _, rfl, _, _, rfl, rfl, ⟨by decide, by decide, ?_⟩, _, _, rfl, rfl, ⟨by decide, by decide, big 10 (by decide) (by decide)⟩, _, _, rfl, rfl, _, _, rfl, rfl, ?_, ?_⟩
      · show (961748941 : Int).natAbs.log2 + (c + 1).natAbs.log2 < 1000000
        have q1 : (961748941 : Int).natAbs.log2 = 29 := by decide +kernel
        have q2 := lg (c + 1) (by omega) (by omega)
        rw [q1]; omega
      · exact big _ (by omega) (by omega)
      · show (0 : Int) < 10 ^ Int.toNat 41 + 109
        decide +kernel
      · have y0 : 0 ≤ (b + 961748941 * (c + 1)) ^ Int.toNat 3 % (10 ^ Int.toNat 41 + 109) := Int.emod_nonneg _ (by decide +kernel)
        have y1 : (b + 961748941 * (c + 1)) ^ Int.toNat 3 % (10 ^ Int.toNat 41 + 109) < 2 ^ 150 := Int.lt_trans (Int.emod_lt_of_pos _ (by decide +kernel)) (by decide +kernel)
        show gName 3 (.int ((b + 961748941 * (c + 1)) ^ Int.toNat 3 % (10 ^ Int.toNat 41 + 109))) _ _ _
        generalize (b + 961748941 * (c + 1)) ^ Int.toNat 3 % (10 ^ Int.toNat 41 + 109) = y at y0 y1 ⊢
        refine ⟨.int y, rfl, .ref p, rfl, p, _, 2, .int (c + 1), rfl, rfl, hL2, rfl, _, _, rfl, rfl, ?_, _, _, rfl, rfl, _, rfl, _, _, rfl, rfl, ⟨by decide, by decide, ?_⟩, _, _, rfl, rfl, ⟨by decide, by decide, ?_⟩, _, _, rfl, rfl, _, _, rfl, rfl, ?_, ?_⟩
        · show (217645199 : Int).natAbs.log2 + (c + 1).natAbs.log2 < 1000000
          have q1 : (217645199 : Int).natAbs.log2 = 27 := by decide +kernel
          have q2 := lg (c + 1) (by omega) (by omega)
          rw [q1]; omega
        · exact big _ (by omega) (by omega)
        · show (10 : Int).natAbs < 2 ^ 10000
          exact big 10 (by decide) (by decide)
        · show (0 : Int) < 10 ^ Int.toNat 39 + 3
          decide +kernel
        · show gName 3 (.int ((y + 217645199 * (c + 1)) ^ Int.toNat 3 % (10 ^ Int.toNat 39 + 3))) _ _ _
          generalize (y + 217645199 * (c + 1)) ^ Int.toNat 3 % (10 ^ Int.toNat 39 + 3) = z
          refine ⟨.int z, rfl, _, _, rfl, rfl, ⟨by decide, by decide +kernel⟩, _, rfl, .int m, rfl, _, _, rfl, rfl, by show (0 : Int) < m; omega, ?_⟩
          exact fin a b (c + 1) _ ⟨hw.a0, hw.a1, b0, b1, by omega, by omega⟩ (Int.emod_nonneg _ (by omega)) (Int.emod_lt_of_pos _ (by omega)) _ (fun q hq => upd_ne hq) upd_same
theorem ok_well {f : Addr} {fd : FuncData} (F : Fun K "_law_well" "_law_well" s__law_well f fd) (mi : mg "int" = none) (ml : mg "len" = none) (mm : mg "max" = none) (ma : mg "abs" = none) : FnG P w K mg base 1 f fd ["script", "at"] (spWell K) := by
  refine fun_okG F sc__law_well (fun vs H Q E h => ?_) (fun cdv A outer s H vs Q E hr h => ⟨_, pss_cons (ps_set (i := 2) sc__law_well.nd rfl (.inl rfl) (pe_ifExp (pt_cmpR op_lt (pv 1) (pe_callB call_len_seq (by rfl) ml (by decide +kernel) (pa_cons (pv 0) pa_nil)) (nomark _)) (pe_ix ix_list (pv 0) (pv 1) (fun _ _ => rfl)) pe_int))
      (pss_one (ps_ret (pe_lst (pa_cons (pe_callB (call_max2 rfl) (by rfl) mm (by decide +kernel) (pa_cons pe_int (pa_cons (pe_op op_sub (pe_callB call_abs (by rfl) ma (by decide +kernel) (pa_cons (pv 2) pa_nil)) (pe_op op_powW pe_int pe_int)) pa_nil)))
        (pa_cons (pe_op op_add (pe_op op_add (pe_op op_mulW (pe_op op_mod (pe_callTy cr_int (by rfl) mi (by decide +kernel) (pa_cons (pv 2) pa_nil)) (pe_op op_add (pe_op op_powW pe_int pe_int) pe_int)) pe_int) (pe_op op_mulW pe_int (pv 1))) pe_int) (pa_cons pe_int pa_nil)))))), ?_⟩)
  · obtain ⟨a, ns, k, rfl, _⟩ := h
    rfl
  · obtain ⟨a, ns, k, rfl, hS, hl, hb, k0, k1, q⟩ := h
    have lg : ∀ z : Int, 0 ≤ z → z < 2 ^ 200 → z.natAbs.log2 < 400 := fun z z0 z1 => by
      by_cases hz : z.natAbs = 0
      · rw [hz]; decide
      · refine (Nat.log2_lt hz).mpr ?_
        have : z.natAbs < 2 ^ 200 := by omega
        exact Nat.lt_of_lt_of_le this (Nat.pow_le_pow_right (by decide) (by decide))
    have wide : ∀ {z : Int}, Builtin.Int.intBits z ≤ 1048576 → z.natAbs < 2 ^ 1100000 := fun {z} hz => by
      unfold Builtin.Int.intBits at hz
      by_cases h0 : z.natAbs = 0
      · rw [h0]; exact Nat.pow_pos (by decide)
      · have h00 : (z == 0) = false := by
          have : z ≠ 0 := by omega
          simpa using this
        rw [h00] at hz
        have h1 : z.natAbs.log2 + 1 ≤ 1048576 := hz
        have := (Nat.log2_lt h0 (k := 1048576)).mp (by omega)
        exact Nat.lt_of_lt_of_le this (Nat.pow_le_pow_right (by decide) (by decide))
    have big10 : (10 : Int).natAbs < 2 ^ 10000 := Nat.lt_of_lt_of_le (show (10 : Int).natAbs < 2 ^ 200 by decide +kernel) (Nat.pow_le_pow_right (by decide) (by decide))
    refine ⟨.int k, rfl, .ref a, rfl, a, _, rfl, .inl hS, k, (ns.length : Int), rfl, by simp, decide (k < ns.length), rfl, ?_⟩
    refine ite2 (fun hk => ?_) (fun hk => ?_)
    · have hk : k < ns.length := of_decide_eq_true hk
      have hb2 := hb (ns[k.toNat]'(by omega)) (List.getElem_mem _)
      have hg : (ns.map V.int)[k.toNat]? = some (.int (ns[k.toNat]'(by omega))) := by
        rw [List.getElem?_map, List.getElem?_eq_getElem (by omega)]
        rfl
      generalize ns[k.toNat]'(by omega) = z at hb2 hg
      have hz := hb2
      refine ⟨.ref a, rfl, .int k, rfl, a, _, k, .int z, rfl, rfl, hS, ?_, ?_⟩
      · have e := atI_nat hg
        rwa [Int.toNat_of_nonneg k0] at e
      refine ⟨.int z, rfl, z, rfl, _, _, rfl, rfl, ⟨by decide, by decide, big10⟩, _, _, rfl, rfl, _, _, rfl, ?_⟩
      refine ⟨.int z, rfl, z, rfl, _, _, rfl, rfl, ⟨by decide, by decide, big10⟩, _, _, rfl, rfl, _, _, rfl, rfl, by show (0 : Int) < 10 ^ Int.toNat 37 + 151; decide +kernel, _, _, rfl, rfl, ?_, .int k, rfl, _, _, rfl, rfl, ?_, _, _, rfl, rfl, _, _, rfl, rfl, by show 3 ≤ sizeLine; decide, fun p hp => ?_⟩
      · show (z % (10 ^ Int.toNat 37 + 151)).natAbs.log2 + (103 : Int).natAbs.log2 < 1000000
        have q1 : (103 : Int).natAbs.log2 = 6 := by decide +kernel
        have q2 := lg (z % (10 ^ Int.toNat 37 + 151)) (Int.emod_nonneg _ (by decide +kernel)) (Int.lt_trans (Int.emod_lt_of_pos _ (by decide +kernel)) (by decide +kernel))
        rw [q1]; omega
      · show (71 : Int).natAbs.log2 + k.natAbs.log2 < 1000000
        have q1 : (71 : Int).natAbs.log2 = 6 := by decide +kernel
        have q2 := lg k k0 (by omega)
        rw [q1]; omega
      · refine q _ p _ _ _ (fun b o e => (upd_ne (ne_of_none e hp)).trans e) hp upd_same ?_
        have m0 : 0 ≤ z % (10 ^ Int.toNat 37 + 151) := Int.emod_nonneg _ (by decide +kernel)
        have m1 : z % (10 ^ Int.toNat 37 + 151) < 2 ^ 130 := Int.lt_trans (Int.emod_lt_of_pos _ (by decide +kernel)) (by decide +kernel)
        have e18 : (10 : Int) ^ Int.toNat 18 = 1000000000000000000 := by decide +kernel
        refine ⟨?_, ?_, ?_, ?_, by decide, by decide⟩
        · split <;> omega
        · refine Nat.lt_of_le_of_lt ?_ (wide hz)
          rw [e18]
          split <;> split at * <;> omega
        · omega
        · omega
    · have hz : Builtin.Int.intBits 0 ≤ 1048576 := by decide
      show gName 2 (.int 0) _ _ _
      refine ⟨.int 0, rfl, (0 : Int), rfl, _, _, rfl, rfl, ⟨by decide, by decide, big10⟩, _, _, rfl, rfl, _, _, rfl, ?_⟩
      refine ⟨.int 0, rfl, (0 : Int), rfl, _, _, rfl, rfl, ⟨by decide, by decide, big10⟩, _, _, rfl, rfl, _, _, rfl, rfl, by show (0 : Int) < 10 ^ Int.toNat 37 + 151; decide +kernel, _, _, rfl, rfl, ?_, .int k, rfl, _, _, rfl, rfl, ?_, _, _, rfl, rfl, _, _, rfl, rfl, by show 3 ≤ sizeLine; decide, fun p hp => ?_⟩
      · show ((0 : Int) % (10 ^ Int.toNat 37 + 151)).natAbs.log2 + (103 : Int).natAbs.log2 < 1000000
        have q1 : (103 : Int).natAbs.log2 = 6 := by decide +kernel
        have q2 := lg ((0 : Int) % (10 ^ Int.toNat 37 + 151)) (Int.emod_nonneg _ (by decide +kernel)) (Int.lt_trans (Int.emod_lt_of_pos _ (by decide +kernel)) (by decide +kernel))
        rw [q1]; omega
      · show (71 : Int).natAbs.log2 + k.natAbs.log2 < 1000000
        have q1 : (71 : Int).natAbs.log2 = 6 := by decide +kernel
        have q2 := lg k k0 (by omega)
        rw [q1]; omega
      · refine q _ p _ _ _ (fun b o e => (upd_ne (ne_of_none e hp)).trans e) hp upd_same ?_
        have m0 : 0 ≤ (0 : Int) % (10 ^ Int.toNat 37 + 151) := Int.emod_nonneg _ (by decide +kernel)
        have m1 : (0 : Int) % (10 ^ Int.toNat 37 + 151) < 2 ^ 130 := Int.lt_trans (Int.emod_lt_of_pos _ (by decide +kernel)) (by decide +kernel)
        have e18 : (10 : Int) ^ Int.toNat 18 = 1000000000000000000 := by decide +kernel
        refine ⟨?_, ?_, ?_, ?_, by decide, by decide⟩
        · split <;> omega
        · refine Nat.lt_of_le_of_lt ?_ (wide hz)
          rw [e18]
          split <;> split at * <;> omega
        · omega
        · omega
end
def fracD (t b : Int) : PyData := .tuple [.int (t / (Nat.gcd t.natAbs b.natAbs : Nat)), .int (b / (Nat.gcd t.natAbs b.natAbs : Nat))]
theorem gcd_pos {t b : Int} (h : 1 ≤ b) : (0 : Int) < (Nat.gcd t.natAbs b.natAbs : Nat) := by
  have := Nat.gcd_pos_of_pos_right t.natAbs (show 0 < b.natAbs by omega)
  omega
theorem sz_gcd {t b : Int} {k : Nat} (h : 1 ≤ b) (hb : sz k b) : sz k (Nat.gcd t.natAbs b.natAbs : Nat) := by
  refine sz_le hb ?_
  rw [Int.natAbs_natCast]
  exact Nat.gcd_le_right _ (by omega)
theorem div_gcd_pos {t b : Int} (h : 1 ≤ b) : 1 ≤ b / (Nat.gcd t.natAbs b.natAbs : Nat) := by
  have g0 := gcd_pos (t := t) h
  have hd : ((Nat.gcd t.natAbs b.natAbs : Nat) : Int) ∣ b := by
    have := Nat.gcd_dvd_right t.natAbs b.natAbs
    exact Int.ofNat_dvd_left.mpr this
  have := Int.ediv_pos_of_pos_of_dvd (show 0 < b by omega) (by omega) hd
  omega
def lineA (v a : Int) : Int := if v < 0 then -a else a
def lineV (v : Int) : Int := if v < 0 then -v else v
theorem int_repr {i : Int} (h : sz 200 i) : i.natAbs.log2 < 1920 ∧ (PyData.shown (.int i)).length ≤ 70 ∧ PyData.weight (.int i) ≤ 210 := by
  have lg := sz_log h
  refine ⟨by omega, ?_, ?_⟩
  · have e := int_text_length_le10 (a := i) (k := 69) (by decide) (Nat.lt_trans h (by decide))
    show (Str.ofString (toString i)).length ≤ 70
    rw [PySem.ofString_length]
    exact e
  · simp only [PyData.weight]
    split <;> omega
theorem repr_two {a b x y p q : Int} (za : sz 200 a) (zb : sz 200 b) (zx : sz 200 x) (zy : sz 200 y) (zp : sz 200 p) (zq : sz 200 q) : reprOk (.list [.tuple [.int a, .int b], .tuple [.int x, .int y, .int p, .int q]]) = true := by
  obtain ⟨a1, a2, a3⟩ := int_repr za
  obtain ⟨b1, b2, b3⟩ := int_repr zb
  obtain ⟨x1, x2, x3⟩ := int_repr zx
  obtain ⟨y1, y2, y3⟩ := int_repr zy
  obtain ⟨p1, p2, p3⟩ := int_repr zp
  obtain ⟨q1, q2, q3⟩ := int_repr zq
  have hl : (PyData.list [.tuple [.int a, .int b], .tuple [.int x, .int y, .int p, .int q]]).leavesShort 70 = true := by
    simp only [PyData.leavesShort, PyData.leavesShortAll, decide_eq_true a2, decide_eq_true b2, decide_eq_true x2, decide_eq_true y2, decide_eq_true p2, decide_eq_true q2, Bool.and_true]
  have hw : (PyData.list [.tuple [.int a, .int b], .tuple [.int x, .int y, .int p, .int q]]).weight ≤ 2000 := by
    have e : ∀ z : Int, PyData.weight (.int z) = PyData.weight (.int z) := fun _ => rfl
    generalize ha : PyData.weight (.int a) = wa at *
    generalize hb : PyData.weight (.int b) = wb at *
    generalize hx : PyData.weight (.int x) = wx at *
    generalize hy : PyData.weight (.int y) = wy at *
    generalize hp : PyData.weight (.int p) = wp at *
    generalize hq : PyData.weight (.int q) = wq at *
    have w : (PyData.list [.tuple [.int a, .int b], .tuple [.int x, .int y, .int p, .int q]]).weight = PyData.weightAll [.int a, .int b] + 1 + (PyData.weightAll [.int x, .int y, .int p, .int q] + 1 + 0) := by rw [PyData.weight, PyData.weightAll, PyData.weightAll, PyData.weightAll, PyData.weight, PyData.weight]
    rw [w]
    simp only [PyData.weightAll, ha, hb, hx, hy, hp, hq]
    omega
  have h := PyData.shown_le 70 (by decide) _ hl
  have hs : (PyData.list [.tuple [.int a, .int b], .tuple [.int x, .int y, .int p, .int q]]).shown.length ≤ 1000000 := by omega
  have hd : (PyData.list [.tuple [.int a, .int b], .tuple [.int x, .int y, .int p, .int q]]).depth ≤ 64 := by simp [PyData.depth, PyData.depthAll]
  have hsh : (PyData.list [.tuple [.int a, .int b], .tuple [.int x, .int y, .int p, .int q]]).showable = true := by
    simp only [PyData.showable, PyData.showableAll, decide_eq_true a1, decide_eq_true b1, decide_eq_true x1, decide_eq_true y1, decide_eq_true p1, decide_eq_true q1, Bool.and_true]
  unfold reprOk
  rw [decide_eq_true hs, decide_eq_true hd, hsh]
  rfl
theorem repr_three {a b x y p q u v r s : Int} (za : sz 200 a) (zb : sz 200 b) (zx : sz 200 x) (zy : sz 200 y) (zp : sz 200 p) (zq : sz 200 q) (zu : sz 200 u) (zv : sz 200 v) (zr : sz 200 r) (zs : sz 200 s) : reprOk (.list [.tuple [.int a, .int b], .tuple [.int x, .int y, .int p, .int q], .tuple [.int u, .int v, .int r, .int s]]) = true := by
  obtain ⟨a1, a2, a3⟩ := int_repr za
  obtain ⟨b1, b2, b3⟩ := int_repr zb
  obtain ⟨x1, x2, x3⟩ := int_repr zx
  obtain ⟨y1, y2, y3⟩ := int_repr zy
  obtain ⟨p1, p2, p3⟩ := int_repr zp
  obtain ⟨q1, q2, q3⟩ := int_repr zq
  obtain ⟨u1, u2, u3⟩ := int_repr zu
  obtain ⟨v1, v2, v3⟩ := int_repr zv
  obtain ⟨r1, r2, r3⟩ := int_repr zr
  obtain ⟨s1, s2, s3⟩ := int_repr zs
  have hl : (PyData.list [.tuple [.int a, .int b], .tuple [.int x, .int y, .int p, .int q], .tuple [.int u, .int v, .int r, .int s]]).leavesShort 70 = true := by
    simp only [PyData.leavesShort, PyData.leavesShortAll, decide_eq_true a2, decide_eq_true b2, decide_eq_true x2, decide_eq_true y2, decide_eq_true p2, decide_eq_true q2, decide_eq_true u2, decide_eq_true v2, decide_eq_true r2, decide_eq_true s2, Bool.and_true]
  have hw : (PyData.list [.tuple [.int a, .int b], .tuple [.int x, .int y, .int p, .int q], .tuple [.int u, .int v, .int r, .int s]]).weight ≤ 3000 := by
    have e : ∀ z : Int, PyData.weight (.int z) = PyData.weight (.int z) := fun _ => rfl
    generalize ha : PyData.weight (.int a) = wa at *
    generalize hb : PyData.weight (.int b) = wb at *
    generalize hx : PyData.weight (.int x) = wx at *
    generalize hy : PyData.weight (.int y) = wy at *
    generalize hp : PyData.weight (.int p) = wp at *
    generalize hq : PyData.weight (.int q) = wq at *
    generalize hu : PyData.weight (.int u) = wu at *
    generalize hv : PyData.weight (.int v) = wv at *
    generalize hr : PyData.weight (.int r) = wr at *
    generalize hs : PyData.weight (.int s) = ws at *
    have w : (PyData.list [.tuple [.int a, .int b], .tuple [.int x, .int y, .int p, .int q], .tuple [.int u, .int v, .int r, .int s]]).weight = PyData.weightAll [.int a, .int b] + 1 + (PyData.weightAll [.int x, .int y, .int p, .int q] + 1 + (PyData.weightAll [.int u, .int v, .int r, .int s] + 1 + 0)) := by rw [PyData.weight, PyData.weightAll, PyData.weightAll, PyData.weightAll, PyData.weightAll, PyData.weight, PyData.weight, PyData.weight]
    rw [w]
    simp only [PyData.weightAll, ha, hb, hx, hy, hp, hq, hu, hv, hr, hs]
    omega
  have h := PyData.shown_le 70 (by decide) _ hl
  have hs' : (PyData.list [.tuple [.int a, .int b], .tuple [.int x, .int y, .int p, .int q], .tuple [.int u, .int v, .int r, .int s]]).shown.length ≤ 1000000 := by omega
  have hd : (PyData.list [.tuple [.int a, .int b], .tuple [.int x, .int y, .int p, .int q], .tuple [.int u, .int v, .int r, .int s]]).depth ≤ 64 := by simp [PyData.depth, PyData.depthAll]
  have hsh : (PyData.list [.tuple [.int a, .int b], .tuple [.int x, .int y, .int p, .int q], .tuple [.int u, .int v, .int r, .int s]]).showable = true := by
    simp only [PyData.showable, PyData.showableAll, decide_eq_true a1, decide_eq_true b1, decide_eq_true x1, decide_eq_true y1, decide_eq_true p1, decide_eq_true q1, decide_eq_true u1, decide_eq_true v1, decide_eq_true r1, decide_eq_true s1, Bool.and_true]
  unfold reprOk
  rw [decide_eq_true hs', decide_eq_true hd, hsh]
  rfl
theorem gcd_dvd_l (t m : Int) : ((Nat.gcd t.natAbs m.natAbs : Nat) : Int) ∣ t := Int.ofNat_dvd_left.mpr (Nat.gcd_dvd_left _ _)
theorem gcd_dvd_r (t m : Int) : ((Nat.gcd t.natAbs m.natAbs : Nat) : Int) ∣ m := Int.ofNat_dvd_left.mpr (Nat.gcd_dvd_right _ _)
theorem fracD_inj {t1 t2 b : Int} (hb : 1 ≤ b) (h : fracD t1 b = fracD t2 b) : t1 = t2 := by
  unfold fracD at h
  simp only [PyData.tuple.injEq, List.cons.injEq, PyData.int.injEq, and_true] at h
  obtain ⟨h1, h2⟩ := h
  have g1 := gcd_pos (t := t1) hb
  have g2 := gcd_pos (t := t2) hb
  have a1 := Int.ediv_mul_cancel (gcd_dvd_l t1 b)
  have a2 := Int.ediv_mul_cancel (gcd_dvd_r t1 b)
  have b1 := Int.ediv_mul_cancel (gcd_dvd_l t2 b)
  have b2 := Int.ediv_mul_cancel (gcd_dvd_r t2 b)
  generalize ((Nat.gcd t1.natAbs b.natAbs : Nat) : Int) = u at *
  generalize ((Nat.gcd t2.natAbs b.natAbs : Nat) : Int) = v at *
  have hd : 0 < b / u := by
    by_cases c : 0 < b / u
    · exact c
    · have : b / u * u ≤ 0 * u := Int.mul_le_mul_of_nonneg_right (by omega) (by omega)
      omega
  have e : u = v := by
    rw [← h2] at b2
    have : b / u * u = b / u * v := by omega
    exact Int.eq_of_mul_eq_mul_left (by omega) this
  rw [← a1, ← b1, h1, e]
theorem low_facts {t m : Int} (hm : 1 ≤ m) : (t / (Nat.gcd t.natAbs m.natAbs : Nat)) * m = t * (m / (Nat.gcd t.natAbs m.natAbs : Nat)) ∧ 1 ≤ m / (Nat.gcd t.natAbs m.natAbs : Nat) ∧ Nat.gcd (t / (Nat.gcd t.natAbs m.natAbs : Nat)).natAbs (m / (Nat.gcd t.natAbs m.natAbs : Nat)).natAbs = 1 := by
  have g0 := gcd_pos (t := t) hm
  have e1 := Int.ediv_mul_cancel (gcd_dvd_l t m)
  have e2 := Int.ediv_mul_cancel (gcd_dvd_r t m)
  refine ⟨?_, div_gcd_pos hm, ?_⟩
  · generalize t / (Nat.gcd t.natAbs m.natAbs : Nat) = T at *
    generalize m / (Nat.gcd t.natAbs m.natAbs : Nat) = B at *
    generalize ((Nat.gcd t.natAbs m.natAbs : Nat) : Int) = g at *
    rw [← e1, ← e2]
    simp only [Int.mul_assoc, Int.mul_comm, Int.mul_left_comm]
  · have n1 : (t / (Nat.gcd t.natAbs m.natAbs : Nat)).natAbs = t.natAbs / Nat.gcd t.natAbs m.natAbs := by
      rw [Int.natAbs_ediv_of_dvd (gcd_dvd_l t m), Int.natAbs_natCast]
    have n2 : (m / (Nat.gcd t.natAbs m.natAbs : Nat)).natAbs = m.natAbs / Nat.gcd t.natAbs m.natAbs := by
      rw [Int.natAbs_ediv_of_dvd (gcd_dvd_r t m), Int.natAbs_natCast]
    rw [n1, n2]
    exact Nat.gcd_div_gcd_div_gcd_of_pos_right (show 0 < m.natAbs by omega)
theorem low_unique {X B r b : Int} (hB : 1 ≤ B) (hb : 1 ≤ b) (hc : Nat.gcd r.natAbs b.natAbs = 1) (e : r * B = X * b) : fracD X B = .tuple [.int r, .int b] := by
  have hd : b.natAbs ∣ B.natAbs := by
    have h1 : b.natAbs ∣ r.natAbs * B.natAbs := by
      rw [← Int.natAbs_mul, e, Int.natAbs_mul]
      exact Nat.dvd_mul_left _ _
    refine Nat.Coprime.dvd_of_dvd_mul_left (k := b.natAbs) (m := r.natAbs) (n := B.natAbs) ?_ h1
    rw [Nat.Coprime, Nat.gcd_comm]
    exact hc
  obtain ⟨c, hcB⟩ := Int.natAbs_dvd_natAbs.mp hd
  have hc0 : 0 < c := by
    by_cases h : 0 < c
    · exact h
    · have : b * c ≤ b * 0 := Int.mul_le_mul_of_nonneg_left (by omega) (by omega)
      omega
  have eX : X = r * c := by
    rw [hcB] at e
    have e2 : (r * c) * b = X * b := by rw [← e]; simp only [Int.mul_assoc, Int.mul_comm, Int.mul_left_comm]
    exact (Int.eq_of_mul_eq_mul_right (by omega) e2).symm
  have hg : Nat.gcd X.natAbs B.natAbs = c.natAbs := by
    rw [eX, hcB, Int.natAbs_mul, Int.natAbs_mul, Nat.gcd_mul_right, hc, Nat.one_mul]
  have ec : ((c.natAbs : Nat) : Int) = c := by omega
  unfold fracD
  rw [hg, ec, eX, hcB, Int.mul_ediv_cancel _ (by omega), Int.mul_ediv_cancel _ (by omega)]
def foldI (s t b : Int) : Int := if t % (2 * s * b) ≤ s * b then t % (2 * s * b) else 2 * s * b - t % (2 * s * b)
theorem pos_of_mul {c x : Int} (hc : 0 < c) (h : 0 < c * x) : 0 < x := by
  by_cases k : 0 < x
  · exact k
  · have : c * x ≤ c * 0 := Int.mul_le_mul_of_nonneg_left (by omega) (by omega)
    omega
theorem nonneg_of_mul {c x : Int} (hc : 0 < c) (h : 0 ≤ c * x) : 0 ≤ x := by
  by_cases k : 0 ≤ x
  · exact k
  · have : c * x ≤ c * (-1) := Int.mul_le_mul_of_nonneg_left (by omega) (by omega)
    omega
theorem fracD_ratio {t1 b1 t2 b2 : Int} (h1 : 1 ≤ b1) (h2 : 1 ≤ b2) (e : t1 * b2 = t2 * b1) : fracD t1 b1 = fracD t2 b2 := by
  obtain ⟨e2, p2, c2⟩ := low_facts (t := t2) h2
  have q : fracD t2 b2 = .tuple [.int (t2 / (Nat.gcd t2.natAbs b2.natAbs : Nat)), .int (b2 / (Nat.gcd t2.natAbs b2.natAbs : Nat))] := rfl
  rw [q]
  refine low_unique h1 p2 c2 ?_
  refine Int.eq_of_mul_eq_mul_right (show b2 ≠ 0 by omega) ?_
  generalize t2 / (Nat.gcd t2.natAbs b2.natAbs : Nat) = r at *
  generalize b2 / (Nat.gcd t2.natAbs b2.natAbs : Nat) = d at *
  grind
def lowP (t b : Int) : Int × Int := (t / (Nat.gcd t.natAbs b.natAbs : Nat), b / (Nat.gcd t.natAbs b.natAbs : Nat))
theorem lowP_of {t b n m : Int} (h : fracD t b = .tuple [.int n, .int m]) : lowP t b = (n, m) := by
  unfold fracD at h
  simp only [PyData.tuple.injEq, List.cons.injEq, PyData.int.injEq, and_true] at h
  unfold lowP
  rw [h.1, h.2]
theorem opEq_tt {a b c e : Int} : opEq (.tuple [.int a, .int b]) (.tuple [.int c, .int e]) = some (.bool (decide (a = c) && decide (b = e))) := by
  unfold opEq SeqAt.shaped
  simp [PyData.canLay0, PyData.canLayAll0, PyData.depth, PyData.depthAll, PyData.eqv, PyData.eqvAll]
  by_cases h : a = c <;> by_cases h2 : b = e <;> simp [h, h2]
theorem opEq_nt {c e : Int} : opEq .none (.tuple [.int c, .int e]) = some (.bool false) := by
  unfold opEq SeqAt.shaped
  simp [PyData.canLay0, PyData.canLayAll0, PyData.depth, PyData.depthAll, PyData.eqv, PyData.eqvAll]
theorem fracD_one (x : Int) : fracD x 1 = .tuple [.int x, .int 1] := by
  unfold fracD
  have : Nat.gcd x.natAbs (1 : Int).natAbs = 1 := Nat.gcd_one_right _
  rw [this]
  simp
theorem opAdd_s {x y : Str} (h : x.length + y.length ≤ 100000) : opAdd (.str x) (.str y) = some (.str (x ++ y)) := if_pos h
theorem lowP_D (t b : Int) : fracD t b = .tuple [.int (lowP t b).1, .int (lowP t b).2] := rfl
theorem sz_lowP {t b : Int} {k l : Nat} (hb : 1 ≤ b) (zt : sz k t) (zb : sz l b) : sz k (lowP t b).1 ∧ sz l (lowP t b).2 := ⟨sz_div zt (gcd_pos hb), sz_div zb (gcd_pos hb)⟩
def absI (i : Int) : Int := if i < 0 then -i else i
theorem absI_pos {p : Int} (h : p ≠ 0) : 1 ≤ absI p := by unfold absI; split <;> omega
theorem sz_absI {k : Nat} {p : Int} (h : sz k p) : sz k (absI p) := by
  unfold absI
  split
  · exact sz_neg h
  · exact h
def passed (a v f st t u : Int) : Int := if a + v * t / u < f then 0 else (a + v * t / u - f) / st + 1
structure Mk where
  s : Int
  a : Int
  v : Int
  f : Int
  st : Int
def Mk.d (m : Mk) : PyData := .tuple [.tuple [.int m.s, .int m.a, .int m.v], .int m.f, .int m.st]
def Mk.pa (m : Mk) (t u : Int) : Int := passed m.a m.v m.f m.st t u
def Mk.ok (m : Mk) : Prop := 1 ≤ m.st ∧ sz 8000 m.v ∧ sz 8000 m.st
theorem lowP_ratio {t1 b1 t2 b2 : Int} (h1 : 1 ≤ b1) (h2 : 1 ≤ b2) (e : t1 * b2 = t2 * b1) : lowP t1 b1 = lowP t2 b2 := by
  have h := fracD_ratio h1 h2 e
  have h' : fracD t1 b1 = .tuple [.int (lowP t2 b2).1, .int (lowP t2 b2).2] := h
  exact (lowP_of h').trans rfl
theorem lowP_facts {t b : Int} (h : 1 ≤ b) : (lowP t b).1 * b = t * (lowP t b).2 ∧ 1 ≤ (lowP t b).2 ∧ Nat.gcd (lowP t b).1.natAbs (lowP t b).2.natAbs = 1 := low_facts h
theorem str_nil (x : Str) : x ++ ("" : Str) = x := by
  obtain ⟨⟨l⟩⟩ := x
  have e : (Str.ofString "").cps = #[] := by decide +kernel
  show Str.mk _ = _
  rw [e]
  simp
/-- sizes of a table or a fraction, of a shot -/
def szH (k : Nat) : PyData → Prop
  | .tuple [.int a, .int b] => sz k a ∧ sz k b
  | .tuple [.int a, .int b, .int c, .int d] => sz k a ∧ sz k b ∧ sz k c ∧ sz k d
  | _ => True
theorem lineV_nonneg (v : Int) : 0 ≤ lineV v := by unfold lineV; split <;> omega
def minI : List Int → Option Int
  | [] => none
  | n :: ns => some (ns.foldl min n)
def kSome : PyData → Option PyData
  | .none => none
  | d => some d
theorem gcd_mod2 (m a : Int) : Nat.gcd m.natAbs (a % m).natAbs = Nat.gcd m.natAbs a.natAbs := by
  have e := Int.emod_add_mul_ediv a m
  refine Nat.dvd_antisymm (Nat.dvd_gcd (Nat.gcd_dvd_left _ _) ?_) (Nat.dvd_gcd (Nat.gcd_dvd_left _ _) ?_)
  · refine Int.ofNat_dvd_left.mp ?_
    have d := Int.dvd_add (gcd_dvd_r m (a % m)) (Int.dvd_trans (gcd_dvd_l m (a % m)) (Int.dvd_mul_right m (a / m)))
    rw [e] at d
    exact d
  · refine Int.ofNat_dvd_left.mp ?_
    rw [show a % m = a - m * (a / m) by omega]
    exact Int.dvd_sub (gcd_dvd_r m a) (Int.dvd_trans (gcd_dvd_l m a) (Int.dvd_mul_right _ _))
def agreeR (e g w : Int) : Int := (if 0 < w then g else -g) % (2 * e)
def oT : Option (Int × Int) → PyData
  | none => .none
  | some t => .tuple [.int t.1, .int t.2]
def szO (k : Nat) (o : Option (Int × Int)) : Prop := ∀ t, o = some t → sz k t.1 ∧ sz k t.2
theorem fold_eq {s T1 T2 m : Int} (hs : 1 ≤ s) (hm : 1 ≤ m) (h : T2 % (2 * s * m) = T1 % (2 * s * m) ∨ T2 % (2 * s * m) = (-T1) % (2 * s * m)) : foldI s T2 m = foldI s T1 m := by
  have M0 : 0 < 2 * s * m := Int.mul_pos (by omega) (by omega)
  have e : 2 * s * m = 2 * (s * m) := Int.mul_assoc _ _ _
  unfold foldI
  rw [e] at M0 h ⊢
  have a0 := Int.emod_nonneg T1 (show 2 * (s * m) ≠ 0 by omega)
  have a1 := Int.emod_lt_of_pos T1 M0
  rcases h with h | h
  · rw [h]
  · by_cases hz : T1 % (2 * (s * m)) = 0
    · have : (-T1) % (2 * (s * m)) = 0 := Int.emod_eq_zero_of_dvd (Int.dvd_neg.mpr (Int.dvd_of_emod_eq_zero hz))
      rw [h, this, hz]
    · have h2 : (-T1) % (2 * (s * m)) = 2 * (s * m) - T1 % (2 * (s * m)) := by
        have e1 := Int.emod_add_mul_ediv T1 (2 * (s * m))
        rw [show -T1 = (2 * (s * m) - T1 % (2 * (s * m))) + (2 * (s * m)) * (-(T1 / (2 * (s * m))) - 1) by
          rw [Int.mul_sub, Int.mul_neg]; omega]
        rw [Int.add_mul_emod_self_left]
        exact Int.emod_eq_of_lt (by omega) (by omega)
      rw [h, h2]
      generalize T1 % (2 * (s * m)) = r at *
      generalize s * m = u at *
      by_cases c : r ≤ u
      · rw [if_pos c]
        by_cases c2 : 2 * u - r ≤ u
        · rw [if_pos c2]; omega
        · rw [if_neg c2]; omega
      · rw [if_neg c, if_pos (by omega)]
/-- what folds alike is alike or against one another -/
theorem fold_inj {s T1 T2 m : Int} (hs : 1 ≤ s) (hm : 1 ≤ m) (h : foldI s T1 m = foldI s T2 m) : (2 * s * m) ∣ (T1 - T2) ∨ (2 * s * m) ∣ (T1 + T2) := by
  have M0 : 0 < 2 * s * m := Int.mul_pos (by omega) (by omega)
  have e : 2 * s * m = 2 * (s * m) := Int.mul_assoc _ _ _
  unfold foldI at h
  rw [e] at M0 h ⊢
  have a1 := Int.emod_lt_of_pos T1 M0
  have b1 := Int.emod_lt_of_pos T2 M0
  have e1 := Int.emod_add_mul_ediv T1 (2 * (s * m))
  have e2 := Int.emod_add_mul_ediv T2 (2 * (s * m))
  have c : T1 % (2 * (s * m)) = T2 % (2 * (s * m)) ∨ T1 % (2 * (s * m)) + T2 % (2 * (s * m)) = 2 * (s * m) := by
    split at h <;> split at h <;> omega
  rcases c with c | c
  · left
    refine ⟨T1 / (2 * (s * m)) - T2 / (2 * (s * m)), ?_⟩
    rw [Int.mul_sub]; omega
  · right
    refine ⟨T1 / (2 * (s * m)) + T2 / (2 * (s * m)) + 1, ?_⟩
    rw [Int.mul_add, Int.mul_add]; omega
end LW
namespace LW
open PySem PySem.Spec PyProof.Rows L2 DL
/-- numbers, texts, none, and lists and tuples of these, not deep -/
def sd : Nat → PyData → Bool
  | 0, _ => false
  | j + 1, .list xs => decide (xs.length ≤ 1000) && xs.all (sd j)
  | j + 1, .tuple xs => decide (xs.length ≤ 1000) && xs.all (sd j)
  | _ + 1, .int _ => true
  | _ + 1, .none => true
  | _ + 1, .bool _ => true
  | _ + 1, .str z => PyData.strOk z
  | _ + 1, _ => false
theorem eqv_all {xs : List PyData} (h : ∀ x ∈ xs, PyData.eqv x x = true) : PyData.eqvAll xs xs = true := by
  induction xs with
  | nil => rfl
  | cons x xs ih => simp [PyData.eqvAll, h x (by simp), ih fun y hy => h y (by simp [hy])]
theorem lay_all {xs : List PyData} {j : Nat} (h : ∀ x ∈ xs, x.canLay0 = true ∧ x.depth ≤ j) : PyData.canLayAll0 xs = true ∧ PyData.depthAll xs ≤ j := by
  induction xs with
  | nil => exact ⟨rfl, by simp [PyData.depthAll]⟩
  | cons x xs ih =>
    have h1 := h x (by simp)
    have h2 := ih fun y hy => h y (by simp [hy])
    refine ⟨by simp [PyData.canLayAll0, h1.1, h2.1], ?_⟩
    simp only [PyData.depthAll]
    omega
theorem sd_ok : ∀ (j : Nat) (d : PyData), sd j d = true → d.canLay0 = true ∧ d.depth ≤ j ∧ PyData.eqv d d = true
  | 0, _, h => by cases h
  | j + 1, .list xs, h => by
    simp only [sd, Bool.and_eq_true, List.all_eq_true] at h
    have ih : ∀ x ∈ xs, _ := fun x hx => sd_ok j x (h.2 x hx)
    have a := lay_all (xs := xs) (j := j) fun x hx => ⟨(ih x hx).1, (ih x hx).2.1⟩
    refine ⟨by simp [PyData.canLay0, a.1], by simp only [PyData.depth]; omega, ?_⟩
    simp only [PyData.eqv]
    exact eqv_all fun x hx => (ih x hx).2.2
  | j + 1, .tuple xs, h => by
    simp only [sd, Bool.and_eq_true, List.all_eq_true] at h
    have ih : ∀ x ∈ xs, _ := fun x hx => sd_ok j x (h.2 x hx)
    have a := lay_all (xs := xs) (j := j) fun x hx => ⟨(ih x hx).1, (ih x hx).2.1⟩
    refine ⟨by simp [PyData.canLay0, a.1], by simp only [PyData.depth]; omega, ?_⟩
    simp only [PyData.eqv]
    exact eqv_all fun x hx => (ih x hx).2.2
  | j + 1, .int i, _ => ⟨rfl, by simp [PyData.depth], by simp [PyData.eqv]⟩
  | j + 1, .none, _ => ⟨rfl, by simp [PyData.depth], by simp [PyData.eqv]⟩
  | j + 1, .bool b, _ => ⟨rfl, by simp [PyData.depth], by simp [PyData.eqv]⟩
  | j + 1, .str z, h => ⟨by simpa [PyData.canLay0, sd] using h, by simp [PyData.depth], by simp [PyData.eqv]⟩
  | j + 1, .dict kvs, h => by simp [sd] at h
theorem opEq_self {j : Nat} {d : PyData} (hj : j ≤ 60) (h : sd j d = true) : opEq d d = some (.bool true) := by
  have k := sd_ok j d h
  have e : SeqAt.shaped d = true := by
    unfold SeqAt.shaped
    rw [k.1, decide_eq_true (by omega)]
    rfl
  unfold opEq
  rw [e, k.2.2]
  rfl
theorem opNe_self {j : Nat} {d : PyData} (hj : j ≤ 60) (h : sd j d = true) : opNe d d = some (.bool false) := by
  have k := sd_ok j d h
  have e : SeqAt.shaped d = true := by
    unfold SeqAt.shaped
    rw [k.1, decide_eq_true (by omega)]
    rfl
  unfold opNe
  rw [e, k.2.2]
  rfl
end LW
namespace LW
open PySem PySem.Spec PyProof.Rows L2 DL
def m__law_marks (W : WD) : MS :=
  mSeq (mAsg (mLst (mNil)) (mgName 1))
  (mSeq (mAsg (mOp2 opAdd (mVar 1) (mLst (mCons (mOp1 (bIsX "AlwaysTogether") (mVar 0)) (mCons (mOp1 (bIsX "BallsMeet") (mVar 0)) (mNil))))) (mgName 1))
  (mSeq (mAsg (mOp2 opAdd (mVar 1) (mLst (mCons (mOp1 (bIsX "InvalidBall") (mVar 0)) (mCons (mOp1 (bIsX "InvalidBox") (mVar 0)) (mNil))))) (mgName 1))
  (mSeq (mAsg (mOp2 opAdd (mVar 1) (mLst (mCons (mOp1 (bIsX "InvalidChange") (mVar 0)) (mCons (mOp1 (bIsX "InvalidCushion") (mVar 0)) (mNil))))) (mgName 1))
  (mSeq (mAsg (mOp2 opAdd (mVar 1) (mLst (mCons (mOp1 (bIsX "InvalidCushions") (mVar 0)) (mCons (mOp1 (bIsX "InvalidIndex") (mVar 0)) (mNil))))) (mgName 1))
  (mSeq (mAsg (mOp2 opAdd (mVar 1) (mLst (mCons (mOp1 (bIsX "InvalidNumber") (mVar 0)) (mCons (mOp1 (bIsX "InvalidPockets") (mVar 0)) (mNil))))) (mgName 1))
  (mSeq (mAsg (mOp2 opAdd (mVar 1) (mLst (mCons (mOp1 (bIsX "InvalidShot") (mVar 0)) (mCons (mOp1 (bIsX "InvalidShots") (mVar 0)) (mNil))))) (mgName 1))
  (mSeq (mAsg (mOp2 opAdd (mVar 1) (mLst (mCons (mOp1 (bIsX "InvalidSide") (mVar 0)) (mCons (mOp1 (bIsX "InvalidSpot") (mVar 0)) (mNil))))) (mgName 1))
  (mSeq (mAsg (mOp2 opAdd (mVar 1) (mLst (mCons (mOp1 (bIsX "InvalidStretch") (mVar 0)) (mCons (mOp1 (bIsX "InvalidStretches") (mVar 0)) (mNil))))) (mgName 1))
  (mSeq (mAsg (mOp2 opAdd (mVar 1) (mLst (mCons (mOp1 (bIsX "InvalidTable") (mVar 0)) (mCons (mOp1 (bIsX "InvalidText") (mVar 0)) (mNil))))) (mgName 1))
  (mSeq (mAsg (mOp2 opAdd (mVar 1) (mLst (mCons (mOp1 (bIsX "InvalidTime") (mVar 0)) (mCons (mOp1 (bIsX "NotABall") (mVar 0)) (mNil))))) (mgName 1))
  (mSeq (mAsg (mOp2 opAdd (mVar 1) (mLst (mCons (mOp1 (bIsX "NothingToUndo") (mVar 0)) (mCons (mOp1 (bIsX "OtherTable") (mVar 0)) (mNil))))) (mgName 1))
  (mSeq (mAsg (mOp2 opAdd (mVar 1) (mLst (mCons (mOp1 (bIsX "TooMany") (mVar 0)) (mNil)))) (mgName 1))
  (mRet (mrOf (mVar 1)))))))))))))))
def errs23 : List Str := ["AlwaysTogether", "BallsMeet", "InvalidBall", "InvalidBox", "InvalidChange", "InvalidCushion", "InvalidCushions", "InvalidIndex", "InvalidNumber", "InvalidPockets", "InvalidShot", "InvalidShots", "InvalidSide", "InvalidSpot", "InvalidStretch", "InvalidStretches", "InvalidTable", "InvalidText", "InvalidTime", "NotABall", "NothingToUndo", "OtherTable", "TooMany"]
def marksL (c : Str) : List PyData := errs23.map fun b => .bool (subX c b)
def D__law_marks : PSpec := fun ds Q _ => ∃ c es, ds = [errD c es] ∧ Q (.va (.list (marksL c)))
theorem len__law_marks : ∀ ds Q E, D__law_marks ds Q E → ds.length = 1 := by
  rintro _ Q E ⟨c, es, rfl, _⟩
  rfl
theorem isX_err {b c : Str} {es : List PyData} : bIsX b (errD c es) = some (.bool (subX c b)) := rfl
theorem rd__law_marks : ∀ ds Q E, D__law_marks ds Q E → m__law_marks (fun c _ => E c) (endP Q) (slots0 2 ds) := by
  rintro _ Q E ⟨c, es, rfl, q⟩
  unfold m__law_marks
  walk_at "rdn"
  repeat refine ⟨_, isX_err, ?_⟩
  exact q
section
variable {P : Program} {w : World} {K : PySem.W.Frag} {mg : Str → Option Value} {base : Heap} {CN : String → Option Addr}
theorem ok__law_marks {f : Addr} {fd : FuncData} (F : Fun K "_law_marks" "_law_marks" s__law_marks f fd) (g : G K mg CN)  : FnG P w K mg base 3 f fd ["one"] (spP K CN D__law_marks) := by
  have sc := sc__law_marks
  exact fun_okP (m := m__law_marks) F sc (by decide) len__law_marks (fun cdv A outer s H E C W hw hr tk =>
    (pds_cons (pds_asg (ps_asg (pd_lst pda_nil) (dg 1 sc.nd)))
    (pds_cons (pds_asg (ps_asg (pd_op or_add rl_add (dv 1) (pd_lst (pda_cons (pd_isXE g.b_isinstance g.kx_AlwaysTogether (dv 0)) (pda_cons (pd_isXE g.b_isinstance g.kx_BallsMeet (dv 0)) pda_nil)))) (dg 1 sc.nd)))
    (pds_cons (pds_asg (ps_asg (pd_op or_add rl_add (dv 1) (pd_lst (pda_cons (pd_isXE g.b_isinstance g.kx_InvalidBall (dv 0)) (pda_cons (pd_isXE g.b_isinstance g.kx_InvalidBox (dv 0)) pda_nil)))) (dg 1 sc.nd)))
    (pds_cons (pds_asg (ps_asg (pd_op or_add rl_add (dv 1) (pd_lst (pda_cons (pd_isXE g.b_isinstance g.kx_InvalidChange (dv 0)) (pda_cons (pd_isXE g.b_isinstance g.kx_InvalidCushion (dv 0)) pda_nil)))) (dg 1 sc.nd)))
    (pds_cons (pds_asg (ps_asg (pd_op or_add rl_add (dv 1) (pd_lst (pda_cons (pd_isXE g.b_isinstance g.kx_InvalidCushions (dv 0)) (pda_cons (pd_isXE g.b_isinstance g.kx_InvalidIndex (dv 0)) pda_nil)))) (dg 1 sc.nd)))
    (pds_cons (pds_asg (ps_asg (pd_op or_add rl_add (dv 1) (pd_lst (pda_cons (pd_isXE g.b_isinstance g.kx_InvalidNumber (dv 0)) (pda_cons (pd_isXE g.b_isinstance g.kx_InvalidPockets (dv 0)) pda_nil)))) (dg 1 sc.nd)))
    (pds_cons (pds_asg (ps_asg (pd_op or_add rl_add (dv 1) (pd_lst (pda_cons (pd_isXE g.b_isinstance g.kx_InvalidShot (dv 0)) (pda_cons (pd_isXE g.b_isinstance g.kx_InvalidShots (dv 0)) pda_nil)))) (dg 1 sc.nd)))
    (pds_cons (pds_asg (ps_asg (pd_op or_add rl_add (dv 1) (pd_lst (pda_cons (pd_isXE g.b_isinstance g.kx_InvalidSide (dv 0)) (pda_cons (pd_isXE g.b_isinstance g.kx_InvalidSpot (dv 0)) pda_nil)))) (dg 1 sc.nd)))
    (pds_cons (pds_asg (ps_asg (pd_op or_add rl_add (dv 1) (pd_lst (pda_cons (pd_isXE g.b_isinstance g.kx_InvalidStretch (dv 0)) (pda_cons (pd_isXE g.b_isinstance g.kx_InvalidStretches (dv 0)) pda_nil)))) (dg 1 sc.nd)))
    (pds_cons (pds_asg (ps_asg (pd_op or_add rl_add (dv 1) (pd_lst (pda_cons (pd_isXE g.b_isinstance g.kx_InvalidTable (dv 0)) (pda_cons (pd_isXE g.b_isinstance g.kx_InvalidText (dv 0)) pda_nil)))) (dg 1 sc.nd)))
    (pds_cons (pds_asg (ps_asg (pd_op or_add rl_add (dv 1) (pd_lst (pda_cons (pd_isXE g.b_isinstance g.kx_InvalidTime (dv 0)) (pda_cons (pd_isXE g.b_isinstance g.kx_NotABall (dv 0)) pda_nil)))) (dg 1 sc.nd)))
    (pds_cons (pds_asg (ps_asg (pd_op or_add rl_add (dv 1) (pd_lst (pda_cons (pd_isXE g.b_isinstance g.kx_NothingToUndo (dv 0)) (pda_cons (pd_isXE g.b_isinstance g.kx_OtherTable (dv 0)) pda_nil)))) (dg 1 sc.nd)))
    (pds_cons (pds_asg (ps_asg (pd_op or_add rl_add (dv 1) (pd_lst (pda_cons (pd_isXE g.b_isinstance g.kx_TooMany (dv 0)) pda_nil))) (dg 1 sc.nd)))
    (pds_one (pds_ret (pdr_of (dv 1)))))))))))))))))) rd__law_marks
end
end LW
namespace LW
open PySem PySem.Spec PyProof.Rows L2 DL
def m__law_made (W : WD) : MS :=
  mSeq (mAsg (mLst (mNil)) (mgName 0))
  (mSeq (mAsg (mOp2 opAdd (mVar 0) (mLst (mCons (mNewE0 "AlwaysTogether") (mCons (mNewEF "BallsMeet" "time" (mTup (mCons (mC (.int 3)) (mCons (mC (.int 2)) (mNil))))) (mCons (mNewE0 "InvalidBall") (mCons (mNewE0 "InvalidBox") (mNil))))))) (mgName 0))
  (mSeq (mAsg (mOp2 opAdd (mVar 0) (mLst (mCons (mNewE0 "InvalidChange") (mCons (mNewE0 "InvalidCushion") (mCons (mNewE0 "InvalidCushions") (mCons (mNewE0 "InvalidIndex") (mNil))))))) (mgName 0))
  (mSeq (mAsg (mOp2 opAdd (mVar 0) (mLst (mCons (mNewE0 "InvalidNumber") (mCons (mNewE0 "InvalidPockets") (mCons (mNewE0 "InvalidShot") (mCons (mNewE0 "InvalidShots") (mNil))))))) (mgName 0))
  (mSeq (mAsg (mOp2 opAdd (mVar 0) (mLst (mCons (mNewE0 "InvalidSide") (mCons (mNewE0 "InvalidSpot") (mCons (mNewE0 "InvalidStretch") (mCons (mNewE0 "InvalidStretches") (mNil))))))) (mgName 0))
  (mSeq (mAsg (mOp2 opAdd (mVar 0) (mLst (mCons (mNewE0 "InvalidTable") (mCons (mNewE0 "InvalidText") (mCons (mNewE0 "InvalidTime") (mCons (mNewE0 "NotABall") (mNil))))))) (mgName 0))
  (mSeq (mAsg (mOp2 opAdd (mVar 0) (mLst (mCons (mNewE0 "NothingToUndo") (mCons (mNewE0 "OtherTable") (mCons (mNewEFK "TooMany" "count" (mCons (mC (.int 7)) (mNil))) (mNil)))))) (mgName 0))
  (mRet (mrOf (mVar 0)))))))))
def madeL : List PyData := [errD "AlwaysTogether" [], errD "BallsMeet" [.tuple [.str "time", .tuple [.int 3, .int 2]]], errD "InvalidBall" [], errD "InvalidBox" [], errD "InvalidChange" [], errD "InvalidCushion" [], errD "InvalidCushions" [], errD "InvalidIndex" [], errD "InvalidNumber" [], errD "InvalidPockets" [], errD "InvalidShot" [], errD "InvalidShots" [], errD "InvalidSide" [], errD "InvalidSpot" [], errD "InvalidStretch" [], errD "InvalidStretches" [], errD "InvalidTable" [], errD "InvalidText" [], errD "InvalidTime" [], errD "NotABall" [], errD "NothingToUndo" [], errD "OtherTable" [], errD "TooMany" [.tuple [.str "count", .int 7]]]
def D__law_made : PSpec := fun ds Q _ => ds = [] ∧ Q (.va (.list madeL))
theorem len__law_made : ∀ ds Q E, D__law_made ds Q E → ds.length = 0 := by
  rintro _ Q E ⟨rfl, _⟩
  rfl
theorem rd__law_made : ∀ ds Q E, D__law_made ds Q E → m__law_made (fun c _ => E c) (endP Q) (slots0 1 ds) := by
  rintro _ Q E ⟨rfl, q⟩
  unfold m__law_made
  walk_at "rdn"
  simp only [mNewE0, mNewEF, mNewEFK]
  walk_at "rdn"
  first | exact q | exact ⟨_, rfl, q⟩
section
variable {P : Program} {w : World} {K : PySem.W.Frag} {mg : Str → Option Value} {base : Heap} {CN : String → Option Addr}
theorem ok__law_made {f : Addr} {fd : FuncData} (F : Fun K "_law_made" "_law_made" s__law_made f fd) (g : G K mg CN) (cx_BallsMeet : CalXE P w K mg base 1 "BallsMeet" "time" "time") (cx_TooMany : CalXE P w K mg base 1 "TooMany" "count" "count") : FnG P w K mg base 3 f fd [] (spP K CN D__law_made) := by
  have sc := sc__law_made
  exact fun_okP (m := m__law_made) F sc (by decide) len__law_made (fun cdv A outer s H E C W hw hr tk =>
    (pds_cons (pds_asg (ps_asg (pd_lst pda_nil) (dg 0 sc.nd)))
    (pds_cons (pds_asg (ps_asg (pd_op or_add rl_add (dv 0) (pd_lst (pda_cons (pd_newE0E g.nx_AlwaysTogether) (pda_cons (pd_newEFE cx_BallsMeet hr (by decide) (pd_tup (pda_cons pd_int (pda_cons pd_int pda_nil)))) (pda_cons (pd_newE0E g.nx_InvalidBall) (pda_cons (pd_newE0E g.nx_InvalidBox) pda_nil)))))) (dg 0 sc.nd)))
    (pds_cons (pds_asg (ps_asg (pd_op or_add rl_add (dv 0) (pd_lst (pda_cons (pd_newE0E g.nx_InvalidChange) (pda_cons (pd_newE0E g.nx_InvalidCushion) (pda_cons (pd_newE0E g.nx_InvalidCushions) (pda_cons (pd_newE0E g.nx_InvalidIndex) pda_nil)))))) (dg 0 sc.nd)))
    (pds_cons (pds_asg (ps_asg (pd_op or_add rl_add (dv 0) (pd_lst (pda_cons (pd_newE0E g.nx_InvalidNumber) (pda_cons (pd_newE0E g.nx_InvalidPockets) (pda_cons (pd_newE0E g.nx_InvalidShot) (pda_cons (pd_newE0E g.nx_InvalidShots) pda_nil)))))) (dg 0 sc.nd)))
    (pds_cons (pds_asg (ps_asg (pd_op or_add rl_add (dv 0) (pd_lst (pda_cons (pd_newE0E g.nx_InvalidSide) (pda_cons (pd_newE0E g.nx_InvalidSpot) (pda_cons (pd_newE0E g.nx_InvalidStretch) (pda_cons (pd_newE0E g.nx_InvalidStretches) pda_nil)))))) (dg 0 sc.nd)))
    (pds_cons (pds_asg (ps_asg (pd_op or_add rl_add (dv 0) (pd_lst (pda_cons (pd_newE0E g.nx_InvalidTable) (pda_cons (pd_newE0E g.nx_InvalidText) (pda_cons (pd_newE0E g.nx_InvalidTime) (pda_cons (pd_newE0E g.nx_NotABall) pda_nil)))))) (dg 0 sc.nd)))
    (pds_cons (pds_asg (ps_asg (pd_op or_add rl_add (dv 0) (pd_lst (pda_cons (pd_newE0E g.nx_NothingToUndo) (pda_cons (pd_newE0E g.nx_OtherTable) (pda_cons (pd_newEFK cx_TooMany hr (by decide) (pdk_cons pd_int pdk_nil)) pda_nil))))) (dg 0 sc.nd)))
    (pds_one (pds_ret (pdr_of (dv 0)))))))))))) rd__law_made
end
end LW
namespace LW
open PySem PySem.Spec PyProof.Rows L2 DL
theorem log_wide {m : Int} (h1 : 1 ≤ m) (h : m < 2 ^ 200) : m.natAbs.log2 < 9000 := by
  refine (Nat.log2_lt (by omega)).mpr ?_
  have : m.natAbs < 2 ^ 200 := by omega
  exact Nat.lt_of_lt_of_le this (Nat.pow_le_pow_right (by decide) (by decide))
theorem dr {n : Nat} {m : Int} {Q : S → Nat → Prop} (h0 : 1 ≤ n) (h1 : 1 ≤ m) (h2 : m < 2 ^ 200) (k : ∀ r : Int, 0 ≤ r → r < m → Q (.va (.int r)) (n - 1)) : dDraw n [.int m] Q := ⟨m, rfl, h0, h1, log_wide h1 h2, k⟩
theorem small2 {a b : Int} (ha : a.natAbs < 2 ^ 200) (hb : b.natAbs < 2 ^ 200) : small a b = true := by
  have lg : ∀ z : Int, z.natAbs < 2 ^ 200 → z.natAbs.log2 < 200 := fun z hz => by
    by_cases h0 : z.natAbs = 0
    · rw [h0]; decide
    · exact (Nat.log2_lt h0).mpr hz
  unfold small
  have := lg a ha
  have := lg b hb
  exact decide_eq_true (by omega)
end LW
namespace LW
open PySem PySem.Spec PyProof.Rows L2 DL
def m_law : MS :=
  mSeq (mAsg (mCall D__law_made wF mNil) (mgName 1))
  (mSeq (mFor (miRng1 (mCons (mCallB bLen (mCons (mVar 1) (mNil))) (mNil))) (mgName 2) (mSeq (mAsg (mOp2 opIx (mVar 1) (mVar 2)) (mgName 3))
  (mSeq (mAsg (mLc (miRng1 (mCons (mCallB bLen (mCons (mVar 1) (mNil))) (mNil))) (mgName 9) (mTYes) (mOp2 opEq (mVar 9) (mVar 2)) [9]) (mgName 4))
  (mSeq (mIf (mTOr (mT (mOp2 opNe (mCall D__law_marks wF (mCons (mVar 3) (mNil))) (mVar 4))) (mTNot (mT (mOp1 (bIsX "ShotError") (mVar 3))))) (mRet (mrOf (mC (.bool false)))) (mNext))
  (mIf (mTNot (mT (mOp1 (bIsX "ValueError") (mVar 3)))) (mRet (mrOf (mC (.bool false)))) (mNext))))))
  (mSeq (mFor (miRng1 (mCons (mCallB bMax (mCons (mC (.int 1)) (mCons (mCallB bMin (mCons (mC (.int 4)) (mCons (mLenScr 0) (mNil)))) (mNil)))) (mNil))) (mgName 5) (mSeq (mAsgR 6 (mWell 0 (mVar 5)))
  (mSeq (mAsg (mCallW dDraw 6 (mCons (mOp2 opPow (mC (.int 10)) (mC (.int 20))) (mNil))) (mgName 7))
  (mSeq (mIf (mT (mOp2 opNe (mLst (mCons (mOp1 (opAttrE "count") (mNewEF "TooMany" "count" (mVar 7))) (mCons (mOp1 (opAttrE "count") (mNewEFK "TooMany" "count" (mCons (mVar 7) (mNil)))) (mNil)))) (mLst (mCons (mVar 7) (mCons (mVar 7) (mNil)))))) (mRet (mrOf (mC (.bool false)))) (mNext))
  (mIf (mT (mOp2 opNe (mLst (mCons (mOp1 (opAttrE "time") (mNewEF "BallsMeet" "time" (mTup (mCons (mVar 7) (mCons (mC (.int 1)) (mNil)))))) (mCons (mOp1 (opAttrE "time") (mNewEFK "BallsMeet" "time" (mCons (mTup (mCons (mVar 7) (mCons (mC (.int 1)) (mNil)))) (mNil)))) (mNil)))) (mOp2 opMul (mLst (mCons (mTup (mCons (mVar 7) (mCons (mC (.int 1)) (mNil)))) (mNil))) (mC (.int 2))))) (mRet (mrOf (mC (.bool false)))) (mNext))))))
  (mSeq (mAsg (mNewE0 "ShotError") (mgName 8))
  (mRet (mrOf (mAnd (mNot (mCallB bAny (mCons (mCall D__law_marks wF (mCons (mVar 8) (mNil))) (mNil)))) (mOp1 (bIsX "ValueError") (mVar 8))))))))
theorem ten_pow (k : Int) (n : Int) (h0 : 0 ≤ k) (h1 : k ≤ 100) (e : (10 : Int) ^ k.toNat = n) : opPow (.int 10) (.int k) = some (.int n) := by
  rw [opPow_i, if_pos ⟨h0, h1, big10⟩, e]
def dueL (k : Nat) : List PyData := (List.range 23).map fun (j : Nat) => .bool (decide ((j : Int) = (k : Int)))
theorem ne_of {c : Str} {k : Nat} (h : errs23.map (subX c) = (List.range 23).map (fun (j : Nat) => decide ((j : Int) = (k : Int)))) : opNe (.list (marksL c)) (.list (dueL k)) = some (.bool false) := by
  have e : marksL c = dueL k := by
    have e1 : marksL c = (errs23.map (subX c)).map PyData.bool := by rw [List.map_map]; rfl
    have e2 : dueL k = ((List.range 23).map (fun (j : Nat) => decide ((j : Int) = (k : Int)))).map PyData.bool := by rw [List.map_map]; rfl
    rw [e1, e2, h]
  rw [e]
  refine opNe_self (j := 2) (by decide) ?_
  unfold dueL
  simp only [sd, Bool.and_eq_true, List.all_eq_true, List.length_map, List.length_range]
  refine ⟨by decide, fun x hx => ?_⟩
  obtain ⟨j, _, rfl⟩ := List.mem_map.mp hx
  rfl
theorem one_at : ∀ k : Nat, k < 23 → ∃ c es, opIx (.list madeL) (.int k) = some (errD c es) ∧ opNe (.list (marksL c)) (.list (dueL k)) = some (.bool false) ∧ subX c "ShotError" = true ∧ subX c "ValueError" = true := by
  intro k h
  iterate 23
    rcases k with _ | k
    · exact ⟨_, _, rfl, ne_of (by decide +kernel), by decide +kernel, by decide +kernel⟩
  omega
theorem any_no : bAny [.list (marksL "ShotError")] = some (.bool false) := by
  have h : errs23.map (subX "ShotError") = List.replicate 23 false := by decide +kernel
  have e : marksL "ShotError" = (errs23.map (subX "ShotError")).map PyData.bool := by rw [List.map_map]; rfl
  rw [e, h]
  rfl
theorem rd_law : ∀ ns : List Int, ns.length ≤ 63 → (∀ z ∈ ns, Builtin.Int.intBits z ≤ 1048576) → m_law endL (.scr ns :: List.replicate (["script", "made", "k", "one", "due", "at", "well", "size", "base", "j"].length - 1) .no) := by
  intro ns hl hb
  unfold m_law
  show mSeq _ _ _ [.scr ns, .no, .no, .no, .no, .no, .no, .no, .no, .no]
  have p20 := ten_pow 20 100000000000000000000 (by decide) (by decide) (by decide +kernel)
  refine seq_step fun N hN => ?_
  walk_at "rdn"
  refine ⟨rfl, _, rfl, ?_⟩
  subst hN
  refine seq_step fun N hN => ?_
  walk_at "rdn"
  refine ⟨by decide, by decide, ?_⟩
  refine forL_run (fun r s => (∀ d ∈ r, ∃ k : Nat, d = .int k ∧ k < 23) ∧ ∃ x2 x3 x4, s = [.scr ns, .va (.list madeL), x2, x3, x4, .no, .no, .no, .no, .no]) ?_ ?_ _ _ ⟨?_, _, _, _, rfl⟩
  · rintro d r s N1 ⟨hd, x2, x3, x4, rfl⟩ hN1
    obtain ⟨k, rfl, hk⟩ := hd d (by simp)
    have hd' := fun d h => hd d (List.mem_cons_of_mem _ h)
    obtain ⟨c, es, h1, h2, h3, h4⟩ := one_at k hk
    simp only [mgName, sset]
    refine seq_step fun N2 hN2 => ?_
    walk_at "rdn"
    refine ⟨_, h1, ?_⟩
    subst hN2
    refine seq_step fun N2 hN2 => ?_
    walk_at "rdn"
    refine ⟨by decide, by decide, rfl, ?_⟩
    refine lcL_run (fun s => ∃ x9, s = [.scr ns, .va (.list madeL), .va (.int k), .va (errD c es), x4, .no, .no, .no, .no, x9]) (fun d => match d with | .int j => some (.bool (decide (j = (k : Int)))) | _ => none) (rangeL 0 ((madeL.length : Int)).toNat) ?_ _ [] ⟨_, rfl⟩ (by decide) ?_
    · rintro d hd2 s ⟨x9, rfl⟩ Y N5 hY _
      unfold rangeL at hd2
      obtain ⟨i, _, rfl⟩ := List.mem_map.mp hd2
      show mgName 9 _ [.scr ns, .va (.list madeL), .va (.int k), .va (errD c es), x4, .no, .no, .no, .no, .no] _
      walk_at "rdn"
      first | exact hY _ _ rfl ⟨_, rfl⟩ | exact hY _ _ (by simp) ⟨_, rfl⟩
    · rintro _ ⟨x9, rfl⟩
      show N2 [.scr ns, .va (.list madeL), .va (.int k), .va (errD c es), .va (.list (dueL k)), .no, .no, .no, .no, .no]
      subst hN2
      refine seq_step fun N6 hN6 => ?_
      walk_at "rdn"
      refine ⟨c, es, rfl, _, rfl, _, h2, _, rfl, ?_⟩
      rw [if_neg (by decide)]
      refine ⟨_, isX_err, _, rfl, ?_⟩
      rw [h3, if_neg (by decide)]
      subst hN6
      walk_at "rdn"
      refine ⟨_, isX_err, _, rfl, ?_⟩
      rw [h4, if_neg (by decide)]
      exact hN1 _ ⟨hd', _, _, _, rfl⟩
  · rintro s ⟨-, x2, x3, x4, rfl⟩
    subst hN
    dsimp only
    refine seq_step fun N2 hN2 => ?_
    walk_at "rdn"
    generalize hk : (if (if (ns.length : Int) < 4 then (ns.length : Int) else 4) > 1 then if (ns.length : Int) < 4 then (ns.length : Int) else 4 else 1) = k
    have k0 : 0 ≤ k := by rw [← hk]; split <;> (try split) <;> omega
    have k1 : k ≤ 60 := by rw [← hk]; split <;> (try split) <;> omega
    refine ⟨by omega, by omega, ?_⟩
    refine forL_run (fun r s => (∀ d ∈ r, ∃ j : Int, d = .int j ∧ 0 ≤ j ∧ j < 2 ^ 20) ∧ ∃ x5 x6 x7, s = [.scr ns, .va (.list madeL), x2, x3, x4, x5, x6, x7, .no, .no]) ?_ ?_ _ _ ⟨?_, _, _, _, rfl⟩
    · rintro d r s N3 ⟨hd, x5, x6, x7, rfl⟩ hN3
      obtain ⟨j, rfl, j0, j1⟩ := hd d (by simp)
      have hd' := fun d h => hd d (List.mem_cons_of_mem _ h)
      simp only [mgName, sset]
      refine seq_run (fun s => ∃ n, s = [.scr ns, .va (.list madeL), x2, x3, x4, .va (.int j), .well n, x7, .no, .no] ∧ 2 ^ 59 + 900 ≤ n) (fun N4 h4 => ?_) ?_
      · walk_at "rdn"
        exact ⟨hl, hb, j0, j1, h4 _ ⟨_, rfl, by decide⟩⟩
      rintro _ ⟨n, rfl, hn⟩
      refine seq_step fun N5 hN5 => ?_
      walk_at "rdn"
      refine ⟨_, p20, dr (by omega) (by decide) (by decide) fun z z0 z1 => ⟨_, rfl, ?_⟩⟩
      subst hN5
      refine seq_step fun N6 hN6 => ?_
      walk_at "rdn"
      simp only [mNewEF, mNewEFK]
      walk_at "rdn"
      refine ⟨_, rfl, _, rfl, _, opNe_self (j := 2) (by decide) rfl, _, rfl, ?_⟩
      rw [if_neg (by decide)]
      subst hN6
      walk_at "rdn"
      simp only [mNewEF, mNewEFK]
      walk_at "rdn"
      refine ⟨_, rfl, _, rfl, _, rfl, _, opNe_self (j := 3) (by decide) rfl, _, rfl, ?_⟩
      rw [if_neg (by decide)]
      exact hN3 _ ⟨hd', _, _, _, rfl⟩
    · rintro s ⟨-, x5, x6, x7, rfl⟩
      subst hN2
      dsimp only
      walk_at "rdn"
      simp only [mNewE0]
      walk_at "rdn"
      exact ⟨_, _, rfl, _, rfl, _, any_no, _, rfl, rfl⟩
    · intro d hd
      unfold rangeL at hd
      obtain ⟨i, hi, rfl⟩ := List.mem_map.mp hd
      have := List.mem_range.mp hi
      exact ⟨_, rfl, by omega, by omega⟩
  · intro d hd
    unfold rangeL at hd
    obtain ⟨i, hi, rfl⟩ := List.mem_map.mp hd
    have hi := List.mem_range.mp hi
    have e : ((madeL.length : Int)).toNat = 23 := rfl
    exact ⟨i, by rw [Int.zero_add], by omega⟩
section
variable {P : Program} {w : World} {K : PySem.W.Frag} {mg : Str → Option Value} {base : Heap} {CN : String → Option Addr}
theorem ok_law {f : Addr} {fd : FuncData} (F : Fun K "law" "law" s_law f fd) (g : G K mg CN) (c__law_draw : CalW P w K mg base 1 "_law_draw" dDraw) (c__law_made : CalP P w K mg base CN 3 "_law_made" D__law_made) (c__law_marks : CalP P w K mg base CN 3 "_law_marks" D__law_marks) (c__law_well : CalL P w K mg base 1 "_law_well") (cx_BallsMeet : CalXE P w K mg base 1 "BallsMeet" "time" "time") (cx_TooMany : CalXE P w K mg base 1 "TooMany" "count" "count") : FnG P w K mg base 4 f fd ["script"] (spL K) := by
  have sc := sc_law
  exact fun_okL (m := m_law) (CN := CN) F sc (by decide) (fun cdv A outer s H E C hw hr tk =>
    (pds_cons (pds_asg (ps_asg (pd_call0 c__law_made hr (by decide) tk) (dg 1 sc.nd)))
    (pds_cons (pds_for (ps_for psw rfl (d_range1 g.b_range (pda_cons (pd_callB cr_len rc_len g.b_len (by decide +kernel) (pda_cons (dv 1) pda_nil)) pda_nil)) (dg 2 sc.nd) (pds_cons (pds_asg (ps_asg (pd_ix ix_seq rl_ix (dv 1) (dv 2)) (dg 3 sc.nd)))
    (pds_cons (pds_setLc (ps_setLc (i := 4) (own := [("j", 9)]) rfl sc.nd rfl rfl rfl (d_range1 g.b_range (pda_cons (pd_callB cr_len rc_len g.b_len (by decide +kernel) (pda_cons (dv 1) pda_nil)) pda_nil)) (blkOk_by (N := ["script", "made", "k", "one", "due", "at", "well", "size", "base", "j"]) (sc := (defScope s_law)) (by decide +kernel)) (fun _ _ _ _ _ => (dgv 9 (vs := [9]) sc.nd)) (fun _ _ _ _ _ => pdts_nil) (fun _ _ _ _ _ => (pd_cmp (or_eqD (RoomG.u64 hr)) rl_eq (dv 9) (dv 2) (nomark _)))))
    (pds_cons (pds_if (pdt_ofw (pdw_or (pdt_cmp (or_neD (RoomG.u64 hr)) rl_ne (pd_call c__law_marks hr (by decide) tk (pda_cons (dv 3) pda_nil)) (dv 4) (nomark _)) (pdw_or1 (pdt_not (pdt_val (pd_isXE g.b_isinstance g.kx_ShotError (dv 3))))))) (pds_one (pds_ret (pdr_of pd_bl))) pds_nil)
    (pds_one (pds_if (pdt_not (pdt_val (pd_isXV g.b_isinstance g.b_ValueError g.kv_ (dv 3)))) (pds_one (pds_ret (pdr_of pd_bl))) pds_nil)))))))
    (pds_cons (pds_for (ps_for psw rfl (d_range1 g.b_range (pda_cons (pd_callB (call_max2 rfl) rc_max g.b_max (by decide +kernel) (pda_cons pd_int (pda_cons (pd_callB (call_min2 rfl) rc_min g.b_min (by decide +kernel) (pda_cons pd_int (pda_cons (pd_lenScr (x := "") g.b_len (i := 0) rfl (.inl rfl)) pda_nil))) pda_nil))) pda_nil)) (dg 5 sc.nd) (pds_cons (pds_asgR (ps_set (i := 6) sc.nd rfl (.inl rfl) (pdr_well hw c__law_well hr (by decide) tk (pv 0) (dv 5))))
    (pds_cons (pds_asg (ps_asg (pd_callW c__law_draw hr (by decide) tk (pv 6) (pda_cons (pd_op op_powW rl_pow pd_int pd_int) pda_nil)) (dg 7 sc.nd)))
    (pds_cons (pds_if (pdt_cmp (or_neD (RoomG.u64 hr)) rl_ne (pd_lst (pda_cons (pd_attrE g.nf_count (pd_newEFE cx_TooMany hr (by decide) (dv 7))) (pda_cons (pd_attrE g.nf_count (pd_newEFK cx_TooMany hr (by decide) (pdk_cons (dv 7) pdk_nil))) pda_nil))) (pd_lst (pda_cons (dv 7) (pda_cons (dv 7) pda_nil))) (nomark _)) (pds_one (pds_ret (pdr_of pd_bl))) pds_nil)
    (pds_one (pds_if (pdt_cmp (or_neD (RoomG.u64 hr)) rl_ne (pd_lst (pda_cons (pd_attrE g.nf_time (pd_newEFE cx_BallsMeet hr (by decide) (pd_tup (pda_cons (dv 7) (pda_cons pd_int pda_nil))))) (pda_cons (pd_attrE g.nf_time (pd_newEFK cx_BallsMeet hr (by decide) (pdk_cons (pd_tup (pda_cons (dv 7) (pda_cons pd_int pda_nil))) pdk_nil))) pda_nil))) (pd_op or_mul rl_mul (pd_lst (pda_cons (pd_tup (pda_cons (dv 7) (pda_cons pd_int pda_nil))) pda_nil)) pd_int) (nomark _)) (pds_one (pds_ret (pdr_of pd_bl))) pds_nil)))))))
    (pds_cons (pds_asg (ps_asg (pd_newE0E g.nx_ShotError) (dg 8 sc.nd)))
    (pds_one (pds_ret (pdr_of (pd_and (pd_not (pd_callB (cr_any rfl) rc_any g.b_any (by decide +kernel) (pda_cons (pd_call c__law_marks hr (by decide) tk (pda_cons (dv 8) pda_nil)) pda_nil))) (pd_one (pd_isXV g.b_isinstance g.b_ValueError g.kv_ (dv 8)))))))))))) rd_law
end
end LW
namespace LW
open PySem PySem.Spec PyProof.Rows L2 DL
theorem all_mk {l : PySem.W.OpenLaw} {w : World} {K : PySem.W.Frag} {h : Heap} {mg : Str → Option Value} {fa f1 f2 f3 f4 f5  C_ShotError C_InvalidTable C_InvalidShot C_InvalidSide C_InvalidTime C_InvalidNumber C_InvalidIndex C_InvalidCushion C_InvalidSpot C_InvalidBox C_InvalidStretch C_InvalidStretches C_InvalidPockets C_InvalidCushions C_InvalidShots C_InvalidBall C_InvalidText C_InvalidChange C_AlwaysTogether C_NotABall C_OtherTable C_NothingToUndo C_BallsMeet C_TooMany fx_BallsMeet cda_BallsMeet cc_BallsMeet fx_TooMany cda_TooMany cc_TooMany : Addr} (X : K.In h) (G0 : h.Ns mainGlobals mg) (hfa : mg "law" = some (.ref fa))
    {od1 an1 od2 an2 od3 an3 od4 an4 od5 an5 : Option Addr} {sl1 sl2 sl3 sl4 sl5 : Array (Option Value)} {oc1 kV1 dc1 pm1 cd1 ct1 oc2 kV2 dc2 pm2 cd2 ct2 oc3 kV3 dc3 pm3 cd3 ct3 oc4 kV4 dc4 pm4 cd4 ct4 oc5 kV5 dc5 pm5 cd5 ct5 : Value}
    (a1 : PySem.W.nsIn K mainGlobals "_law_well" = some (some (.ref f1))) (l1 : K.lookup f1 = some ⟨oc1, od1, .func (PySem.W.fnOf "_law_well" "_law_well" (defArgs s__law_well) (defBody s__law_well) (defScope s__law_well) .none kV1 dc1 pm1 an1 cd1 ct1), sl1⟩) (c1 : PySem.W.codeIn K cd1 "_law_well" = true) (k1 : PySem.W.keepIn K (.ref f1) = true)
    (a2 : PySem.W.nsIn K mainGlobals "_law_draw" = some (some (.ref f2))) (l2 : K.lookup f2 = some ⟨oc2, od2, .func (PySem.W.fnOf "_law_draw" "_law_draw" (defArgs s__law_draw) (defBody s__law_draw) (defScope s__law_draw) .none kV2 dc2 pm2 an2 cd2 ct2), sl2⟩) (c2 : PySem.W.codeIn K cd2 "_law_draw" = true) (k2 : PySem.W.keepIn K (.ref f2) = true)
    (a3 : PySem.W.nsIn K mainGlobals "_law_marks" = some (some (.ref f3))) (l3 : K.lookup f3 = some ⟨oc3, od3, .func (PySem.W.fnOf "_law_marks" "_law_marks" (defArgs s__law_marks) (defBody s__law_marks) (defScope s__law_marks) .none kV3 dc3 pm3 an3 cd3 ct3), sl3⟩) (c3 : PySem.W.codeIn K cd3 "_law_marks" = true) (k3 : PySem.W.keepIn K (.ref f3) = true)
    (a4 : PySem.W.nsIn K mainGlobals "_law_made" = some (some (.ref f4))) (l4 : K.lookup f4 = some ⟨oc4, od4, .func (PySem.W.fnOf "_law_made" "_law_made" (defArgs s__law_made) (defBody s__law_made) (defScope s__law_made) .none kV4 dc4 pm4 an4 cd4 ct4), sl4⟩) (c4 : PySem.W.codeIn K cd4 "_law_made" = true) (k4 : PySem.W.keepIn K (.ref f4) = true)
    (a5 : PySem.W.nsIn K mainGlobals "law" = some (some (.ref f5))) (l5 : K.lookup f5 = some ⟨oc5, od5, .func (PySem.W.fnOf "law" "law" (defArgs s_law) (defBody s_law) (defScope s_law) .none kV5 dc5 pm5 an5 cd5 ct5), sl5⟩) (c5 : PySem.W.codeIn K cd5 "law" = true) (k5 : PySem.W.keepIn K (.ref f5) = true)
    (z_ValueError : PySem.W.nsIn K mainGlobals "ValueError" = some none)
    (z_abs : PySem.W.nsIn K mainGlobals "abs" = some none)
    (z_any : PySem.W.nsIn K mainGlobals "any" = some none)
    (z_int : PySem.W.nsIn K mainGlobals "int" = some none)
    (z_isinstance : PySem.W.nsIn K mainGlobals "isinstance" = some none)
    (z_len : PySem.W.nsIn K mainGlobals "len" = some none)
    (z_max : PySem.W.nsIn K mainGlobals "max" = some none)
    (z_min : PySem.W.nsIn K mainGlobals "min" = some none)
    (z_range : PySem.W.nsIn K mainGlobals "range" = some none)
    (x1_ShotError : PySem.W.nsIn K mainGlobals "ShotError" = some (some (.ref C_ShotError))) (x4_ShotError : PySem.W.subIn K (.ref C_ShotError) (.type "BaseException") = some true) (e4_ShotError : PySem.W.hasDictIn K C_ShotError = true)
    (e1_ShotError : PySem.W.findIn K (.ref C_ShotError) "__getattribute__" = some (some (.builtin "BaseException.__getattribute__"))) (e2_ShotError : PySem.W.findIn K (.ref C_ShotError) "__getattr__" = some none) (e3_ShotError : PySem.W.findIn K (.ref C_ShotError) "__class__" = some (some (.builtin "object.__class__"))) (e5_ShotError : PySem.W.mroIn K C_ShotError (.type "object") = some true)
    (xkkInt_ShotError : PySem.W.kitOne K (.ref C_ShotError) (.type "int") = some false)
    (xkkBool_ShotError : PySem.W.kitOne K (.ref C_ShotError) (.type "bool") = some false)
    (xkkStr_ShotError : PySem.W.kitOne K (.ref C_ShotError) (.type "str") = some false)
    (xkkTup_ShotError : PySem.W.kitOne K (.ref C_ShotError) (.type "tuple") = some false)
    (xkkLst_ShotError : PySem.W.kitOne K (.ref C_ShotError) (.type "list") = some false)
    (xkkDict_ShotError : PySem.W.kitOne K (.ref C_ShotError) (.type "dict") = some false)
    (en_count_ShotError : PySem.W.findIn K (.ref C_ShotError) "count" = some none)
    (en_time_ShotError : PySem.W.findIn K (.ref C_ShotError) "time" = some none)
    (kt_AlwaysTogether_ShotError : PySem.W.kitOne K (.ref C_ShotError) (.ref C_AlwaysTogether) = some false)
    (kt_BallsMeet_ShotError : PySem.W.kitOne K (.ref C_ShotError) (.ref C_BallsMeet) = some false)
    (kt_InvalidBall_ShotError : PySem.W.kitOne K (.ref C_ShotError) (.ref C_InvalidBall) = some false)
    (kt_InvalidBox_ShotError : PySem.W.kitOne K (.ref C_ShotError) (.ref C_InvalidBox) = some false)
    (kt_InvalidChange_ShotError : PySem.W.kitOne K (.ref C_ShotError) (.ref C_InvalidChange) = some false)
    (kt_InvalidCushion_ShotError : PySem.W.kitOne K (.ref C_ShotError) (.ref C_InvalidCushion) = some false)
    (kt_InvalidCushions_ShotError : PySem.W.kitOne K (.ref C_ShotError) (.ref C_InvalidCushions) = some false)
    (kt_InvalidIndex_ShotError : PySem.W.kitOne K (.ref C_ShotError) (.ref C_InvalidIndex) = some false)
    (kt_InvalidNumber_ShotError : PySem.W.kitOne K (.ref C_ShotError) (.ref C_InvalidNumber) = some false)
    (kt_InvalidPockets_ShotError : PySem.W.kitOne K (.ref C_ShotError) (.ref C_InvalidPockets) = some false)
    (kt_InvalidShot_ShotError : PySem.W.kitOne K (.ref C_ShotError) (.ref C_InvalidShot) = some false)
    (kt_InvalidShots_ShotError : PySem.W.kitOne K (.ref C_ShotError) (.ref C_InvalidShots) = some false)
    (kt_InvalidSide_ShotError : PySem.W.kitOne K (.ref C_ShotError) (.ref C_InvalidSide) = some false)
    (kt_InvalidSpot_ShotError : PySem.W.kitOne K (.ref C_ShotError) (.ref C_InvalidSpot) = some false)
    (kt_InvalidStretch_ShotError : PySem.W.kitOne K (.ref C_ShotError) (.ref C_InvalidStretch) = some false)
    (kt_InvalidStretches_ShotError : PySem.W.kitOne K (.ref C_ShotError) (.ref C_InvalidStretches) = some false)
    (kt_InvalidTable_ShotError : PySem.W.kitOne K (.ref C_ShotError) (.ref C_InvalidTable) = some false)
    (kt_InvalidText_ShotError : PySem.W.kitOne K (.ref C_ShotError) (.ref C_InvalidText) = some false)
    (kt_InvalidTime_ShotError : PySem.W.kitOne K (.ref C_ShotError) (.ref C_InvalidTime) = some false)
    (kt_NotABall_ShotError : PySem.W.kitOne K (.ref C_ShotError) (.ref C_NotABall) = some false)
    (kt_NothingToUndo_ShotError : PySem.W.kitOne K (.ref C_ShotError) (.ref C_NothingToUndo) = some false)
    (kt_OtherTable_ShotError : PySem.W.kitOne K (.ref C_ShotError) (.ref C_OtherTable) = some false)
    (kt_ShotError_ShotError : PySem.W.kitOne K (.ref C_ShotError) (.ref C_ShotError) = some true)
    (kt_TooMany_ShotError : PySem.W.kitOne K (.ref C_ShotError) (.ref C_TooMany) = some false)
    (kv_ShotError : PySem.W.kitOne K (.ref C_ShotError) (.type "ValueError") = some true)
    (x3_ShotError : PySem.W.keepIn K (.ref C_ShotError) = true) (x5_ShotError : PySem.W.typeIn K (.ref C_ShotError) = some (.type "type"))
    (x2_ShotError : PySem.W.excIn K C_ShotError [.type "ValueError", .type "Exception", .type "BaseException", .type "object"] "ValueError.__new__" = true)
    (x1_InvalidTable : PySem.W.nsIn K mainGlobals "InvalidTable" = some (some (.ref C_InvalidTable))) (x4_InvalidTable : PySem.W.subIn K (.ref C_InvalidTable) (.type "BaseException") = some true) (e4_InvalidTable : PySem.W.hasDictIn K C_InvalidTable = true)
    (e1_InvalidTable : PySem.W.findIn K (.ref C_InvalidTable) "__getattribute__" = some (some (.builtin "BaseException.__getattribute__"))) (e2_InvalidTable : PySem.W.findIn K (.ref C_InvalidTable) "__getattr__" = some none) (e3_InvalidTable : PySem.W.findIn K (.ref C_InvalidTable) "__class__" = some (some (.builtin "object.__class__"))) (e5_InvalidTable : PySem.W.mroIn K C_InvalidTable (.type "object") = some true)
    (xkkInt_InvalidTable : PySem.W.kitOne K (.ref C_InvalidTable) (.type "int") = some false)
    (xkkBool_InvalidTable : PySem.W.kitOne K (.ref C_InvalidTable) (.type "bool") = some false)
    (xkkStr_InvalidTable : PySem.W.kitOne K (.ref C_InvalidTable) (.type "str") = some false)
    (xkkTup_InvalidTable : PySem.W.kitOne K (.ref C_InvalidTable) (.type "tuple") = some false)
    (xkkLst_InvalidTable : PySem.W.kitOne K (.ref C_InvalidTable) (.type "list") = some false)
    (xkkDict_InvalidTable : PySem.W.kitOne K (.ref C_InvalidTable) (.type "dict") = some false)
    (en_count_InvalidTable : PySem.W.findIn K (.ref C_InvalidTable) "count" = some none)
    (en_time_InvalidTable : PySem.W.findIn K (.ref C_InvalidTable) "time" = some none)
    (kt_AlwaysTogether_InvalidTable : PySem.W.kitOne K (.ref C_InvalidTable) (.ref C_AlwaysTogether) = some false)
    (kt_BallsMeet_InvalidTable : PySem.W.kitOne K (.ref C_InvalidTable) (.ref C_BallsMeet) = some false)
    (kt_InvalidBall_InvalidTable : PySem.W.kitOne K (.ref C_InvalidTable) (.ref C_InvalidBall) = some false)
    (kt_InvalidBox_InvalidTable : PySem.W.kitOne K (.ref C_InvalidTable) (.ref C_InvalidBox) = some false)
    (kt_InvalidChange_InvalidTable : PySem.W.kitOne K (.ref C_InvalidTable) (.ref C_InvalidChange) = some false)
    (kt_InvalidCushion_InvalidTable : PySem.W.kitOne K (.ref C_InvalidTable) (.ref C_InvalidCushion) = some false)
    (kt_InvalidCushions_InvalidTable : PySem.W.kitOne K (.ref C_InvalidTable) (.ref C_InvalidCushions) = some false)
    (kt_InvalidIndex_InvalidTable : PySem.W.kitOne K (.ref C_InvalidTable) (.ref C_InvalidIndex) = some false)
    (kt_InvalidNumber_InvalidTable : PySem.W.kitOne K (.ref C_InvalidTable) (.ref C_InvalidNumber) = some false)
    (kt_InvalidPockets_InvalidTable : PySem.W.kitOne K (.ref C_InvalidTable) (.ref C_InvalidPockets) = some false)
    (kt_InvalidShot_InvalidTable : PySem.W.kitOne K (.ref C_InvalidTable) (.ref C_InvalidShot) = some false)
    (kt_InvalidShots_InvalidTable : PySem.W.kitOne K (.ref C_InvalidTable) (.ref C_InvalidShots) = some false)
    (kt_InvalidSide_InvalidTable : PySem.W.kitOne K (.ref C_InvalidTable) (.ref C_InvalidSide) = some false)
    (kt_InvalidSpot_InvalidTable : PySem.W.kitOne K (.ref C_InvalidTable) (.ref C_InvalidSpot) = some false)
    (kt_InvalidStretch_InvalidTable : PySem.W.kitOne K (.ref C_InvalidTable) (.ref C_InvalidStretch) = some false)
    (kt_InvalidStretches_InvalidTable : PySem.W.kitOne K (.ref C_InvalidTable) (.ref C_InvalidStretches) = some false)
    (kt_InvalidTable_InvalidTable : PySem.W.kitOne K (.ref C_InvalidTable) (.ref C_InvalidTable) = some true)
    (kt_InvalidText_InvalidTable : PySem.W.kitOne K (.ref C_InvalidTable) (.ref C_InvalidText) = some false)
    (kt_InvalidTime_InvalidTable : PySem.W.kitOne K (.ref C_InvalidTable) (.ref C_InvalidTime) = some false)
    (kt_NotABall_InvalidTable : PySem.W.kitOne K (.ref C_InvalidTable) (.ref C_NotABall) = some false)
    (kt_NothingToUndo_InvalidTable : PySem.W.kitOne K (.ref C_InvalidTable) (.ref C_NothingToUndo) = some false)
    (kt_OtherTable_InvalidTable : PySem.W.kitOne K (.ref C_InvalidTable) (.ref C_OtherTable) = some false)
    (kt_ShotError_InvalidTable : PySem.W.kitOne K (.ref C_InvalidTable) (.ref C_ShotError) = some true)
    (kt_TooMany_InvalidTable : PySem.W.kitOne K (.ref C_InvalidTable) (.ref C_TooMany) = some false)
    (kv_InvalidTable : PySem.W.kitOne K (.ref C_InvalidTable) (.type "ValueError") = some true)
    (x3_InvalidTable : PySem.W.keepIn K (.ref C_InvalidTable) = true) (x5_InvalidTable : PySem.W.typeIn K (.ref C_InvalidTable) = some (.type "type"))
    (x2_InvalidTable : PySem.W.excIn K C_InvalidTable [.type "ValueError", .type "Exception", .type "BaseException", .type "object"] "ValueError.__new__" = true)
    (x1_InvalidShot : PySem.W.nsIn K mainGlobals "InvalidShot" = some (some (.ref C_InvalidShot))) (x4_InvalidShot : PySem.W.subIn K (.ref C_InvalidShot) (.type "BaseException") = some true) (e4_InvalidShot : PySem.W.hasDictIn K C_InvalidShot = true)
    (e1_InvalidShot : PySem.W.findIn K (.ref C_InvalidShot) "__getattribute__" = some (some (.builtin "BaseException.__getattribute__"))) (e2_InvalidShot : PySem.W.findIn K (.ref C_InvalidShot) "__getattr__" = some none) (e3_InvalidShot : PySem.W.findIn K (.ref C_InvalidShot) "__class__" = some (some (.builtin "object.__class__"))) (e5_InvalidShot : PySem.W.mroIn K C_InvalidShot (.type "object") = some true)
    (xkkInt_InvalidShot : PySem.W.kitOne K (.ref C_InvalidShot) (.type "int") = some false)
    (xkkBool_InvalidShot : PySem.W.kitOne K (.ref C_InvalidShot) (.type "bool") = some false)
    (xkkStr_InvalidShot : PySem.W.kitOne K (.ref C_InvalidShot) (.type "str") = some false)
    (xkkTup_InvalidShot : PySem.W.kitOne K (.ref C_InvalidShot) (.type "tuple") = some false)
    (xkkLst_InvalidShot : PySem.W.kitOne K (.ref C_InvalidShot) (.type "list") = some false)
    (xkkDict_InvalidShot : PySem.W.kitOne K (.ref C_InvalidShot) (.type "dict") = some false)
    (en_count_InvalidShot : PySem.W.findIn K (.ref C_InvalidShot) "count" = some none)
    (en_time_InvalidShot : PySem.W.findIn K (.ref C_InvalidShot) "time" = some none)
    (kt_AlwaysTogether_InvalidShot : PySem.W.kitOne K (.ref C_InvalidShot) (.ref C_AlwaysTogether) = some false)
    (kt_BallsMeet_InvalidShot : PySem.W.kitOne K (.ref C_InvalidShot) (.ref C_BallsMeet) = some false)
    (kt_InvalidBall_InvalidShot : PySem.W.kitOne K (.ref C_InvalidShot) (.ref C_InvalidBall) = some false)
    (kt_InvalidBox_InvalidShot : PySem.W.kitOne K (.ref C_InvalidShot) (.ref C_InvalidBox) = some false)
    (kt_InvalidChange_InvalidShot : PySem.W.kitOne K (.ref C_InvalidShot) (.ref C_InvalidChange) = some false)
    (kt_InvalidCushion_InvalidShot : PySem.W.kitOne K (.ref C_InvalidShot) (.ref C_InvalidCushion) = some false)
    (kt_InvalidCushions_InvalidShot : PySem.W.kitOne K (.ref C_InvalidShot) (.ref C_InvalidCushions) = some false)
    (kt_InvalidIndex_InvalidShot : PySem.W.kitOne K (.ref C_InvalidShot) (.ref C_InvalidIndex) = some false)
    (kt_InvalidNumber_InvalidShot : PySem.W.kitOne K (.ref C_InvalidShot) (.ref C_InvalidNumber) = some false)
    (kt_InvalidPockets_InvalidShot : PySem.W.kitOne K (.ref C_InvalidShot) (.ref C_InvalidPockets) = some false)
    (kt_InvalidShot_InvalidShot : PySem.W.kitOne K (.ref C_InvalidShot) (.ref C_InvalidShot) = some true)
    (kt_InvalidShots_InvalidShot : PySem.W.kitOne K (.ref C_InvalidShot) (.ref C_InvalidShots) = some false)
    (kt_InvalidSide_InvalidShot : PySem.W.kitOne K (.ref C_InvalidShot) (.ref C_InvalidSide) = some false)
    (kt_InvalidSpot_InvalidShot : PySem.W.kitOne K (.ref C_InvalidShot) (.ref C_InvalidSpot) = some false)
    (kt_InvalidStretch_InvalidShot : PySem.W.kitOne K (.ref C_InvalidShot) (.ref C_InvalidStretch) = some false)
    (kt_InvalidStretches_InvalidShot : PySem.W.kitOne K (.ref C_InvalidShot) (.ref C_InvalidStretches) = some false)
    (kt_InvalidTable_InvalidShot : PySem.W.kitOne K (.ref C_InvalidShot) (.ref C_InvalidTable) = some false)
    (kt_InvalidText_InvalidShot : PySem.W.kitOne K (.ref C_InvalidShot) (.ref C_InvalidText) = some false)
    (kt_InvalidTime_InvalidShot : PySem.W.kitOne K (.ref C_InvalidShot) (.ref C_InvalidTime) = some false)
    (kt_NotABall_InvalidShot : PySem.W.kitOne K (.ref C_InvalidShot) (.ref C_NotABall) = some false)
    (kt_NothingToUndo_InvalidShot : PySem.W.kitOne K (.ref C_InvalidShot) (.ref C_NothingToUndo) = some false)
    (kt_OtherTable_InvalidShot : PySem.W.kitOne K (.ref C_InvalidShot) (.ref C_OtherTable) = some false)
    (kt_ShotError_InvalidShot : PySem.W.kitOne K (.ref C_InvalidShot) (.ref C_ShotError) = some true)
    (kt_TooMany_InvalidShot : PySem.W.kitOne K (.ref C_InvalidShot) (.ref C_TooMany) = some false)
    (kv_InvalidShot : PySem.W.kitOne K (.ref C_InvalidShot) (.type "ValueError") = some true)
    (x3_InvalidShot : PySem.W.keepIn K (.ref C_InvalidShot) = true) (x5_InvalidShot : PySem.W.typeIn K (.ref C_InvalidShot) = some (.type "type"))
    (x2_InvalidShot : PySem.W.excIn K C_InvalidShot [.type "ValueError", .type "Exception", .type "BaseException", .type "object"] "ValueError.__new__" = true)
    (x1_InvalidSide : PySem.W.nsIn K mainGlobals "InvalidSide" = some (some (.ref C_InvalidSide))) (x4_InvalidSide : PySem.W.subIn K (.ref C_InvalidSide) (.type "BaseException") = some true) (e4_InvalidSide : PySem.W.hasDictIn K C_InvalidSide = true)
    (e1_InvalidSide : PySem.W.findIn K (.ref C_InvalidSide) "__getattribute__" = some (some (.builtin "BaseException.__getattribute__"))) (e2_InvalidSide : PySem.W.findIn K (.ref C_InvalidSide) "__getattr__" = some none) (e3_InvalidSide : PySem.W.findIn K (.ref C_InvalidSide) "__class__" = some (some (.builtin "object.__class__"))) (e5_InvalidSide : PySem.W.mroIn K C_InvalidSide (.type "object") = some true)
    (xkkInt_InvalidSide : PySem.W.kitOne K (.ref C_InvalidSide) (.type "int") = some false)
    (xkkBool_InvalidSide : PySem.W.kitOne K (.ref C_InvalidSide) (.type "bool") = some false)
    (xkkStr_InvalidSide : PySem.W.kitOne K (.ref C_InvalidSide) (.type "str") = some false)
    (xkkTup_InvalidSide : PySem.W.kitOne K (.ref C_InvalidSide) (.type "tuple") = some false)
    (xkkLst_InvalidSide : PySem.W.kitOne K (.ref C_InvalidSide) (.type "list") = some false)
    (xkkDict_InvalidSide : PySem.W.kitOne K (.ref C_InvalidSide) (.type "dict") = some false)
    (en_count_InvalidSide : PySem.W.findIn K (.ref C_InvalidSide) "count" = some none)
    (en_time_InvalidSide : PySem.W.findIn K (.ref C_InvalidSide) "time" = some none)
    (kt_AlwaysTogether_InvalidSide : PySem.W.kitOne K (.ref C_InvalidSide) (.ref C_AlwaysTogether) = some false)
    (kt_BallsMeet_InvalidSide : PySem.W.kitOne K (.ref C_InvalidSide) (.ref C_BallsMeet) = some false)
    (kt_InvalidBall_InvalidSide : PySem.W.kitOne K (.ref C_InvalidSide) (.ref C_InvalidBall) = some false)
    (kt_InvalidBox_InvalidSide : PySem.W.kitOne K (.ref C_InvalidSide) (.ref C_InvalidBox) = some false)
    (kt_InvalidChange_InvalidSide : PySem.W.kitOne K (.ref C_InvalidSide) (.ref C_InvalidChange) = some false)
    (kt_InvalidCushion_InvalidSide : PySem.W.kitOne K (.ref C_InvalidSide) (.ref C_InvalidCushion) = some false)
    (kt_InvalidCushions_InvalidSide : PySem.W.kitOne K (.ref C_InvalidSide) (.ref C_InvalidCushions) = some false)
    (kt_InvalidIndex_InvalidSide : PySem.W.kitOne K (.ref C_InvalidSide) (.ref C_InvalidIndex) = some false)
    (kt_InvalidNumber_InvalidSide : PySem.W.kitOne K (.ref C_InvalidSide) (.ref C_InvalidNumber) = some false)
    (kt_InvalidPockets_InvalidSide : PySem.W.kitOne K (.ref C_InvalidSide) (.ref C_InvalidPockets) = some false)
    (kt_InvalidShot_InvalidSide : PySem.W.kitOne K (.ref C_InvalidSide) (.ref C_InvalidShot) = some false)
    (kt_InvalidShots_InvalidSide : PySem.W.kitOne K (.ref C_InvalidSide) (.ref C_InvalidShots) = some false)
    (kt_InvalidSide_InvalidSide : PySem.W.kitOne K (.ref C_InvalidSide) (.ref C_InvalidSide) = some true)
    (kt_InvalidSpot_InvalidSide : PySem.W.kitOne K (.ref C_InvalidSide) (.ref C_InvalidSpot) = some false)
    (kt_InvalidStretch_InvalidSide : PySem.W.kitOne K (.ref C_InvalidSide) (.ref C_InvalidStretch) = some false)
    (kt_InvalidStretches_InvalidSide : PySem.W.kitOne K (.ref C_InvalidSide) (.ref C_InvalidStretches) = some false)
    (kt_InvalidTable_InvalidSide : PySem.W.kitOne K (.ref C_InvalidSide) (.ref C_InvalidTable) = some false)
    (kt_InvalidText_InvalidSide : PySem.W.kitOne K (.ref C_InvalidSide) (.ref C_InvalidText) = some false)
    (kt_InvalidTime_InvalidSide : PySem.W.kitOne K (.ref C_InvalidSide) (.ref C_InvalidTime) = some false)
    (kt_NotABall_InvalidSide : PySem.W.kitOne K (.ref C_InvalidSide) (.ref C_NotABall) = some false)
    (kt_NothingToUndo_InvalidSide : PySem.W.kitOne K (.ref C_InvalidSide) (.ref C_NothingToUndo) = some false)
    (kt_OtherTable_InvalidSide : PySem.W.kitOne K (.ref C_InvalidSide) (.ref C_OtherTable) = some false)
    (kt_ShotError_InvalidSide : PySem.W.kitOne K (.ref C_InvalidSide) (.ref C_ShotError) = some true)
    (kt_TooMany_InvalidSide : PySem.W.kitOne K (.ref C_InvalidSide) (.ref C_TooMany) = some false)
    (kv_InvalidSide : PySem.W.kitOne K (.ref C_InvalidSide) (.type "ValueError") = some true)
    (x3_InvalidSide : PySem.W.keepIn K (.ref C_InvalidSide) = true) (x5_InvalidSide : PySem.W.typeIn K (.ref C_InvalidSide) = some (.type "type"))
    (x2_InvalidSide : PySem.W.excIn K C_InvalidSide [.type "ValueError", .type "Exception", .type "BaseException", .type "object"] "ValueError.__new__" = true)
    (x1_InvalidTime : PySem.W.nsIn K mainGlobals "InvalidTime" = some (some (.ref C_InvalidTime))) (x4_InvalidTime : PySem.W.subIn K (.ref C_InvalidTime) (.type "BaseException") = some true) (e4_InvalidTime : PySem.W.hasDictIn K C_InvalidTime = true)
    (e1_InvalidTime : PySem.W.findIn K (.ref C_InvalidTime) "__getattribute__" = some (some (.builtin "BaseException.__getattribute__"))) (e2_InvalidTime : PySem.W.findIn K (.ref C_InvalidTime) "__getattr__" = some none) (e3_InvalidTime : PySem.W.findIn K (.ref C_InvalidTime) "__class__" = some (some (.builtin "object.__class__"))) (e5_InvalidTime : PySem.W.mroIn K C_InvalidTime (.type "object") = some true)
    (xkkInt_InvalidTime : PySem.W.kitOne K (.ref C_InvalidTime) (.type "int") = some false)
    (xkkBool_InvalidTime : PySem.W.kitOne K (.ref C_InvalidTime) (.type "bool") = some false)
    (xkkStr_InvalidTime : PySem.W.kitOne K (.ref C_InvalidTime) (.type "str") = some false)
    (xkkTup_InvalidTime : PySem.W.kitOne K (.ref C_InvalidTime) (.type "tuple") = some false)
    (xkkLst_InvalidTime : PySem.W.kitOne K (.ref C_InvalidTime) (.type "list") = some false)
    (xkkDict_InvalidTime : PySem.W.kitOne K (.ref C_InvalidTime) (.type "dict") = some false)
    (en_count_InvalidTime : PySem.W.findIn K (.ref C_InvalidTime) "count" = some none)
    (en_time_InvalidTime : PySem.W.findIn K (.ref C_InvalidTime) "time" = some none)
    (kt_AlwaysTogether_InvalidTime : PySem.W.kitOne K (.ref C_InvalidTime) (.ref C_AlwaysTogether) = some false)
    (kt_BallsMeet_InvalidTime : PySem.W.kitOne K (.ref C_InvalidTime) (.ref C_BallsMeet) = some false)
    (kt_InvalidBall_InvalidTime : PySem.W.kitOne K (.ref C_InvalidTime) (.ref C_InvalidBall) = some false)
    (kt_InvalidBox_InvalidTime : PySem.W.kitOne K (.ref C_InvalidTime) (.ref C_InvalidBox) = some false)
    (kt_InvalidChange_InvalidTime : PySem.W.kitOne K (.ref C_InvalidTime) (.ref C_InvalidChange) = some false)
    (kt_InvalidCushion_InvalidTime : PySem.W.kitOne K (.ref C_InvalidTime) (.ref C_InvalidCushion) = some false)
    (kt_InvalidCushions_InvalidTime : PySem.W.kitOne K (.ref C_InvalidTime) (.ref C_InvalidCushions) = some false)
    (kt_InvalidIndex_InvalidTime : PySem.W.kitOne K (.ref C_InvalidTime) (.ref C_InvalidIndex) = some false)
    (kt_InvalidNumber_InvalidTime : PySem.W.kitOne K (.ref C_InvalidTime) (.ref C_InvalidNumber) = some false)
    (kt_InvalidPockets_InvalidTime : PySem.W.kitOne K (.ref C_InvalidTime) (.ref C_InvalidPockets) = some false)
    (kt_InvalidShot_InvalidTime : PySem.W.kitOne K (.ref C_InvalidTime) (.ref C_InvalidShot) = some false)
    (kt_InvalidShots_InvalidTime : PySem.W.kitOne K (.ref C_InvalidTime) (.ref C_InvalidShots) = some false)
    (kt_InvalidSide_InvalidTime : PySem.W.kitOne K (.ref C_InvalidTime) (.ref C_InvalidSide) = some false)
    (kt_InvalidSpot_InvalidTime : PySem.W.kitOne K (.ref C_InvalidTime) (.ref C_InvalidSpot) = some false)
    (kt_InvalidStretch_InvalidTime : PySem.W.kitOne K (.ref C_InvalidTime) (.ref C_InvalidStretch) = some false)
    (kt_InvalidStretches_InvalidTime : PySem.W.kitOne K (.ref C_InvalidTime) (.ref C_InvalidStretches) = some false)
    (kt_InvalidTable_InvalidTime : PySem.W.kitOne K (.ref C_InvalidTime) (.ref C_InvalidTable) = some false)
    (kt_InvalidText_InvalidTime : PySem.W.kitOne K (.ref C_InvalidTime) (.ref C_InvalidText) = some false)
    (kt_InvalidTime_InvalidTime : PySem.W.kitOne K (.ref C_InvalidTime) (.ref C_InvalidTime) = some true)
    (kt_NotABall_InvalidTime : PySem.W.kitOne K (.ref C_InvalidTime) (.ref C_NotABall) = some false)
    (kt_NothingToUndo_InvalidTime : PySem.W.kitOne K (.ref C_InvalidTime) (.ref C_NothingToUndo) = some false)
    (kt_OtherTable_InvalidTime : PySem.W.kitOne K (.ref C_InvalidTime) (.ref C_OtherTable) = some false)
    (kt_ShotError_InvalidTime : PySem.W.kitOne K (.ref C_InvalidTime) (.ref C_ShotError) = some true)
    (kt_TooMany_InvalidTime : PySem.W.kitOne K (.ref C_InvalidTime) (.ref C_TooMany) = some false)
    (kv_InvalidTime : PySem.W.kitOne K (.ref C_InvalidTime) (.type "ValueError") = some true)
    (x3_InvalidTime : PySem.W.keepIn K (.ref C_InvalidTime) = true) (x5_InvalidTime : PySem.W.typeIn K (.ref C_InvalidTime) = some (.type "type"))
    (x2_InvalidTime : PySem.W.excIn K C_InvalidTime [.type "ValueError", .type "Exception", .type "BaseException", .type "object"] "ValueError.__new__" = true)
    (x1_InvalidNumber : PySem.W.nsIn K mainGlobals "InvalidNumber" = some (some (.ref C_InvalidNumber))) (x4_InvalidNumber : PySem.W.subIn K (.ref C_InvalidNumber) (.type "BaseException") = some true) (e4_InvalidNumber : PySem.W.hasDictIn K C_InvalidNumber = true)
    (e1_InvalidNumber : PySem.W.findIn K (.ref C_InvalidNumber) "__getattribute__" = some (some (.builtin "BaseException.__getattribute__"))) (e2_InvalidNumber : PySem.W.findIn K (.ref C_InvalidNumber) "__getattr__" = some none) (e3_InvalidNumber : PySem.W.findIn K (.ref C_InvalidNumber) "__class__" = some (some (.builtin "object.__class__"))) (e5_InvalidNumber : PySem.W.mroIn K C_InvalidNumber (.type "object") = some true)
    (xkkInt_InvalidNumber : PySem.W.kitOne K (.ref C_InvalidNumber) (.type "int") = some false)
    (xkkBool_InvalidNumber : PySem.W.kitOne K (.ref C_InvalidNumber) (.type "bool") = some false)
    (xkkStr_InvalidNumber : PySem.W.kitOne K (.ref C_InvalidNumber) (.type "str") = some false)
    (xkkTup_InvalidNumber : PySem.W.kitOne K (.ref C_InvalidNumber) (.type "tuple") = some false)
    (xkkLst_InvalidNumber : PySem.W.kitOne K (.ref C_InvalidNumber) (.type "list") = some false)
    (xkkDict_InvalidNumber : PySem.W.kitOne K (.ref C_InvalidNumber) (.type "dict") = some false)
    (en_count_InvalidNumber : PySem.W.findIn K (.ref C_InvalidNumber) "count" = some none)
    (en_time_InvalidNumber : PySem.W.findIn K (.ref C_InvalidNumber) "time" = some none)
    (kt_AlwaysTogether_InvalidNumber : PySem.W.kitOne K (.ref C_InvalidNumber) (.ref C_AlwaysTogether) = some false)
    (kt_BallsMeet_InvalidNumber : PySem.W.kitOne K (.ref C_InvalidNumber) (.ref C_BallsMeet) = some false)
    (kt_InvalidBall_InvalidNumber : PySem.W.kitOne K (.ref C_InvalidNumber) (.ref C_InvalidBall) = some false)
    (kt_InvalidBox_InvalidNumber : PySem.W.kitOne K (.ref C_InvalidNumber) (.ref C_InvalidBox) = some false)
    (kt_InvalidChange_InvalidNumber : PySem.W.kitOne K (.ref C_InvalidNumber) (.ref C_InvalidChange) = some false)
    (kt_InvalidCushion_InvalidNumber : PySem.W.kitOne K (.ref C_InvalidNumber) (.ref C_InvalidCushion) = some false)
    (kt_InvalidCushions_InvalidNumber : PySem.W.kitOne K (.ref C_InvalidNumber) (.ref C_InvalidCushions) = some false)
    (kt_InvalidIndex_InvalidNumber : PySem.W.kitOne K (.ref C_InvalidNumber) (.ref C_InvalidIndex) = some false)
    (kt_InvalidNumber_InvalidNumber : PySem.W.kitOne K (.ref C_InvalidNumber) (.ref C_InvalidNumber) = some true)
    (kt_InvalidPockets_InvalidNumber : PySem.W.kitOne K (.ref C_InvalidNumber) (.ref C_InvalidPockets) = some false)
    (kt_InvalidShot_InvalidNumber : PySem.W.kitOne K (.ref C_InvalidNumber) (.ref C_InvalidShot) = some false)
    (kt_InvalidShots_InvalidNumber : PySem.W.kitOne K (.ref C_InvalidNumber) (.ref C_InvalidShots) = some false)
    (kt_InvalidSide_InvalidNumber : PySem.W.kitOne K (.ref C_InvalidNumber) (.ref C_InvalidSide) = some false)
    (kt_InvalidSpot_InvalidNumber : PySem.W.kitOne K (.ref C_InvalidNumber) (.ref C_InvalidSpot) = some false)
    (kt_InvalidStretch_InvalidNumber : PySem.W.kitOne K (.ref C_InvalidNumber) (.ref C_InvalidStretch) = some false)
    (kt_InvalidStretches_InvalidNumber : PySem.W.kitOne K (.ref C_InvalidNumber) (.ref C_InvalidStretches) = some false)
    (kt_InvalidTable_InvalidNumber : PySem.W.kitOne K (.ref C_InvalidNumber) (.ref C_InvalidTable) = some false)
    (kt_InvalidText_InvalidNumber : PySem.W.kitOne K (.ref C_InvalidNumber) (.ref C_InvalidText) = some false)
    (kt_InvalidTime_InvalidNumber : PySem.W.kitOne K (.ref C_InvalidNumber) (.ref C_InvalidTime) = some false)
    (kt_NotABall_InvalidNumber : PySem.W.kitOne K (.ref C_InvalidNumber) (.ref C_NotABall) = some false)
    (kt_NothingToUndo_InvalidNumber : PySem.W.kitOne K (.ref C_InvalidNumber) (.ref C_NothingToUndo) = some false)
    (kt_OtherTable_InvalidNumber : PySem.W.kitOne K (.ref C_InvalidNumber) (.ref C_OtherTable) = some false)
    (kt_ShotError_InvalidNumber : PySem.W.kitOne K (.ref C_InvalidNumber) (.ref C_ShotError) = some true)
    (kt_TooMany_InvalidNumber : PySem.W.kitOne K (.ref C_InvalidNumber) (.ref C_TooMany) = some false)
    (kv_InvalidNumber : PySem.W.kitOne K (.ref C_InvalidNumber) (.type "ValueError") = some true)
    (x3_InvalidNumber : PySem.W.keepIn K (.ref C_InvalidNumber) = true) (x5_InvalidNumber : PySem.W.typeIn K (.ref C_InvalidNumber) = some (.type "type"))
    (x2_InvalidNumber : PySem.W.excIn K C_InvalidNumber [.type "ValueError", .type "Exception", .type "BaseException", .type "object"] "ValueError.__new__" = true)
    (x1_InvalidIndex : PySem.W.nsIn K mainGlobals "InvalidIndex" = some (some (.ref C_InvalidIndex))) (x4_InvalidIndex : PySem.W.subIn K (.ref C_InvalidIndex) (.type "BaseException") = some true) (e4_InvalidIndex : PySem.W.hasDictIn K C_InvalidIndex = true)
    (e1_InvalidIndex : PySem.W.findIn K (.ref C_InvalidIndex) "__getattribute__" = some (some (.builtin "BaseException.__getattribute__"))) (e2_InvalidIndex : PySem.W.findIn K (.ref C_InvalidIndex) "__getattr__" = some none) (e3_InvalidIndex : PySem.W.findIn K (.ref C_InvalidIndex) "__class__" = some (some (.builtin "object.__class__"))) (e5_InvalidIndex : PySem.W.mroIn K C_InvalidIndex (.type "object") = some true)
    (xkkInt_InvalidIndex : PySem.W.kitOne K (.ref C_InvalidIndex) (.type "int") = some false)
    (xkkBool_InvalidIndex : PySem.W.kitOne K (.ref C_InvalidIndex) (.type "bool") = some false)
    (xkkStr_InvalidIndex : PySem.W.kitOne K (.ref C_InvalidIndex) (.type "str") = some false)
    (xkkTup_InvalidIndex : PySem.W.kitOne K (.ref C_InvalidIndex) (.type "tuple") = some false)
    (xkkLst_InvalidIndex : PySem.W.kitOne K (.ref C_InvalidIndex) (.type "list") = some false)
    (xkkDict_InvalidIndex : PySem.W.kitOne K (.ref C_InvalidIndex) (.type "dict") = some false)
    (en_count_InvalidIndex : PySem.W.findIn K (.ref C_InvalidIndex) "count" = some none)
    (en_time_InvalidIndex : PySem.W.findIn K (.ref C_InvalidIndex) "time" = some none)
    (kt_AlwaysTogether_InvalidIndex : PySem.W.kitOne K (.ref C_InvalidIndex) (.ref C_AlwaysTogether) = some false)
    (kt_BallsMeet_InvalidIndex : PySem.W.kitOne K (.ref C_InvalidIndex) (.ref C_BallsMeet) = some false)
    (kt_InvalidBall_InvalidIndex : PySem.W.kitOne K (.ref C_InvalidIndex) (.ref C_InvalidBall) = some false)
    (kt_InvalidBox_InvalidIndex : PySem.W.kitOne K (.ref C_InvalidIndex) (.ref C_InvalidBox) = some false)
    (kt_InvalidChange_InvalidIndex : PySem.W.kitOne K (.ref C_InvalidIndex) (.ref C_InvalidChange) = some false)
    (kt_InvalidCushion_InvalidIndex : PySem.W.kitOne K (.ref C_InvalidIndex) (.ref C_InvalidCushion) = some false)
    (kt_InvalidCushions_InvalidIndex : PySem.W.kitOne K (.ref C_InvalidIndex) (.ref C_InvalidCushions) = some false)
    (kt_InvalidIndex_InvalidIndex : PySem.W.kitOne K (.ref C_InvalidIndex) (.ref C_InvalidIndex) = some true)
    (kt_InvalidNumber_InvalidIndex : PySem.W.kitOne K (.ref C_InvalidIndex) (.ref C_InvalidNumber) = some false)
    (kt_InvalidPockets_InvalidIndex : PySem.W.kitOne K (.ref C_InvalidIndex) (.ref C_InvalidPockets) = some false)
    (kt_InvalidShot_InvalidIndex : PySem.W.kitOne K (.ref C_InvalidIndex) (.ref C_InvalidShot) = some false)
    (kt_InvalidShots_InvalidIndex : PySem.W.kitOne K (.ref C_InvalidIndex) (.ref C_InvalidShots) = some false)
    (kt_InvalidSide_InvalidIndex : PySem.W.kitOne K (.ref C_InvalidIndex) (.ref C_InvalidSide) = some false)
    (kt_InvalidSpot_InvalidIndex : PySem.W.kitOne K (.ref C_InvalidIndex) (.ref C_InvalidSpot) = some false)
    (kt_InvalidStretch_InvalidIndex : PySem.W.kitOne K (.ref C_InvalidIndex) (.ref C_InvalidStretch) = some false)
    (kt_InvalidStretches_InvalidIndex : PySem.W.kitOne K (.ref C_InvalidIndex) (.ref C_InvalidStretches) = some false)
    (kt_InvalidTable_InvalidIndex : PySem.W.kitOne K (.ref C_InvalidIndex) (.ref C_InvalidTable) = some false)
    (kt_InvalidText_InvalidIndex : PySem.W.kitOne K (.ref C_InvalidIndex) (.ref C_InvalidText) = some false)
    (kt_InvalidTime_InvalidIndex : PySem.W.kitOne K (.ref C_InvalidIndex) (.ref C_InvalidTime) = some false)
    (kt_NotABall_InvalidIndex : PySem.W.kitOne K (.ref C_InvalidIndex) (.ref C_NotABall) = some false)
    (kt_NothingToUndo_InvalidIndex : PySem.W.kitOne K (.ref C_InvalidIndex) (.ref C_NothingToUndo) = some false)
    (kt_OtherTable_InvalidIndex : PySem.W.kitOne K (.ref C_InvalidIndex) (.ref C_OtherTable) = some false)
    (kt_ShotError_InvalidIndex : PySem.W.kitOne K (.ref C_InvalidIndex) (.ref C_ShotError) = some true)
    (kt_TooMany_InvalidIndex : PySem.W.kitOne K (.ref C_InvalidIndex) (.ref C_TooMany) = some false)
    (kv_InvalidIndex : PySem.W.kitOne K (.ref C_InvalidIndex) (.type "ValueError") = some true)
    (x3_InvalidIndex : PySem.W.keepIn K (.ref C_InvalidIndex) = true) (x5_InvalidIndex : PySem.W.typeIn K (.ref C_InvalidIndex) = some (.type "type"))
    (x2_InvalidIndex : PySem.W.excIn K C_InvalidIndex [.type "ValueError", .type "Exception", .type "BaseException", .type "object"] "ValueError.__new__" = true)
    (x1_InvalidCushion : PySem.W.nsIn K mainGlobals "InvalidCushion" = some (some (.ref C_InvalidCushion))) (x4_InvalidCushion : PySem.W.subIn K (.ref C_InvalidCushion) (.type "BaseException") = some true) (e4_InvalidCushion : PySem.W.hasDictIn K C_InvalidCushion = true)
    (e1_InvalidCushion : PySem.W.findIn K (.ref C_InvalidCushion) "__getattribute__" = some (some (.builtin "BaseException.__getattribute__"))) (e2_InvalidCushion : PySem.W.findIn K (.ref C_InvalidCushion) "__getattr__" = some none) (e3_InvalidCushion : PySem.W.findIn K (.ref C_InvalidCushion) "__class__" = some (some (.builtin "object.__class__"))) (e5_InvalidCushion : PySem.W.mroIn K C_InvalidCushion (.type "object") = some true)
    (xkkInt_InvalidCushion : PySem.W.kitOne K (.ref C_InvalidCushion) (.type "int") = some false)
    (xkkBool_InvalidCushion : PySem.W.kitOne K (.ref C_InvalidCushion) (.type "bool") = some false)
    (xkkStr_InvalidCushion : PySem.W.kitOne K (.ref C_InvalidCushion) (.type "str") = some false)
    (xkkTup_InvalidCushion : PySem.W.kitOne K (.ref C_InvalidCushion) (.type "tuple") = some false)
    (xkkLst_InvalidCushion : PySem.W.kitOne K (.ref C_InvalidCushion) (.type "list") = some false)
    (xkkDict_InvalidCushion : PySem.W.kitOne K (.ref C_InvalidCushion) (.type "dict") = some false)
    (en_count_InvalidCushion : PySem.W.findIn K (.ref C_InvalidCushion) "count" = some none)
    (en_time_InvalidCushion : PySem.W.findIn K (.ref C_InvalidCushion) "time" = some none)
    (kt_AlwaysTogether_InvalidCushion : PySem.W.kitOne K (.ref C_InvalidCushion) (.ref C_AlwaysTogether) = some false)
    (kt_BallsMeet_InvalidCushion : PySem.W.kitOne K (.ref C_InvalidCushion) (.ref C_BallsMeet) = some false)
    (kt_InvalidBall_InvalidCushion : PySem.W.kitOne K (.ref C_InvalidCushion) (.ref C_InvalidBall) = some false)
    (kt_InvalidBox_InvalidCushion : PySem.W.kitOne K (.ref C_InvalidCushion) (.ref C_InvalidBox) = some false)
    (kt_InvalidChange_InvalidCushion : PySem.W.kitOne K (.ref C_InvalidCushion) (.ref C_InvalidChange) = some false)
    (kt_InvalidCushion_InvalidCushion : PySem.W.kitOne K (.ref C_InvalidCushion) (.ref C_InvalidCushion) = some true)
    (kt_InvalidCushions_InvalidCushion : PySem.W.kitOne K (.ref C_InvalidCushion) (.ref C_InvalidCushions) = some false)
    (kt_InvalidIndex_InvalidCushion : PySem.W.kitOne K (.ref C_InvalidCushion) (.ref C_InvalidIndex) = some false)
    (kt_InvalidNumber_InvalidCushion : PySem.W.kitOne K (.ref C_InvalidCushion) (.ref C_InvalidNumber) = some false)
    (kt_InvalidPockets_InvalidCushion : PySem.W.kitOne K (.ref C_InvalidCushion) (.ref C_InvalidPockets) = some false)
    (kt_InvalidShot_InvalidCushion : PySem.W.kitOne K (.ref C_InvalidCushion) (.ref C_InvalidShot) = some false)
    (kt_InvalidShots_InvalidCushion : PySem.W.kitOne K (.ref C_InvalidCushion) (.ref C_InvalidShots) = some false)
    (kt_InvalidSide_InvalidCushion : PySem.W.kitOne K (.ref C_InvalidCushion) (.ref C_InvalidSide) = some false)
    (kt_InvalidSpot_InvalidCushion : PySem.W.kitOne K (.ref C_InvalidCushion) (.ref C_InvalidSpot) = some false)
    (kt_InvalidStretch_InvalidCushion : PySem.W.kitOne K (.ref C_InvalidCushion) (.ref C_InvalidStretch) = some false)
    (kt_InvalidStretches_InvalidCushion : PySem.W.kitOne K (.ref C_InvalidCushion) (.ref C_InvalidStretches) = some false)
    (kt_InvalidTable_InvalidCushion : PySem.W.kitOne K (.ref C_InvalidCushion) (.ref C_InvalidTable) = some false)
    (kt_InvalidText_InvalidCushion : PySem.W.kitOne K (.ref C_InvalidCushion) (.ref C_InvalidText) = some false)
    (kt_InvalidTime_InvalidCushion : PySem.W.kitOne K (.ref C_InvalidCushion) (.ref C_InvalidTime) = some false)
    (kt_NotABall_InvalidCushion : PySem.W.kitOne K (.ref C_InvalidCushion) (.ref C_NotABall) = some false)
    (kt_NothingToUndo_InvalidCushion : PySem.W.kitOne K (.ref C_InvalidCushion) (.ref C_NothingToUndo) = some false)
    (kt_OtherTable_InvalidCushion : PySem.W.kitOne K (.ref C_InvalidCushion) (.ref C_OtherTable) = some false)
    (kt_ShotError_InvalidCushion : PySem.W.kitOne K (.ref C_InvalidCushion) (.ref C_ShotError) = some true)
    (kt_TooMany_InvalidCushion : PySem.W.kitOne K (.ref C_InvalidCushion) (.ref C_TooMany) = some false)
    (kv_InvalidCushion : PySem.W.kitOne K (.ref C_InvalidCushion) (.type "ValueError") = some true)
    (x3_InvalidCushion : PySem.W.keepIn K (.ref C_InvalidCushion) = true) (x5_InvalidCushion : PySem.W.typeIn K (.ref C_InvalidCushion) = some (.type "type"))
    (x2_InvalidCushion : PySem.W.excIn K C_InvalidCushion [.type "ValueError", .type "Exception", .type "BaseException", .type "object"] "ValueError.__new__" = true)
    (x1_InvalidSpot : PySem.W.nsIn K mainGlobals "InvalidSpot" = some (some (.ref C_InvalidSpot))) (x4_InvalidSpot : PySem.W.subIn K (.ref C_InvalidSpot) (.type "BaseException") = some true) (e4_InvalidSpot : PySem.W.hasDictIn K C_InvalidSpot = true)
    (e1_InvalidSpot : PySem.W.findIn K (.ref C_InvalidSpot) "__getattribute__" = some (some (.builtin "BaseException.__getattribute__"))) (e2_InvalidSpot : PySem.W.findIn K (.ref C_InvalidSpot) "__getattr__" = some none) (e3_InvalidSpot : PySem.W.findIn K (.ref C_InvalidSpot) "__class__" = some (some (.builtin "object.__class__"))) (e5_InvalidSpot : PySem.W.mroIn K C_InvalidSpot (.type "object") = some true)
    (xkkInt_InvalidSpot : PySem.W.kitOne K (.ref C_InvalidSpot) (.type "int") = some false)
    (xkkBool_InvalidSpot : PySem.W.kitOne K (.ref C_InvalidSpot) (.type "bool") = some false)
    (xkkStr_InvalidSpot : PySem.W.kitOne K (.ref C_InvalidSpot) (.type "str") = some false)
    (xkkTup_InvalidSpot : PySem.W.kitOne K (.ref C_InvalidSpot) (.type "tuple") = some false)
    (xkkLst_InvalidSpot : PySem.W.kitOne K (.ref C_InvalidSpot) (.type "list") = some false)
    (xkkDict_InvalidSpot : PySem.W.kitOne K (.ref C_InvalidSpot) (.type "dict") = some false)
    (en_count_InvalidSpot : PySem.W.findIn K (.ref C_InvalidSpot) "count" = some none)
    (en_time_InvalidSpot : PySem.W.findIn K (.ref C_InvalidSpot) "time" = some none)
    (kt_AlwaysTogether_InvalidSpot : PySem.W.kitOne K (.ref C_InvalidSpot) (.ref C_AlwaysTogether) = some false)
    (kt_BallsMeet_InvalidSpot : PySem.W.kitOne K (.ref C_InvalidSpot) (.ref C_BallsMeet) = some false)
    (kt_InvalidBall_InvalidSpot : PySem.W.kitOne K (.ref C_InvalidSpot) (.ref C_InvalidBall) = some false)
    (kt_InvalidBox_InvalidSpot : PySem.W.kitOne K (.ref C_InvalidSpot) (.ref C_InvalidBox) = some false)
    (kt_InvalidChange_InvalidSpot : PySem.W.kitOne K (.ref C_InvalidSpot) (.ref C_InvalidChange) = some false)
    (kt_InvalidCushion_InvalidSpot : PySem.W.kitOne K (.ref C_InvalidSpot) (.ref C_InvalidCushion) = some false)
    (kt_InvalidCushions_InvalidSpot : PySem.W.kitOne K (.ref C_InvalidSpot) (.ref C_InvalidCushions) = some false)
    (kt_InvalidIndex_InvalidSpot : PySem.W.kitOne K (.ref C_InvalidSpot) (.ref C_InvalidIndex) = some false)
    (kt_InvalidNumber_InvalidSpot : PySem.W.kitOne K (.ref C_InvalidSpot) (.ref C_InvalidNumber) = some false)
    (kt_InvalidPockets_InvalidSpot : PySem.W.kitOne K (.ref C_InvalidSpot) (.ref C_InvalidPockets) = some false)
    (kt_InvalidShot_InvalidSpot : PySem.W.kitOne K (.ref C_InvalidSpot) (.ref C_InvalidShot) = some false)
    (kt_InvalidShots_InvalidSpot : PySem.W.kitOne K (.ref C_InvalidSpot) (.ref C_InvalidShots) = some false)
    (kt_InvalidSide_InvalidSpot : PySem.W.kitOne K (.ref C_InvalidSpot) (.ref C_InvalidSide) = some false)
    (kt_InvalidSpot_InvalidSpot : PySem.W.kitOne K (.ref C_InvalidSpot) (.ref C_InvalidSpot) = some true)
    (kt_InvalidStretch_InvalidSpot : PySem.W.kitOne K (.ref C_InvalidSpot) (.ref C_InvalidStretch) = some false)
    (kt_InvalidStretches_InvalidSpot : PySem.W.kitOne K (.ref C_InvalidSpot) (.ref C_InvalidStretches) = some false)
    (kt_InvalidTable_InvalidSpot : PySem.W.kitOne K (.ref C_InvalidSpot) (.ref C_InvalidTable) = some false)
    (kt_InvalidText_InvalidSpot : PySem.W.kitOne K (.ref C_InvalidSpot) (.ref C_InvalidText) = some false)
    (kt_InvalidTime_InvalidSpot : PySem.W.kitOne K (.ref C_InvalidSpot) (.ref C_InvalidTime) = some false)
    (kt_NotABall_InvalidSpot : PySem.W.kitOne K (.ref C_InvalidSpot) (.ref C_NotABall) = some false)
    (kt_NothingToUndo_InvalidSpot : PySem.W.kitOne K (.ref C_InvalidSpot) (.ref C_NothingToUndo) = some false)
    (kt_OtherTable_InvalidSpot : PySem.W.kitOne K (.ref C_InvalidSpot) (.ref C_OtherTable) = some false)
    (kt_ShotError_InvalidSpot : PySem.W.kitOne K (.ref C_InvalidSpot) (.ref C_ShotError) = some true)
    (kt_TooMany_InvalidSpot : PySem.W.kitOne K (.ref C_InvalidSpot) (.ref C_TooMany) = some false)
    (kv_InvalidSpot : PySem.W.kitOne K (.ref C_InvalidSpot) (.type "ValueError") = some true)
    (x3_InvalidSpot : PySem.W.keepIn K (.ref C_InvalidSpot) = true) (x5_InvalidSpot : PySem.W.typeIn K (.ref C_InvalidSpot) = some (.type "type"))
    (x2_InvalidSpot : PySem.W.excIn K C_InvalidSpot [.type "ValueError", .type "Exception", .type "BaseException", .type "object"] "ValueError.__new__" = true)
    (x1_InvalidBox : PySem.W.nsIn K mainGlobals "InvalidBox" = some (some (.ref C_InvalidBox))) (x4_InvalidBox : PySem.W.subIn K (.ref C_InvalidBox) (.type "BaseException") = some true) (e4_InvalidBox : PySem.W.hasDictIn K C_InvalidBox = true)
    (e1_InvalidBox : PySem.W.findIn K (.ref C_InvalidBox) "__getattribute__" = some (some (.builtin "BaseException.__getattribute__"))) (e2_InvalidBox : PySem.W.findIn K (.ref C_InvalidBox) "__getattr__" = some none) (e3_InvalidBox : PySem.W.findIn K (.ref C_InvalidBox) "__class__" = some (some (.builtin "object.__class__"))) (e5_InvalidBox : PySem.W.mroIn K C_InvalidBox (.type "object") = some true)
    (xkkInt_InvalidBox : PySem.W.kitOne K (.ref C_InvalidBox) (.type "int") = some false)
    (xkkBool_InvalidBox : PySem.W.kitOne K (.ref C_InvalidBox) (.type "bool") = some false)
    (xkkStr_InvalidBox : PySem.W.kitOne K (.ref C_InvalidBox) (.type "str") = some false)
    (xkkTup_InvalidBox : PySem.W.kitOne K (.ref C_InvalidBox) (.type "tuple") = some false)
    (xkkLst_InvalidBox : PySem.W.kitOne K (.ref C_InvalidBox) (.type "list") = some false)
    (xkkDict_InvalidBox : PySem.W.kitOne K (.ref C_InvalidBox) (.type "dict") = some false)
    (en_count_InvalidBox : PySem.W.findIn K (.ref C_InvalidBox) "count" = some none)
    (en_time_InvalidBox : PySem.W.findIn K (.ref C_InvalidBox) "time" = some none)
    (kt_AlwaysTogether_InvalidBox : PySem.W.kitOne K (.ref C_InvalidBox) (.ref C_AlwaysTogether) = some false)
    (kt_BallsMeet_InvalidBox : PySem.W.kitOne K (.ref C_InvalidBox) (.ref C_BallsMeet) = some false)
    (kt_InvalidBall_InvalidBox : PySem.W.kitOne K (.ref C_InvalidBox) (.ref C_InvalidBall) = some false)
    (kt_InvalidBox_InvalidBox : PySem.W.kitOne K (.ref C_InvalidBox) (.ref C_InvalidBox) = some true)
    (kt_InvalidChange_InvalidBox : PySem.W.kitOne K (.ref C_InvalidBox) (.ref C_InvalidChange) = some false)
    (kt_InvalidCushion_InvalidBox : PySem.W.kitOne K (.ref C_InvalidBox) (.ref C_InvalidCushion) = some false)
    (kt_InvalidCushions_InvalidBox : PySem.W.kitOne K (.ref C_InvalidBox) (.ref C_InvalidCushions) = some false)
    (kt_InvalidIndex_InvalidBox : PySem.W.kitOne K (.ref C_InvalidBox) (.ref C_InvalidIndex) = some false)
    (kt_InvalidNumber_InvalidBox : PySem.W.kitOne K (.ref C_InvalidBox) (.ref C_InvalidNumber) = some false)
    (kt_InvalidPockets_InvalidBox : PySem.W.kitOne K (.ref C_InvalidBox) (.ref C_InvalidPockets) = some false)
    (kt_InvalidShot_InvalidBox : PySem.W.kitOne K (.ref C_InvalidBox) (.ref C_InvalidShot) = some false)
    (kt_InvalidShots_InvalidBox : PySem.W.kitOne K (.ref C_InvalidBox) (.ref C_InvalidShots) = some false)
    (kt_InvalidSide_InvalidBox : PySem.W.kitOne K (.ref C_InvalidBox) (.ref C_InvalidSide) = some false)
    (kt_InvalidSpot_InvalidBox : PySem.W.kitOne K (.ref C_InvalidBox) (.ref C_InvalidSpot) = some false)
    (kt_InvalidStretch_InvalidBox : PySem.W.kitOne K (.ref C_InvalidBox) (.ref C_InvalidStretch) = some false)
    (kt_InvalidStretches_InvalidBox : PySem.W.kitOne K (.ref C_InvalidBox) (.ref C_InvalidStretches) = some false)
    (kt_InvalidTable_InvalidBox : PySem.W.kitOne K (.ref C_InvalidBox) (.ref C_InvalidTable) = some false)
    (kt_InvalidText_InvalidBox : PySem.W.kitOne K (.ref C_InvalidBox) (.ref C_InvalidText) = some false)
    (kt_InvalidTime_InvalidBox : PySem.W.kitOne K (.ref C_InvalidBox) (.ref C_InvalidTime) = some false)
    (kt_NotABall_InvalidBox : PySem.W.kitOne K (.ref C_InvalidBox) (.ref C_NotABall) = some false)
    (kt_NothingToUndo_InvalidBox : PySem.W.kitOne K (.ref C_InvalidBox) (.ref C_NothingToUndo) = some false)
    (kt_OtherTable_InvalidBox : PySem.W.kitOne K (.ref C_InvalidBox) (.ref C_OtherTable) = some false)
    (kt_ShotError_InvalidBox : PySem.W.kitOne K (.ref C_InvalidBox) (.ref C_ShotError) = some true)
    (kt_TooMany_InvalidBox : PySem.W.kitOne K (.ref C_InvalidBox) (.ref C_TooMany) = some false)
    (kv_InvalidBox : PySem.W.kitOne K (.ref C_InvalidBox) (.type "ValueError") = some true)
    (x3_InvalidBox : PySem.W.keepIn K (.ref C_InvalidBox) = true) (x5_InvalidBox : PySem.W.typeIn K (.ref C_InvalidBox) = some (.type "type"))
    (x2_InvalidBox : PySem.W.excIn K C_InvalidBox [.type "ValueError", .type "Exception", .type "BaseException", .type "object"] "ValueError.__new__" = true)
    (x1_InvalidStretch : PySem.W.nsIn K mainGlobals "InvalidStretch" = some (some (.ref C_InvalidStretch))) (x4_InvalidStretch : PySem.W.subIn K (.ref C_InvalidStretch) (.type "BaseException") = some true) (e4_InvalidStretch : PySem.W.hasDictIn K C_InvalidStretch = true)
    (e1_InvalidStretch : PySem.W.findIn K (.ref C_InvalidStretch) "__getattribute__" = some (some (.builtin "BaseException.__getattribute__"))) (e2_InvalidStretch : PySem.W.findIn K (.ref C_InvalidStretch) "__getattr__" = some none) (e3_InvalidStretch : PySem.W.findIn K (.ref C_InvalidStretch) "__class__" = some (some (.builtin "object.__class__"))) (e5_InvalidStretch : PySem.W.mroIn K C_InvalidStretch (.type "object") = some true)
    (xkkInt_InvalidStretch : PySem.W.kitOne K (.ref C_InvalidStretch) (.type "int") = some false)
    (xkkBool_InvalidStretch : PySem.W.kitOne K (.ref C_InvalidStretch) (.type "bool") = some false)
    (xkkStr_InvalidStretch : PySem.W.kitOne K (.ref C_InvalidStretch) (.type "str") = some false)
    (xkkTup_InvalidStretch : PySem.W.kitOne K (.ref C_InvalidStretch) (.type "tuple") = some false)
    (xkkLst_InvalidStretch : PySem.W.kitOne K (.ref C_InvalidStretch) (.type "list") = some false)
    (xkkDict_InvalidStretch : PySem.W.kitOne K (.ref C_InvalidStretch) (.type "dict") = some false)
    (en_count_InvalidStretch : PySem.W.findIn K (.ref C_InvalidStretch) "count" = some none)
    (en_time_InvalidStretch : PySem.W.findIn K (.ref C_InvalidStretch) "time" = some none)
    (kt_AlwaysTogether_InvalidStretch : PySem.W.kitOne K (.ref C_InvalidStretch) (.ref C_AlwaysTogether) = some false)
    (kt_BallsMeet_InvalidStretch : PySem.W.kitOne K (.ref C_InvalidStretch) (.ref C_BallsMeet) = some false)
    (kt_InvalidBall_InvalidStretch : PySem.W.kitOne K (.ref C_InvalidStretch) (.ref C_InvalidBall) = some false)
    (kt_InvalidBox_InvalidStretch : PySem.W.kitOne K (.ref C_InvalidStretch) (.ref C_InvalidBox) = some false)
    (kt_InvalidChange_InvalidStretch : PySem.W.kitOne K (.ref C_InvalidStretch) (.ref C_InvalidChange) = some false)
    (kt_InvalidCushion_InvalidStretch : PySem.W.kitOne K (.ref C_InvalidStretch) (.ref C_InvalidCushion) = some false)
    (kt_InvalidCushions_InvalidStretch : PySem.W.kitOne K (.ref C_InvalidStretch) (.ref C_InvalidCushions) = some false)
    (kt_InvalidIndex_InvalidStretch : PySem.W.kitOne K (.ref C_InvalidStretch) (.ref C_InvalidIndex) = some false)
    (kt_InvalidNumber_InvalidStretch : PySem.W.kitOne K (.ref C_InvalidStretch) (.ref C_InvalidNumber) = some false)
    (kt_InvalidPockets_InvalidStretch : PySem.W.kitOne K (.ref C_InvalidStretch) (.ref C_InvalidPockets) = some false)
    (kt_InvalidShot_InvalidStretch : PySem.W.kitOne K (.ref C_InvalidStretch) (.ref C_InvalidShot) = some false)
    (kt_InvalidShots_InvalidStretch : PySem.W.kitOne K (.ref C_InvalidStretch) (.ref C_InvalidShots) = some false)
    (kt_InvalidSide_InvalidStretch : PySem.W.kitOne K (.ref C_InvalidStretch) (.ref C_InvalidSide) = some false)
    (kt_InvalidSpot_InvalidStretch : PySem.W.kitOne K (.ref C_InvalidStretch) (.ref C_InvalidSpot) = some false)
    (kt_InvalidStretch_InvalidStretch : PySem.W.kitOne K (.ref C_InvalidStretch) (.ref C_InvalidStretch) = some true)
    (kt_InvalidStretches_InvalidStretch : PySem.W.kitOne K (.ref C_InvalidStretch) (.ref C_InvalidStretches) = some false)
    (kt_InvalidTable_InvalidStretch : PySem.W.kitOne K (.ref C_InvalidStretch) (.ref C_InvalidTable) = some false)
    (kt_InvalidText_InvalidStretch : PySem.W.kitOne K (.ref C_InvalidStretch) (.ref C_InvalidText) = some false)
    (kt_InvalidTime_InvalidStretch : PySem.W.kitOne K (.ref C_InvalidStretch) (.ref C_InvalidTime) = some false)
    (kt_NotABall_InvalidStretch : PySem.W.kitOne K (.ref C_InvalidStretch) (.ref C_NotABall) = some false)
    (kt_NothingToUndo_InvalidStretch : PySem.W.kitOne K (.ref C_InvalidStretch) (.ref C_NothingToUndo) = some false)
    (kt_OtherTable_InvalidStretch : PySem.W.kitOne K (.ref C_InvalidStretch) (.ref C_OtherTable) = some false)
    (kt_ShotError_InvalidStretch : PySem.W.kitOne K (.ref C_InvalidStretch) (.ref C_ShotError) = some true)
    (kt_TooMany_InvalidStretch : PySem.W.kitOne K (.ref C_InvalidStretch) (.ref C_TooMany) = some false)
    (kv_InvalidStretch : PySem.W.kitOne K (.ref C_InvalidStretch) (.type "ValueError") = some true)
    (x3_InvalidStretch : PySem.W.keepIn K (.ref C_InvalidStretch) = true) (x5_InvalidStretch : PySem.W.typeIn K (.ref C_InvalidStretch) = some (.type "type"))
    (x2_InvalidStretch : PySem.W.excIn K C_InvalidStretch [.type "ValueError", .type "Exception", .type "BaseException", .type "object"] "ValueError.__new__" = true)
    (x1_InvalidStretches : PySem.W.nsIn K mainGlobals "InvalidStretches" = some (some (.ref C_InvalidStretches))) (x4_InvalidStretches : PySem.W.subIn K (.ref C_InvalidStretches) (.type "BaseException") = some true) (e4_InvalidStretches : PySem.W.hasDictIn K C_InvalidStretches = true)
    (e1_InvalidStretches : PySem.W.findIn K (.ref C_InvalidStretches) "__getattribute__" = some (some (.builtin "BaseException.__getattribute__"))) (e2_InvalidStretches : PySem.W.findIn K (.ref C_InvalidStretches) "__getattr__" = some none) (e3_InvalidStretches : PySem.W.findIn K (.ref C_InvalidStretches) "__class__" = some (some (.builtin "object.__class__"))) (e5_InvalidStretches : PySem.W.mroIn K C_InvalidStretches (.type "object") = some true)
    (xkkInt_InvalidStretches : PySem.W.kitOne K (.ref C_InvalidStretches) (.type "int") = some false)
    (xkkBool_InvalidStretches : PySem.W.kitOne K (.ref C_InvalidStretches) (.type "bool") = some false)
    (xkkStr_InvalidStretches : PySem.W.kitOne K (.ref C_InvalidStretches) (.type "str") = some false)
    (xkkTup_InvalidStretches : PySem.W.kitOne K (.ref C_InvalidStretches) (.type "tuple") = some false)
    (xkkLst_InvalidStretches : PySem.W.kitOne K (.ref C_InvalidStretches) (.type "list") = some false)
    (xkkDict_InvalidStretches : PySem.W.kitOne K (.ref C_InvalidStretches) (.type "dict") = some false)
    (en_count_InvalidStretches : PySem.W.findIn K (.ref C_InvalidStretches) "count" = some none)
    (en_time_InvalidStretches : PySem.W.findIn K (.ref C_InvalidStretches) "time" = some none)
    (kt_AlwaysTogether_InvalidStretches : PySem.W.kitOne K (.ref C_InvalidStretches) (.ref C_AlwaysTogether) = some false)
    (kt_BallsMeet_InvalidStretches : PySem.W.kitOne K (.ref C_InvalidStretches) (.ref C_BallsMeet) = some false)
    (kt_InvalidBall_InvalidStretches : PySem.W.kitOne K (.ref C_InvalidStretches) (.ref C_InvalidBall) = some false)
    (kt_InvalidBox_InvalidStretches : PySem.W.kitOne K (.ref C_InvalidStretches) (.ref C_InvalidBox) = some false)
    (kt_InvalidChange_InvalidStretches : PySem.W.kitOne K (.ref C_InvalidStretches) (.ref C_InvalidChange) = some false)
    (kt_InvalidCushion_InvalidStretches : PySem.W.kitOne K (.ref C_InvalidStretches) (.ref C_InvalidCushion) = some false)
    (kt_InvalidCushions_InvalidStretches : PySem.W.kitOne K (.ref C_InvalidStretches) (.ref C_InvalidCushions) = some false)
    (kt_InvalidIndex_InvalidStretches : PySem.W.kitOne K (.ref C_InvalidStretches) (.ref C_InvalidIndex) = some false)
    (kt_InvalidNumber_InvalidStretches : PySem.W.kitOne K (.ref C_InvalidStretches) (.ref C_InvalidNumber) = some false)
    (kt_InvalidPockets_InvalidStretches : PySem.W.kitOne K (.ref C_InvalidStretches) (.ref C_InvalidPockets) = some false)
    (kt_InvalidShot_InvalidStretches : PySem.W.kitOne K (.ref C_InvalidStretches) (.ref C_InvalidShot) = some false)
    (kt_InvalidShots_InvalidStretches : PySem.W.kitOne K (.ref C_InvalidStretches) (.ref C_InvalidShots) = some false)
    (kt_InvalidSide_InvalidStretches : PySem.W.kitOne K (.ref C_InvalidStretches) (.ref C_InvalidSide) = some false)
    (kt_InvalidSpot_InvalidStretches : PySem.W.kitOne K (.ref C_InvalidStretches) (.ref C_InvalidSpot) = some false)
    (kt_InvalidStretch_InvalidStretches : PySem.W.kitOne K (.ref C_InvalidStretches) (.ref C_InvalidStretch) = some false)
    (kt_InvalidStretches_InvalidStretches : PySem.W.kitOne K (.ref C_InvalidStretches) (.ref C_InvalidStretches) = some true)
    (kt_InvalidTable_InvalidStretches : PySem.W.kitOne K (.ref C_InvalidStretches) (.ref C_InvalidTable) = some false)
    (kt_InvalidText_InvalidStretches : PySem.W.kitOne K (.ref C_InvalidStretches) (.ref C_InvalidText) = some false)
    (kt_InvalidTime_InvalidStretches : PySem.W.kitOne K (.ref C_InvalidStretches) (.ref C_InvalidTime) = some false)
    (kt_NotABall_InvalidStretches : PySem.W.kitOne K (.ref C_InvalidStretches) (.ref C_NotABall) = some false)
    (kt_NothingToUndo_InvalidStretches : PySem.W.kitOne K (.ref C_InvalidStretches) (.ref C_NothingToUndo) = some false)
    (kt_OtherTable_InvalidStretches : PySem.W.kitOne K (.ref C_InvalidStretches) (.ref C_OtherTable) = some false)
    (kt_ShotError_InvalidStretches : PySem.W.kitOne K (.ref C_InvalidStretches) (.ref C_ShotError) = some true)
    (kt_TooMany_InvalidStretches : PySem.W.kitOne K (.ref C_InvalidStretches) (.ref C_TooMany) = some false)
    (kv_InvalidStretches : PySem.W.kitOne K (.ref C_InvalidStretches) (.type "ValueError") = some true)
    (x3_InvalidStretches : PySem.W.keepIn K (.ref C_InvalidStretches) = true) (x5_InvalidStretches : PySem.W.typeIn K (.ref C_InvalidStretches) = some (.type "type"))
    (x2_InvalidStretches : PySem.W.excIn K C_InvalidStretches [.type "ValueError", .type "Exception", .type "BaseException", .type "object"] "ValueError.__new__" = true)
    (x1_InvalidPockets : PySem.W.nsIn K mainGlobals "InvalidPockets" = some (some (.ref C_InvalidPockets))) (x4_InvalidPockets : PySem.W.subIn K (.ref C_InvalidPockets) (.type "BaseException") = some true) (e4_InvalidPockets : PySem.W.hasDictIn K C_InvalidPockets = true)
    (e1_InvalidPockets : PySem.W.findIn K (.ref C_InvalidPockets) "__getattribute__" = some (some (.builtin "BaseException.__getattribute__"))) (e2_InvalidPockets : PySem.W.findIn K (.ref C_InvalidPockets) "__getattr__" = some none) (e3_InvalidPockets : PySem.W.findIn K (.ref C_InvalidPockets) "__class__" = some (some (.builtin "object.__class__"))) (e5_InvalidPockets : PySem.W.mroIn K C_InvalidPockets (.type "object") = some true)
    (xkkInt_InvalidPockets : PySem.W.kitOne K (.ref C_InvalidPockets) (.type "int") = some false)
    (xkkBool_InvalidPockets : PySem.W.kitOne K (.ref C_InvalidPockets) (.type "bool") = some false)
    (xkkStr_InvalidPockets : PySem.W.kitOne K (.ref C_InvalidPockets) (.type "str") = some false)
    (xkkTup_InvalidPockets : PySem.W.kitOne K (.ref C_InvalidPockets) (.type "tuple") = some false)
    (xkkLst_InvalidPockets : PySem.W.kitOne K (.ref C_InvalidPockets) (.type "list") = some false)
    (xkkDict_InvalidPockets : PySem.W.kitOne K (.ref C_InvalidPockets) (.type "dict") = some false)
    (en_count_InvalidPockets : PySem.W.findIn K (.ref C_InvalidPockets) "count" = some none)
    (en_time_InvalidPockets : PySem.W.findIn K (.ref C_InvalidPockets) "time" = some none)
    (kt_AlwaysTogether_InvalidPockets : PySem.W.kitOne K (.ref C_InvalidPockets) (.ref C_AlwaysTogether) = some false)
    (kt_BallsMeet_InvalidPockets : PySem.W.kitOne K (.ref C_InvalidPockets) (.ref C_BallsMeet) = some false)
    (kt_InvalidBall_InvalidPockets : PySem.W.kitOne K (.ref C_InvalidPockets) (.ref C_InvalidBall) = some false)
    (kt_InvalidBox_InvalidPockets : PySem.W.kitOne K (.ref C_InvalidPockets) (.ref C_InvalidBox) = some false)
    (kt_InvalidChange_InvalidPockets : PySem.W.kitOne K (.ref C_InvalidPockets) (.ref C_InvalidChange) = some false)
    (kt_InvalidCushion_InvalidPockets : PySem.W.kitOne K (.ref C_InvalidPockets) (.ref C_InvalidCushion) = some false)
    (kt_InvalidCushions_InvalidPockets : PySem.W.kitOne K (.ref C_InvalidPockets) (.ref C_InvalidCushions) = some false)
    (kt_InvalidIndex_InvalidPockets : PySem.W.kitOne K (.ref C_InvalidPockets) (.ref C_InvalidIndex) = some false)
    (kt_InvalidNumber_InvalidPockets : PySem.W.kitOne K (.ref C_InvalidPockets) (.ref C_InvalidNumber) = some false)
    (kt_InvalidPockets_InvalidPockets : PySem.W.kitOne K (.ref C_InvalidPockets) (.ref C_InvalidPockets) = some true)
    (kt_InvalidShot_InvalidPockets : PySem.W.kitOne K (.ref C_InvalidPockets) (.ref C_InvalidShot) = some false)
    (kt_InvalidShots_InvalidPockets : PySem.W.kitOne K (.ref C_InvalidPockets) (.ref C_InvalidShots) = some false)
    (kt_InvalidSide_InvalidPockets : PySem.W.kitOne K (.ref C_InvalidPockets) (.ref C_InvalidSide) = some false)
    (kt_InvalidSpot_InvalidPockets : PySem.W.kitOne K (.ref C_InvalidPockets) (.ref C_InvalidSpot) = some false)
    (kt_InvalidStretch_InvalidPockets : PySem.W.kitOne K (.ref C_InvalidPockets) (.ref C_InvalidStretch) = some false)
    (kt_InvalidStretches_InvalidPockets : PySem.W.kitOne K (.ref C_InvalidPockets) (.ref C_InvalidStretches) = some false)
    (kt_InvalidTable_InvalidPockets : PySem.W.kitOne K (.ref C_InvalidPockets) (.ref C_InvalidTable) = some false)
    (kt_InvalidText_InvalidPockets : PySem.W.kitOne K (.ref C_InvalidPockets) (.ref C_InvalidText) = some false)
    (kt_InvalidTime_InvalidPockets : PySem.W.kitOne K (.ref C_InvalidPockets) (.ref C_InvalidTime) = some false)
    (kt_NotABall_InvalidPockets : PySem.W.kitOne K (.ref C_InvalidPockets) (.ref C_NotABall) = some false)
    (kt_NothingToUndo_InvalidPockets : PySem.W.kitOne K (.ref C_InvalidPockets) (.ref C_NothingToUndo) = some false)
    (kt_OtherTable_InvalidPockets : PySem.W.kitOne K (.ref C_InvalidPockets) (.ref C_OtherTable) = some false)
    (kt_ShotError_InvalidPockets : PySem.W.kitOne K (.ref C_InvalidPockets) (.ref C_ShotError) = some true)
    (kt_TooMany_InvalidPockets : PySem.W.kitOne K (.ref C_InvalidPockets) (.ref C_TooMany) = some false)
    (kv_InvalidPockets : PySem.W.kitOne K (.ref C_InvalidPockets) (.type "ValueError") = some true)
    (x3_InvalidPockets : PySem.W.keepIn K (.ref C_InvalidPockets) = true) (x5_InvalidPockets : PySem.W.typeIn K (.ref C_InvalidPockets) = some (.type "type"))
    (x2_InvalidPockets : PySem.W.excIn K C_InvalidPockets [.type "ValueError", .type "Exception", .type "BaseException", .type "object"] "ValueError.__new__" = true)
    (x1_InvalidCushions : PySem.W.nsIn K mainGlobals "InvalidCushions" = some (some (.ref C_InvalidCushions))) (x4_InvalidCushions : PySem.W.subIn K (.ref C_InvalidCushions) (.type "BaseException") = some true) (e4_InvalidCushions : PySem.W.hasDictIn K C_InvalidCushions = true)
    (e1_InvalidCushions : PySem.W.findIn K (.ref C_InvalidCushions) "__getattribute__" = some (some (.builtin "BaseException.__getattribute__"))) (e2_InvalidCushions : PySem.W.findIn K (.ref C_InvalidCushions) "__getattr__" = some none) (e3_InvalidCushions : PySem.W.findIn K (.ref C_InvalidCushions) "__class__" = some (some (.builtin "object.__class__"))) (e5_InvalidCushions : PySem.W.mroIn K C_InvalidCushions (.type "object") = some true)
    (xkkInt_InvalidCushions : PySem.W.kitOne K (.ref C_InvalidCushions) (.type "int") = some false)
    (xkkBool_InvalidCushions : PySem.W.kitOne K (.ref C_InvalidCushions) (.type "bool") = some false)
    (xkkStr_InvalidCushions : PySem.W.kitOne K (.ref C_InvalidCushions) (.type "str") = some false)
    (xkkTup_InvalidCushions : PySem.W.kitOne K (.ref C_InvalidCushions) (.type "tuple") = some false)
    (xkkLst_InvalidCushions : PySem.W.kitOne K (.ref C_InvalidCushions) (.type "list") = some false)
    (xkkDict_InvalidCushions : PySem.W.kitOne K (.ref C_InvalidCushions) (.type "dict") = some false)
    (en_count_InvalidCushions : PySem.W.findIn K (.ref C_InvalidCushions) "count" = some none)
    (en_time_InvalidCushions : PySem.W.findIn K (.ref C_InvalidCushions) "time" = some none)
    (kt_AlwaysTogether_InvalidCushions : PySem.W.kitOne K (.ref C_InvalidCushions) (.ref C_AlwaysTogether) = some false)
    (kt_BallsMeet_InvalidCushions : PySem.W.kitOne K (.ref C_InvalidCushions) (.ref C_BallsMeet) = some false)
    (kt_InvalidBall_InvalidCushions : PySem.W.kitOne K (.ref C_InvalidCushions) (.ref C_InvalidBall) = some false)
    (kt_InvalidBox_InvalidCushions : PySem.W.kitOne K (.ref C_InvalidCushions) (.ref C_InvalidBox) = some false)
    (kt_InvalidChange_InvalidCushions : PySem.W.kitOne K (.ref C_InvalidCushions) (.ref C_InvalidChange) = some false)
    (kt_InvalidCushion_InvalidCushions : PySem.W.kitOne K (.ref C_InvalidCushions) (.ref C_InvalidCushion) = some false)
    (kt_InvalidCushions_InvalidCushions : PySem.W.kitOne K (.ref C_InvalidCushions) (.ref C_InvalidCushions) = some true)
    (kt_InvalidIndex_InvalidCushions : PySem.W.kitOne K (.ref C_InvalidCushions) (.ref C_InvalidIndex) = some false)
    (kt_InvalidNumber_InvalidCushions : PySem.W.kitOne K (.ref C_InvalidCushions) (.ref C_InvalidNumber) = some false)
    (kt_InvalidPockets_InvalidCushions : PySem.W.kitOne K (.ref C_InvalidCushions) (.ref C_InvalidPockets) = some false)
    (kt_InvalidShot_InvalidCushions : PySem.W.kitOne K (.ref C_InvalidCushions) (.ref C_InvalidShot) = some false)
    (kt_InvalidShots_InvalidCushions : PySem.W.kitOne K (.ref C_InvalidCushions) (.ref C_InvalidShots) = some false)
    (kt_InvalidSide_InvalidCushions : PySem.W.kitOne K (.ref C_InvalidCushions) (.ref C_InvalidSide) = some false)
    (kt_InvalidSpot_InvalidCushions : PySem.W.kitOne K (.ref C_InvalidCushions) (.ref C_InvalidSpot) = some false)
    (kt_InvalidStretch_InvalidCushions : PySem.W.kitOne K (.ref C_InvalidCushions) (.ref C_InvalidStretch) = some false)
    (kt_InvalidStretches_InvalidCushions : PySem.W.kitOne K (.ref C_InvalidCushions) (.ref C_InvalidStretches) = some false)
    (kt_InvalidTable_InvalidCushions : PySem.W.kitOne K (.ref C_InvalidCushions) (.ref C_InvalidTable) = some false)
    (kt_InvalidText_InvalidCushions : PySem.W.kitOne K (.ref C_InvalidCushions) (.ref C_InvalidText) = some false)
    (kt_InvalidTime_InvalidCushions : PySem.W.kitOne K (.ref C_InvalidCushions) (.ref C_InvalidTime) = some false)
    (kt_NotABall_InvalidCushions : PySem.W.kitOne K (.ref C_InvalidCushions) (.ref C_NotABall) = some false)
    (kt_NothingToUndo_InvalidCushions : PySem.W.kitOne K (.ref C_InvalidCushions) (.ref C_NothingToUndo) = some false)
    (kt_OtherTable_InvalidCushions : PySem.W.kitOne K (.ref C_InvalidCushions) (.ref C_OtherTable) = some false)
    (kt_ShotError_InvalidCushions : PySem.W.kitOne K (.ref C_InvalidCushions) (.ref C_ShotError) = some true)
    (kt_TooMany_InvalidCushions : PySem.W.kitOne K (.ref C_InvalidCushions) (.ref C_TooMany) = some false)
    (kv_InvalidCushions : PySem.W.kitOne K (.ref C_InvalidCushions) (.type "ValueError") = some true)
    (x3_InvalidCushions : PySem.W.keepIn K (.ref C_InvalidCushions) = true) (x5_InvalidCushions : PySem.W.typeIn K (.ref C_InvalidCushions) = some (.type "type"))
    (x2_InvalidCushions : PySem.W.excIn K C_InvalidCushions [.type "ValueError", .type "Exception", .type "BaseException", .type "object"] "ValueError.__new__" = true)
    (x1_InvalidShots : PySem.W.nsIn K mainGlobals "InvalidShots" = some (some (.ref C_InvalidShots))) (x4_InvalidShots : PySem.W.subIn K (.ref C_InvalidShots) (.type "BaseException") = some true) (e4_InvalidShots : PySem.W.hasDictIn K C_InvalidShots = true)
    (e1_InvalidShots : PySem.W.findIn K (.ref C_InvalidShots) "__getattribute__" = some (some (.builtin "BaseException.__getattribute__"))) (e2_InvalidShots : PySem.W.findIn K (.ref C_InvalidShots) "__getattr__" = some none) (e3_InvalidShots : PySem.W.findIn K (.ref C_InvalidShots) "__class__" = some (some (.builtin "object.__class__"))) (e5_InvalidShots : PySem.W.mroIn K C_InvalidShots (.type "object") = some true)
    (xkkInt_InvalidShots : PySem.W.kitOne K (.ref C_InvalidShots) (.type "int") = some false)
    (xkkBool_InvalidShots : PySem.W.kitOne K (.ref C_InvalidShots) (.type "bool") = some false)
    (xkkStr_InvalidShots : PySem.W.kitOne K (.ref C_InvalidShots) (.type "str") = some false)
    (xkkTup_InvalidShots : PySem.W.kitOne K (.ref C_InvalidShots) (.type "tuple") = some false)
    (xkkLst_InvalidShots : PySem.W.kitOne K (.ref C_InvalidShots) (.type "list") = some false)
    (xkkDict_InvalidShots : PySem.W.kitOne K (.ref C_InvalidShots) (.type "dict") = some false)
    (en_count_InvalidShots : PySem.W.findIn K (.ref C_InvalidShots) "count" = some none)
    (en_time_InvalidShots : PySem.W.findIn K (.ref C_InvalidShots) "time" = some none)
    (kt_AlwaysTogether_InvalidShots : PySem.W.kitOne K (.ref C_InvalidShots) (.ref C_AlwaysTogether) = some false)
    (kt_BallsMeet_InvalidShots : PySem.W.kitOne K (.ref C_InvalidShots) (.ref C_BallsMeet) = some false)
    (kt_InvalidBall_InvalidShots : PySem.W.kitOne K (.ref C_InvalidShots) (.ref C_InvalidBall) = some false)
    (kt_InvalidBox_InvalidShots : PySem.W.kitOne K (.ref C_InvalidShots) (.ref C_InvalidBox) = some false)
    (kt_InvalidChange_InvalidShots : PySem.W.kitOne K (.ref C_InvalidShots) (.ref C_InvalidChange) = some false)
    (kt_InvalidCushion_InvalidShots : PySem.W.kitOne K (.ref C_InvalidShots) (.ref C_InvalidCushion) = some false)
    (kt_InvalidCushions_InvalidShots : PySem.W.kitOne K (.ref C_InvalidShots) (.ref C_InvalidCushions) = some false)
    (kt_InvalidIndex_InvalidShots : PySem.W.kitOne K (.ref C_InvalidShots) (.ref C_InvalidIndex) = some false)
    (kt_InvalidNumber_InvalidShots : PySem.W.kitOne K (.ref C_InvalidShots) (.ref C_InvalidNumber) = some false)
    (kt_InvalidPockets_InvalidShots : PySem.W.kitOne K (.ref C_InvalidShots) (.ref C_InvalidPockets) = some false)
    (kt_InvalidShot_InvalidShots : PySem.W.kitOne K (.ref C_InvalidShots) (.ref C_InvalidShot) = some false)
    (kt_InvalidShots_InvalidShots : PySem.W.kitOne K (.ref C_InvalidShots) (.ref C_InvalidShots) = some true)
    (kt_InvalidSide_InvalidShots : PySem.W.kitOne K (.ref C_InvalidShots) (.ref C_InvalidSide) = some false)
    (kt_InvalidSpot_InvalidShots : PySem.W.kitOne K (.ref C_InvalidShots) (.ref C_InvalidSpot) = some false)
    (kt_InvalidStretch_InvalidShots : PySem.W.kitOne K (.ref C_InvalidShots) (.ref C_InvalidStretch) = some false)
    (kt_InvalidStretches_InvalidShots : PySem.W.kitOne K (.ref C_InvalidShots) (.ref C_InvalidStretches) = some false)
    (kt_InvalidTable_InvalidShots : PySem.W.kitOne K (.ref C_InvalidShots) (.ref C_InvalidTable) = some false)
    (kt_InvalidText_InvalidShots : PySem.W.kitOne K (.ref C_InvalidShots) (.ref C_InvalidText) = some false)
    (kt_InvalidTime_InvalidShots : PySem.W.kitOne K (.ref C_InvalidShots) (.ref C_InvalidTime) = some false)
    (kt_NotABall_InvalidShots : PySem.W.kitOne K (.ref C_InvalidShots) (.ref C_NotABall) = some false)
    (kt_NothingToUndo_InvalidShots : PySem.W.kitOne K (.ref C_InvalidShots) (.ref C_NothingToUndo) = some false)
    (kt_OtherTable_InvalidShots : PySem.W.kitOne K (.ref C_InvalidShots) (.ref C_OtherTable) = some false)
    (kt_ShotError_InvalidShots : PySem.W.kitOne K (.ref C_InvalidShots) (.ref C_ShotError) = some true)
    (kt_TooMany_InvalidShots : PySem.W.kitOne K (.ref C_InvalidShots) (.ref C_TooMany) = some false)
    (kv_InvalidShots : PySem.W.kitOne K (.ref C_InvalidShots) (.type "ValueError") = some true)
    (x3_InvalidShots : PySem.W.keepIn K (.ref C_InvalidShots) = true) (x5_InvalidShots : PySem.W.typeIn K (.ref C_InvalidShots) = some (.type "type"))
    (x2_InvalidShots : PySem.W.excIn K C_InvalidShots [.type "ValueError", .type "Exception", .type "BaseException", .type "object"] "ValueError.__new__" = true)
    (x1_InvalidBall : PySem.W.nsIn K mainGlobals "InvalidBall" = some (some (.ref C_InvalidBall))) (x4_InvalidBall : PySem.W.subIn K (.ref C_InvalidBall) (.type "BaseException") = some true) (e4_InvalidBall : PySem.W.hasDictIn K C_InvalidBall = true)
    (e1_InvalidBall : PySem.W.findIn K (.ref C_InvalidBall) "__getattribute__" = some (some (.builtin "BaseException.__getattribute__"))) (e2_InvalidBall : PySem.W.findIn K (.ref C_InvalidBall) "__getattr__" = some none) (e3_InvalidBall : PySem.W.findIn K (.ref C_InvalidBall) "__class__" = some (some (.builtin "object.__class__"))) (e5_InvalidBall : PySem.W.mroIn K C_InvalidBall (.type "object") = some true)
    (xkkInt_InvalidBall : PySem.W.kitOne K (.ref C_InvalidBall) (.type "int") = some false)
    (xkkBool_InvalidBall : PySem.W.kitOne K (.ref C_InvalidBall) (.type "bool") = some false)
    (xkkStr_InvalidBall : PySem.W.kitOne K (.ref C_InvalidBall) (.type "str") = some false)
    (xkkTup_InvalidBall : PySem.W.kitOne K (.ref C_InvalidBall) (.type "tuple") = some false)
    (xkkLst_InvalidBall : PySem.W.kitOne K (.ref C_InvalidBall) (.type "list") = some false)
    (xkkDict_InvalidBall : PySem.W.kitOne K (.ref C_InvalidBall) (.type "dict") = some false)
    (en_count_InvalidBall : PySem.W.findIn K (.ref C_InvalidBall) "count" = some none)
    (en_time_InvalidBall : PySem.W.findIn K (.ref C_InvalidBall) "time" = some none)
    (kt_AlwaysTogether_InvalidBall : PySem.W.kitOne K (.ref C_InvalidBall) (.ref C_AlwaysTogether) = some false)
    (kt_BallsMeet_InvalidBall : PySem.W.kitOne K (.ref C_InvalidBall) (.ref C_BallsMeet) = some false)
    (kt_InvalidBall_InvalidBall : PySem.W.kitOne K (.ref C_InvalidBall) (.ref C_InvalidBall) = some true)
    (kt_InvalidBox_InvalidBall : PySem.W.kitOne K (.ref C_InvalidBall) (.ref C_InvalidBox) = some false)
    (kt_InvalidChange_InvalidBall : PySem.W.kitOne K (.ref C_InvalidBall) (.ref C_InvalidChange) = some false)
    (kt_InvalidCushion_InvalidBall : PySem.W.kitOne K (.ref C_InvalidBall) (.ref C_InvalidCushion) = some false)
    (kt_InvalidCushions_InvalidBall : PySem.W.kitOne K (.ref C_InvalidBall) (.ref C_InvalidCushions) = some false)
    (kt_InvalidIndex_InvalidBall : PySem.W.kitOne K (.ref C_InvalidBall) (.ref C_InvalidIndex) = some false)
    (kt_InvalidNumber_InvalidBall : PySem.W.kitOne K (.ref C_InvalidBall) (.ref C_InvalidNumber) = some false)
    (kt_InvalidPockets_InvalidBall : PySem.W.kitOne K (.ref C_InvalidBall) (.ref C_InvalidPockets) = some false)
    (kt_InvalidShot_InvalidBall : PySem.W.kitOne K (.ref C_InvalidBall) (.ref C_InvalidShot) = some false)
    (kt_InvalidShots_InvalidBall : PySem.W.kitOne K (.ref C_InvalidBall) (.ref C_InvalidShots) = some false)
    (kt_InvalidSide_InvalidBall : PySem.W.kitOne K (.ref C_InvalidBall) (.ref C_InvalidSide) = some false)
    (kt_InvalidSpot_InvalidBall : PySem.W.kitOne K (.ref C_InvalidBall) (.ref C_InvalidSpot) = some false)
    (kt_InvalidStretch_InvalidBall : PySem.W.kitOne K (.ref C_InvalidBall) (.ref C_InvalidStretch) = some false)
    (kt_InvalidStretches_InvalidBall : PySem.W.kitOne K (.ref C_InvalidBall) (.ref C_InvalidStretches) = some false)
    (kt_InvalidTable_InvalidBall : PySem.W.kitOne K (.ref C_InvalidBall) (.ref C_InvalidTable) = some false)
    (kt_InvalidText_InvalidBall : PySem.W.kitOne K (.ref C_InvalidBall) (.ref C_InvalidText) = some false)
    (kt_InvalidTime_InvalidBall : PySem.W.kitOne K (.ref C_InvalidBall) (.ref C_InvalidTime) = some false)
    (kt_NotABall_InvalidBall : PySem.W.kitOne K (.ref C_InvalidBall) (.ref C_NotABall) = some false)
    (kt_NothingToUndo_InvalidBall : PySem.W.kitOne K (.ref C_InvalidBall) (.ref C_NothingToUndo) = some false)
    (kt_OtherTable_InvalidBall : PySem.W.kitOne K (.ref C_InvalidBall) (.ref C_OtherTable) = some false)
    (kt_ShotError_InvalidBall : PySem.W.kitOne K (.ref C_InvalidBall) (.ref C_ShotError) = some true)
    (kt_TooMany_InvalidBall : PySem.W.kitOne K (.ref C_InvalidBall) (.ref C_TooMany) = some false)
    (kv_InvalidBall : PySem.W.kitOne K (.ref C_InvalidBall) (.type "ValueError") = some true)
    (x3_InvalidBall : PySem.W.keepIn K (.ref C_InvalidBall) = true) (x5_InvalidBall : PySem.W.typeIn K (.ref C_InvalidBall) = some (.type "type"))
    (x2_InvalidBall : PySem.W.excIn K C_InvalidBall [.type "ValueError", .type "Exception", .type "BaseException", .type "object"] "ValueError.__new__" = true)
    (x1_InvalidText : PySem.W.nsIn K mainGlobals "InvalidText" = some (some (.ref C_InvalidText))) (x4_InvalidText : PySem.W.subIn K (.ref C_InvalidText) (.type "BaseException") = some true) (e4_InvalidText : PySem.W.hasDictIn K C_InvalidText = true)
    (e1_InvalidText : PySem.W.findIn K (.ref C_InvalidText) "__getattribute__" = some (some (.builtin "BaseException.__getattribute__"))) (e2_InvalidText : PySem.W.findIn K (.ref C_InvalidText) "__getattr__" = some none) (e3_InvalidText : PySem.W.findIn K (.ref C_InvalidText) "__class__" = some (some (.builtin "object.__class__"))) (e5_InvalidText : PySem.W.mroIn K C_InvalidText (.type "object") = some true)
    (xkkInt_InvalidText : PySem.W.kitOne K (.ref C_InvalidText) (.type "int") = some false)
    (xkkBool_InvalidText : PySem.W.kitOne K (.ref C_InvalidText) (.type "bool") = some false)
    (xkkStr_InvalidText : PySem.W.kitOne K (.ref C_InvalidText) (.type "str") = some false)
    (xkkTup_InvalidText : PySem.W.kitOne K (.ref C_InvalidText) (.type "tuple") = some false)
    (xkkLst_InvalidText : PySem.W.kitOne K (.ref C_InvalidText) (.type "list") = some false)
    (xkkDict_InvalidText : PySem.W.kitOne K (.ref C_InvalidText) (.type "dict") = some false)
    (en_count_InvalidText : PySem.W.findIn K (.ref C_InvalidText) "count" = some none)
    (en_time_InvalidText : PySem.W.findIn K (.ref C_InvalidText) "time" = some none)
    (kt_AlwaysTogether_InvalidText : PySem.W.kitOne K (.ref C_InvalidText) (.ref C_AlwaysTogether) = some false)
    (kt_BallsMeet_InvalidText : PySem.W.kitOne K (.ref C_InvalidText) (.ref C_BallsMeet) = some false)
    (kt_InvalidBall_InvalidText : PySem.W.kitOne K (.ref C_InvalidText) (.ref C_InvalidBall) = some false)
    (kt_InvalidBox_InvalidText : PySem.W.kitOne K (.ref C_InvalidText) (.ref C_InvalidBox) = some false)
    (kt_InvalidChange_InvalidText : PySem.W.kitOne K (.ref C_InvalidText) (.ref C_InvalidChange) = some false)
    (kt_InvalidCushion_InvalidText : PySem.W.kitOne K (.ref C_InvalidText) (.ref C_InvalidCushion) = some false)
    (kt_InvalidCushions_InvalidText : PySem.W.kitOne K (.ref C_InvalidText) (.ref C_InvalidCushions) = some false)
    (kt_InvalidIndex_InvalidText : PySem.W.kitOne K (.ref C_InvalidText) (.ref C_InvalidIndex) = some false)
    (kt_InvalidNumber_InvalidText : PySem.W.kitOne K (.ref C_InvalidText) (.ref C_InvalidNumber) = some false)
    (kt_InvalidPockets_InvalidText : PySem.W.kitOne K (.ref C_InvalidText) (.ref C_InvalidPockets) = some false)
    (kt_InvalidShot_InvalidText : PySem.W.kitOne K (.ref C_InvalidText) (.ref C_InvalidShot) = some false)
    (kt_InvalidShots_InvalidText : PySem.W.kitOne K (.ref C_InvalidText) (.ref C_InvalidShots) = some false)
    (kt_InvalidSide_InvalidText : PySem.W.kitOne K (.ref C_InvalidText) (.ref C_InvalidSide) = some false)
    (kt_InvalidSpot_InvalidText : PySem.W.kitOne K (.ref C_InvalidText) (.ref C_InvalidSpot) = some false)
    (kt_InvalidStretch_InvalidText : PySem.W.kitOne K (.ref C_InvalidText) (.ref C_InvalidStretch) = some false)
    (kt_InvalidStretches_InvalidText : PySem.W.kitOne K (.ref C_InvalidText) (.ref C_InvalidStretches) = some false)
    (kt_InvalidTable_InvalidText : PySem.W.kitOne K (.ref C_InvalidText) (.ref C_InvalidTable) = some false)
    (kt_InvalidText_InvalidText : PySem.W.kitOne K (.ref C_InvalidText) (.ref C_InvalidText) = some true)
    (kt_InvalidTime_InvalidText : PySem.W.kitOne K (.ref C_InvalidText) (.ref C_InvalidTime) = some false)
    (kt_NotABall_InvalidText : PySem.W.kitOne K (.ref C_InvalidText) (.ref C_NotABall) = some false)
    (kt_NothingToUndo_InvalidText : PySem.W.kitOne K (.ref C_InvalidText) (.ref C_NothingToUndo) = some false)
    (kt_OtherTable_InvalidText : PySem.W.kitOne K (.ref C_InvalidText) (.ref C_OtherTable) = some false)
    (kt_ShotError_InvalidText : PySem.W.kitOne K (.ref C_InvalidText) (.ref C_ShotError) = some true)
    (kt_TooMany_InvalidText : PySem.W.kitOne K (.ref C_InvalidText) (.ref C_TooMany) = some false)
    (kv_InvalidText : PySem.W.kitOne K (.ref C_InvalidText) (.type "ValueError") = some true)
    (x3_InvalidText : PySem.W.keepIn K (.ref C_InvalidText) = true) (x5_InvalidText : PySem.W.typeIn K (.ref C_InvalidText) = some (.type "type"))
    (x2_InvalidText : PySem.W.excIn K C_InvalidText [.type "ValueError", .type "Exception", .type "BaseException", .type "object"] "ValueError.__new__" = true)
    (x1_InvalidChange : PySem.W.nsIn K mainGlobals "InvalidChange" = some (some (.ref C_InvalidChange))) (x4_InvalidChange : PySem.W.subIn K (.ref C_InvalidChange) (.type "BaseException") = some true) (e4_InvalidChange : PySem.W.hasDictIn K C_InvalidChange = true)
    (e1_InvalidChange : PySem.W.findIn K (.ref C_InvalidChange) "__getattribute__" = some (some (.builtin "BaseException.__getattribute__"))) (e2_InvalidChange : PySem.W.findIn K (.ref C_InvalidChange) "__getattr__" = some none) (e3_InvalidChange : PySem.W.findIn K (.ref C_InvalidChange) "__class__" = some (some (.builtin "object.__class__"))) (e5_InvalidChange : PySem.W.mroIn K C_InvalidChange (.type "object") = some true)
    (xkkInt_InvalidChange : PySem.W.kitOne K (.ref C_InvalidChange) (.type "int") = some false)
    (xkkBool_InvalidChange : PySem.W.kitOne K (.ref C_InvalidChange) (.type "bool") = some false)
    (xkkStr_InvalidChange : PySem.W.kitOne K (.ref C_InvalidChange) (.type "str") = some false)
    (xkkTup_InvalidChange : PySem.W.kitOne K (.ref C_InvalidChange) (.type "tuple") = some false)
    (xkkLst_InvalidChange : PySem.W.kitOne K (.ref C_InvalidChange) (.type "list") = some false)
    (xkkDict_InvalidChange : PySem.W.kitOne K (.ref C_InvalidChange) (.type "dict") = some false)
    (en_count_InvalidChange : PySem.W.findIn K (.ref C_InvalidChange) "count" = some none)
    (en_time_InvalidChange : PySem.W.findIn K (.ref C_InvalidChange) "time" = some none)
    (kt_AlwaysTogether_InvalidChange : PySem.W.kitOne K (.ref C_InvalidChange) (.ref C_AlwaysTogether) = some false)
    (kt_BallsMeet_InvalidChange : PySem.W.kitOne K (.ref C_InvalidChange) (.ref C_BallsMeet) = some false)
    (kt_InvalidBall_InvalidChange : PySem.W.kitOne K (.ref C_InvalidChange) (.ref C_InvalidBall) = some false)
    (kt_InvalidBox_InvalidChange : PySem.W.kitOne K (.ref C_InvalidChange) (.ref C_InvalidBox) = some false)
    (kt_InvalidChange_InvalidChange : PySem.W.kitOne K (.ref C_InvalidChange) (.ref C_InvalidChange) = some true)
    (kt_InvalidCushion_InvalidChange : PySem.W.kitOne K (.ref C_InvalidChange) (.ref C_InvalidCushion) = some false)
    (kt_InvalidCushions_InvalidChange : PySem.W.kitOne K (.ref C_InvalidChange) (.ref C_InvalidCushions) = some false)
    (kt_InvalidIndex_InvalidChange : PySem.W.kitOne K (.ref C_InvalidChange) (.ref C_InvalidIndex) = some false)
    (kt_InvalidNumber_InvalidChange : PySem.W.kitOne K (.ref C_InvalidChange) (.ref C_InvalidNumber) = some false)
    (kt_InvalidPockets_InvalidChange : PySem.W.kitOne K (.ref C_InvalidChange) (.ref C_InvalidPockets) = some false)
    (kt_InvalidShot_InvalidChange : PySem.W.kitOne K (.ref C_InvalidChange) (.ref C_InvalidShot) = some false)
    (kt_InvalidShots_InvalidChange : PySem.W.kitOne K (.ref C_InvalidChange) (.ref C_InvalidShots) = some false)
    (kt_InvalidSide_InvalidChange : PySem.W.kitOne K (.ref C_InvalidChange) (.ref C_InvalidSide) = some false)
    (kt_InvalidSpot_InvalidChange : PySem.W.kitOne K (.ref C_InvalidChange) (.ref C_InvalidSpot) = some false)
    (kt_InvalidStretch_InvalidChange : PySem.W.kitOne K (.ref C_InvalidChange) (.ref C_InvalidStretch) = some false)
    (kt_InvalidStretches_InvalidChange : PySem.W.kitOne K (.ref C_InvalidChange) (.ref C_InvalidStretches) = some false)
    (kt_InvalidTable_InvalidChange : PySem.W.kitOne K (.ref C_InvalidChange) (.ref C_InvalidTable) = some false)
    (kt_InvalidText_InvalidChange : PySem.W.kitOne K (.ref C_InvalidChange) (.ref C_InvalidText) = some false)
    (kt_InvalidTime_InvalidChange : PySem.W.kitOne K (.ref C_InvalidChange) (.ref C_InvalidTime) = some false)
    (kt_NotABall_InvalidChange : PySem.W.kitOne K (.ref C_InvalidChange) (.ref C_NotABall) = some false)
    (kt_NothingToUndo_InvalidChange : PySem.W.kitOne K (.ref C_InvalidChange) (.ref C_NothingToUndo) = some false)
    (kt_OtherTable_InvalidChange : PySem.W.kitOne K (.ref C_InvalidChange) (.ref C_OtherTable) = some false)
    (kt_ShotError_InvalidChange : PySem.W.kitOne K (.ref C_InvalidChange) (.ref C_ShotError) = some true)
    (kt_TooMany_InvalidChange : PySem.W.kitOne K (.ref C_InvalidChange) (.ref C_TooMany) = some false)
    (kv_InvalidChange : PySem.W.kitOne K (.ref C_InvalidChange) (.type "ValueError") = some true)
    (x3_InvalidChange : PySem.W.keepIn K (.ref C_InvalidChange) = true) (x5_InvalidChange : PySem.W.typeIn K (.ref C_InvalidChange) = some (.type "type"))
    (x2_InvalidChange : PySem.W.excIn K C_InvalidChange [.type "ValueError", .type "Exception", .type "BaseException", .type "object"] "ValueError.__new__" = true)
    (x1_AlwaysTogether : PySem.W.nsIn K mainGlobals "AlwaysTogether" = some (some (.ref C_AlwaysTogether))) (x4_AlwaysTogether : PySem.W.subIn K (.ref C_AlwaysTogether) (.type "BaseException") = some true) (e4_AlwaysTogether : PySem.W.hasDictIn K C_AlwaysTogether = true)
    (e1_AlwaysTogether : PySem.W.findIn K (.ref C_AlwaysTogether) "__getattribute__" = some (some (.builtin "BaseException.__getattribute__"))) (e2_AlwaysTogether : PySem.W.findIn K (.ref C_AlwaysTogether) "__getattr__" = some none) (e3_AlwaysTogether : PySem.W.findIn K (.ref C_AlwaysTogether) "__class__" = some (some (.builtin "object.__class__"))) (e5_AlwaysTogether : PySem.W.mroIn K C_AlwaysTogether (.type "object") = some true)
    (xkkInt_AlwaysTogether : PySem.W.kitOne K (.ref C_AlwaysTogether) (.type "int") = some false)
    (xkkBool_AlwaysTogether : PySem.W.kitOne K (.ref C_AlwaysTogether) (.type "bool") = some false)
    (xkkStr_AlwaysTogether : PySem.W.kitOne K (.ref C_AlwaysTogether) (.type "str") = some false)
    (xkkTup_AlwaysTogether : PySem.W.kitOne K (.ref C_AlwaysTogether) (.type "tuple") = some false)
    (xkkLst_AlwaysTogether : PySem.W.kitOne K (.ref C_AlwaysTogether) (.type "list") = some false)
    (xkkDict_AlwaysTogether : PySem.W.kitOne K (.ref C_AlwaysTogether) (.type "dict") = some false)
    (en_count_AlwaysTogether : PySem.W.findIn K (.ref C_AlwaysTogether) "count" = some none)
    (en_time_AlwaysTogether : PySem.W.findIn K (.ref C_AlwaysTogether) "time" = some none)
    (kt_AlwaysTogether_AlwaysTogether : PySem.W.kitOne K (.ref C_AlwaysTogether) (.ref C_AlwaysTogether) = some true)
    (kt_BallsMeet_AlwaysTogether : PySem.W.kitOne K (.ref C_AlwaysTogether) (.ref C_BallsMeet) = some false)
    (kt_InvalidBall_AlwaysTogether : PySem.W.kitOne K (.ref C_AlwaysTogether) (.ref C_InvalidBall) = some false)
    (kt_InvalidBox_AlwaysTogether : PySem.W.kitOne K (.ref C_AlwaysTogether) (.ref C_InvalidBox) = some false)
    (kt_InvalidChange_AlwaysTogether : PySem.W.kitOne K (.ref C_AlwaysTogether) (.ref C_InvalidChange) = some false)
    (kt_InvalidCushion_AlwaysTogether : PySem.W.kitOne K (.ref C_AlwaysTogether) (.ref C_InvalidCushion) = some false)
    (kt_InvalidCushions_AlwaysTogether : PySem.W.kitOne K (.ref C_AlwaysTogether) (.ref C_InvalidCushions) = some false)
    (kt_InvalidIndex_AlwaysTogether : PySem.W.kitOne K (.ref C_AlwaysTogether) (.ref C_InvalidIndex) = some false)
    (kt_InvalidNumber_AlwaysTogether : PySem.W.kitOne K (.ref C_AlwaysTogether) (.ref C_InvalidNumber) = some false)
    (kt_InvalidPockets_AlwaysTogether : PySem.W.kitOne K (.ref C_AlwaysTogether) (.ref C_InvalidPockets) = some false)
    (kt_InvalidShot_AlwaysTogether : PySem.W.kitOne K (.ref C_AlwaysTogether) (.ref C_InvalidShot) = some false)
    (kt_InvalidShots_AlwaysTogether : PySem.W.kitOne K (.ref C_AlwaysTogether) (.ref C_InvalidShots) = some false)
    (kt_InvalidSide_AlwaysTogether : PySem.W.kitOne K (.ref C_AlwaysTogether) (.ref C_InvalidSide) = some false)
    (kt_InvalidSpot_AlwaysTogether : PySem.W.kitOne K (.ref C_AlwaysTogether) (.ref C_InvalidSpot) = some false)
    (kt_InvalidStretch_AlwaysTogether : PySem.W.kitOne K (.ref C_AlwaysTogether) (.ref C_InvalidStretch) = some false)
    (kt_InvalidStretches_AlwaysTogether : PySem.W.kitOne K (.ref C_AlwaysTogether) (.ref C_InvalidStretches) = some false)
    (kt_InvalidTable_AlwaysTogether : PySem.W.kitOne K (.ref C_AlwaysTogether) (.ref C_InvalidTable) = some false)
    (kt_InvalidText_AlwaysTogether : PySem.W.kitOne K (.ref C_AlwaysTogether) (.ref C_InvalidText) = some false)
    (kt_InvalidTime_AlwaysTogether : PySem.W.kitOne K (.ref C_AlwaysTogether) (.ref C_InvalidTime) = some false)
    (kt_NotABall_AlwaysTogether : PySem.W.kitOne K (.ref C_AlwaysTogether) (.ref C_NotABall) = some false)
    (kt_NothingToUndo_AlwaysTogether : PySem.W.kitOne K (.ref C_AlwaysTogether) (.ref C_NothingToUndo) = some false)
    (kt_OtherTable_AlwaysTogether : PySem.W.kitOne K (.ref C_AlwaysTogether) (.ref C_OtherTable) = some false)
    (kt_ShotError_AlwaysTogether : PySem.W.kitOne K (.ref C_AlwaysTogether) (.ref C_ShotError) = some true)
    (kt_TooMany_AlwaysTogether : PySem.W.kitOne K (.ref C_AlwaysTogether) (.ref C_TooMany) = some false)
    (kv_AlwaysTogether : PySem.W.kitOne K (.ref C_AlwaysTogether) (.type "ValueError") = some true)
    (x3_AlwaysTogether : PySem.W.keepIn K (.ref C_AlwaysTogether) = true) (x5_AlwaysTogether : PySem.W.typeIn K (.ref C_AlwaysTogether) = some (.type "type"))
    (x2_AlwaysTogether : PySem.W.excIn K C_AlwaysTogether [.type "ValueError", .type "Exception", .type "BaseException", .type "object"] "ValueError.__new__" = true)
    (x1_NotABall : PySem.W.nsIn K mainGlobals "NotABall" = some (some (.ref C_NotABall))) (x4_NotABall : PySem.W.subIn K (.ref C_NotABall) (.type "BaseException") = some true) (e4_NotABall : PySem.W.hasDictIn K C_NotABall = true)
    (e1_NotABall : PySem.W.findIn K (.ref C_NotABall) "__getattribute__" = some (some (.builtin "BaseException.__getattribute__"))) (e2_NotABall : PySem.W.findIn K (.ref C_NotABall) "__getattr__" = some none) (e3_NotABall : PySem.W.findIn K (.ref C_NotABall) "__class__" = some (some (.builtin "object.__class__"))) (e5_NotABall : PySem.W.mroIn K C_NotABall (.type "object") = some true)
    (xkkInt_NotABall : PySem.W.kitOne K (.ref C_NotABall) (.type "int") = some false)
    (xkkBool_NotABall : PySem.W.kitOne K (.ref C_NotABall) (.type "bool") = some false)
    (xkkStr_NotABall : PySem.W.kitOne K (.ref C_NotABall) (.type "str") = some false)
    (xkkTup_NotABall : PySem.W.kitOne K (.ref C_NotABall) (.type "tuple") = some false)
    (xkkLst_NotABall : PySem.W.kitOne K (.ref C_NotABall) (.type "list") = some false)
    (xkkDict_NotABall : PySem.W.kitOne K (.ref C_NotABall) (.type "dict") = some false)
    (en_count_NotABall : PySem.W.findIn K (.ref C_NotABall) "count" = some none)
    (en_time_NotABall : PySem.W.findIn K (.ref C_NotABall) "time" = some none)
    (kt_AlwaysTogether_NotABall : PySem.W.kitOne K (.ref C_NotABall) (.ref C_AlwaysTogether) = some false)
    (kt_BallsMeet_NotABall : PySem.W.kitOne K (.ref C_NotABall) (.ref C_BallsMeet) = some false)
    (kt_InvalidBall_NotABall : PySem.W.kitOne K (.ref C_NotABall) (.ref C_InvalidBall) = some false)
    (kt_InvalidBox_NotABall : PySem.W.kitOne K (.ref C_NotABall) (.ref C_InvalidBox) = some false)
    (kt_InvalidChange_NotABall : PySem.W.kitOne K (.ref C_NotABall) (.ref C_InvalidChange) = some false)
    (kt_InvalidCushion_NotABall : PySem.W.kitOne K (.ref C_NotABall) (.ref C_InvalidCushion) = some false)
    (kt_InvalidCushions_NotABall : PySem.W.kitOne K (.ref C_NotABall) (.ref C_InvalidCushions) = some false)
    (kt_InvalidIndex_NotABall : PySem.W.kitOne K (.ref C_NotABall) (.ref C_InvalidIndex) = some false)
    (kt_InvalidNumber_NotABall : PySem.W.kitOne K (.ref C_NotABall) (.ref C_InvalidNumber) = some false)
    (kt_InvalidPockets_NotABall : PySem.W.kitOne K (.ref C_NotABall) (.ref C_InvalidPockets) = some false)
    (kt_InvalidShot_NotABall : PySem.W.kitOne K (.ref C_NotABall) (.ref C_InvalidShot) = some false)
    (kt_InvalidShots_NotABall : PySem.W.kitOne K (.ref C_NotABall) (.ref C_InvalidShots) = some false)
    (kt_InvalidSide_NotABall : PySem.W.kitOne K (.ref C_NotABall) (.ref C_InvalidSide) = some false)
    (kt_InvalidSpot_NotABall : PySem.W.kitOne K (.ref C_NotABall) (.ref C_InvalidSpot) = some false)
    (kt_InvalidStretch_NotABall : PySem.W.kitOne K (.ref C_NotABall) (.ref C_InvalidStretch) = some false)
    (kt_InvalidStretches_NotABall : PySem.W.kitOne K (.ref C_NotABall) (.ref C_InvalidStretches) = some false)
    (kt_InvalidTable_NotABall : PySem.W.kitOne K (.ref C_NotABall) (.ref C_InvalidTable) = some false)
    (kt_InvalidText_NotABall : PySem.W.kitOne K (.ref C_NotABall) (.ref C_InvalidText) = some false)
    (kt_InvalidTime_NotABall : PySem.W.kitOne K (.ref C_NotABall) (.ref C_InvalidTime) = some false)
    (kt_NotABall_NotABall : PySem.W.kitOne K (.ref C_NotABall) (.ref C_NotABall) = some true)
    (kt_NothingToUndo_NotABall : PySem.W.kitOne K (.ref C_NotABall) (.ref C_NothingToUndo) = some false)
    (kt_OtherTable_NotABall : PySem.W.kitOne K (.ref C_NotABall) (.ref C_OtherTable) = some false)
    (kt_ShotError_NotABall : PySem.W.kitOne K (.ref C_NotABall) (.ref C_ShotError) = some true)
    (kt_TooMany_NotABall : PySem.W.kitOne K (.ref C_NotABall) (.ref C_TooMany) = some false)
    (kv_NotABall : PySem.W.kitOne K (.ref C_NotABall) (.type "ValueError") = some true)
    (x3_NotABall : PySem.W.keepIn K (.ref C_NotABall) = true) (x5_NotABall : PySem.W.typeIn K (.ref C_NotABall) = some (.type "type"))
    (x2_NotABall : PySem.W.excIn K C_NotABall [.type "ValueError", .type "Exception", .type "BaseException", .type "object"] "ValueError.__new__" = true)
    (x1_OtherTable : PySem.W.nsIn K mainGlobals "OtherTable" = some (some (.ref C_OtherTable))) (x4_OtherTable : PySem.W.subIn K (.ref C_OtherTable) (.type "BaseException") = some true) (e4_OtherTable : PySem.W.hasDictIn K C_OtherTable = true)
    (e1_OtherTable : PySem.W.findIn K (.ref C_OtherTable) "__getattribute__" = some (some (.builtin "BaseException.__getattribute__"))) (e2_OtherTable : PySem.W.findIn K (.ref C_OtherTable) "__getattr__" = some none) (e3_OtherTable : PySem.W.findIn K (.ref C_OtherTable) "__class__" = some (some (.builtin "object.__class__"))) (e5_OtherTable : PySem.W.mroIn K C_OtherTable (.type "object") = some true)
    (xkkInt_OtherTable : PySem.W.kitOne K (.ref C_OtherTable) (.type "int") = some false)
    (xkkBool_OtherTable : PySem.W.kitOne K (.ref C_OtherTable) (.type "bool") = some false)
    (xkkStr_OtherTable : PySem.W.kitOne K (.ref C_OtherTable) (.type "str") = some false)
    (xkkTup_OtherTable : PySem.W.kitOne K (.ref C_OtherTable) (.type "tuple") = some false)
    (xkkLst_OtherTable : PySem.W.kitOne K (.ref C_OtherTable) (.type "list") = some false)
    (xkkDict_OtherTable : PySem.W.kitOne K (.ref C_OtherTable) (.type "dict") = some false)
    (en_count_OtherTable : PySem.W.findIn K (.ref C_OtherTable) "count" = some none)
    (en_time_OtherTable : PySem.W.findIn K (.ref C_OtherTable) "time" = some none)
    (kt_AlwaysTogether_OtherTable : PySem.W.kitOne K (.ref C_OtherTable) (.ref C_AlwaysTogether) = some false)
    (kt_BallsMeet_OtherTable : PySem.W.kitOne K (.ref C_OtherTable) (.ref C_BallsMeet) = some false)
    (kt_InvalidBall_OtherTable : PySem.W.kitOne K (.ref C_OtherTable) (.ref C_InvalidBall) = some false)
    (kt_InvalidBox_OtherTable : PySem.W.kitOne K (.ref C_OtherTable) (.ref C_InvalidBox) = some false)
    (kt_InvalidChange_OtherTable : PySem.W.kitOne K (.ref C_OtherTable) (.ref C_InvalidChange) = some false)
    (kt_InvalidCushion_OtherTable : PySem.W.kitOne K (.ref C_OtherTable) (.ref C_InvalidCushion) = some false)
    (kt_InvalidCushions_OtherTable : PySem.W.kitOne K (.ref C_OtherTable) (.ref C_InvalidCushions) = some false)
    (kt_InvalidIndex_OtherTable : PySem.W.kitOne K (.ref C_OtherTable) (.ref C_InvalidIndex) = some false)
    (kt_InvalidNumber_OtherTable : PySem.W.kitOne K (.ref C_OtherTable) (.ref C_InvalidNumber) = some false)
    (kt_InvalidPockets_OtherTable : PySem.W.kitOne K (.ref C_OtherTable) (.ref C_InvalidPockets) = some false)
    (kt_InvalidShot_OtherTable : PySem.W.kitOne K (.ref C_OtherTable) (.ref C_InvalidShot) = some false)
    (kt_InvalidShots_OtherTable : PySem.W.kitOne K (.ref C_OtherTable) (.ref C_InvalidShots) = some false)
    (kt_InvalidSide_OtherTable : PySem.W.kitOne K (.ref C_OtherTable) (.ref C_InvalidSide) = some false)
    (kt_InvalidSpot_OtherTable : PySem.W.kitOne K (.ref C_OtherTable) (.ref C_InvalidSpot) = some false)
    (kt_InvalidStretch_OtherTable : PySem.W.kitOne K (.ref C_OtherTable) (.ref C_InvalidStretch) = some false)
    (kt_InvalidStretches_OtherTable : PySem.W.kitOne K (.ref C_OtherTable) (.ref C_InvalidStretches) = some false)
    (kt_InvalidTable_OtherTable : PySem.W.kitOne K (.ref C_OtherTable) (.ref C_InvalidTable) = some false)
    (kt_InvalidText_OtherTable : PySem.W.kitOne K (.ref C_OtherTable) (.ref C_InvalidText) = some false)
    (kt_InvalidTime_OtherTable : PySem.W.kitOne K (.ref C_OtherTable) (.ref C_InvalidTime) = some false)
    (kt_NotABall_OtherTable : PySem.W.kitOne K (.ref C_OtherTable) (.ref C_NotABall) = some false)
    (kt_NothingToUndo_OtherTable : PySem.W.kitOne K (.ref C_OtherTable) (.ref C_NothingToUndo) = some false)
    (kt_OtherTable_OtherTable : PySem.W.kitOne K (.ref C_OtherTable) (.ref C_OtherTable) = some true)
    (kt_ShotError_OtherTable : PySem.W.kitOne K (.ref C_OtherTable) (.ref C_ShotError) = some true)
    (kt_TooMany_OtherTable : PySem.W.kitOne K (.ref C_OtherTable) (.ref C_TooMany) = some false)
    (kv_OtherTable : PySem.W.kitOne K (.ref C_OtherTable) (.type "ValueError") = some true)
    (x3_OtherTable : PySem.W.keepIn K (.ref C_OtherTable) = true) (x5_OtherTable : PySem.W.typeIn K (.ref C_OtherTable) = some (.type "type"))
    (x2_OtherTable : PySem.W.excIn K C_OtherTable [.type "ValueError", .type "Exception", .type "BaseException", .type "object"] "ValueError.__new__" = true)
    (x1_NothingToUndo : PySem.W.nsIn K mainGlobals "NothingToUndo" = some (some (.ref C_NothingToUndo))) (x4_NothingToUndo : PySem.W.subIn K (.ref C_NothingToUndo) (.type "BaseException") = some true) (e4_NothingToUndo : PySem.W.hasDictIn K C_NothingToUndo = true)
    (e1_NothingToUndo : PySem.W.findIn K (.ref C_NothingToUndo) "__getattribute__" = some (some (.builtin "BaseException.__getattribute__"))) (e2_NothingToUndo : PySem.W.findIn K (.ref C_NothingToUndo) "__getattr__" = some none) (e3_NothingToUndo : PySem.W.findIn K (.ref C_NothingToUndo) "__class__" = some (some (.builtin "object.__class__"))) (e5_NothingToUndo : PySem.W.mroIn K C_NothingToUndo (.type "object") = some true)
    (xkkInt_NothingToUndo : PySem.W.kitOne K (.ref C_NothingToUndo) (.type "int") = some false)
    (xkkBool_NothingToUndo : PySem.W.kitOne K (.ref C_NothingToUndo) (.type "bool") = some false)
    (xkkStr_NothingToUndo : PySem.W.kitOne K (.ref C_NothingToUndo) (.type "str") = some false)
    (xkkTup_NothingToUndo : PySem.W.kitOne K (.ref C_NothingToUndo) (.type "tuple") = some false)
    (xkkLst_NothingToUndo : PySem.W.kitOne K (.ref C_NothingToUndo) (.type "list") = some false)
    (xkkDict_NothingToUndo : PySem.W.kitOne K (.ref C_NothingToUndo) (.type "dict") = some false)
    (en_count_NothingToUndo : PySem.W.findIn K (.ref C_NothingToUndo) "count" = some none)
    (en_time_NothingToUndo : PySem.W.findIn K (.ref C_NothingToUndo) "time" = some none)
    (kt_AlwaysTogether_NothingToUndo : PySem.W.kitOne K (.ref C_NothingToUndo) (.ref C_AlwaysTogether) = some false)
    (kt_BallsMeet_NothingToUndo : PySem.W.kitOne K (.ref C_NothingToUndo) (.ref C_BallsMeet) = some false)
    (kt_InvalidBall_NothingToUndo : PySem.W.kitOne K (.ref C_NothingToUndo) (.ref C_InvalidBall) = some false)
    (kt_InvalidBox_NothingToUndo : PySem.W.kitOne K (.ref C_NothingToUndo) (.ref C_InvalidBox) = some false)
    (kt_InvalidChange_NothingToUndo : PySem.W.kitOne K (.ref C_NothingToUndo) (.ref C_InvalidChange) = some false)
    (kt_InvalidCushion_NothingToUndo : PySem.W.kitOne K (.ref C_NothingToUndo) (.ref C_InvalidCushion) = some false)
    (kt_InvalidCushions_NothingToUndo : PySem.W.kitOne K (.ref C_NothingToUndo) (.ref C_InvalidCushions) = some false)
    (kt_InvalidIndex_NothingToUndo : PySem.W.kitOne K (.ref C_NothingToUndo) (.ref C_InvalidIndex) = some false)
    (kt_InvalidNumber_NothingToUndo : PySem.W.kitOne K (.ref C_NothingToUndo) (.ref C_InvalidNumber) = some false)
    (kt_InvalidPockets_NothingToUndo : PySem.W.kitOne K (.ref C_NothingToUndo) (.ref C_InvalidPockets) = some false)
    (kt_InvalidShot_NothingToUndo : PySem.W.kitOne K (.ref C_NothingToUndo) (.ref C_InvalidShot) = some false)
    (kt_InvalidShots_NothingToUndo : PySem.W.kitOne K (.ref C_NothingToUndo) (.ref C_InvalidShots) = some false)
    (kt_InvalidSide_NothingToUndo : PySem.W.kitOne K (.ref C_NothingToUndo) (.ref C_InvalidSide) = some false)
    (kt_InvalidSpot_NothingToUndo : PySem.W.kitOne K (.ref C_NothingToUndo) (.ref C_InvalidSpot) = some false)
    (kt_InvalidStretch_NothingToUndo : PySem.W.kitOne K (.ref C_NothingToUndo) (.ref C_InvalidStretch) = some false)
    (kt_InvalidStretches_NothingToUndo : PySem.W.kitOne K (.ref C_NothingToUndo) (.ref C_InvalidStretches) = some false)
    (kt_InvalidTable_NothingToUndo : PySem.W.kitOne K (.ref C_NothingToUndo) (.ref C_InvalidTable) = some false)
    (kt_InvalidText_NothingToUndo : PySem.W.kitOne K (.ref C_NothingToUndo) (.ref C_InvalidText) = some false)
    (kt_InvalidTime_NothingToUndo : PySem.W.kitOne K (.ref C_NothingToUndo) (.ref C_InvalidTime) = some false)
    (kt_NotABall_NothingToUndo : PySem.W.kitOne K (.ref C_NothingToUndo) (.ref C_NotABall) = some false)
    (kt_NothingToUndo_NothingToUndo : PySem.W.kitOne K (.ref C_NothingToUndo) (.ref C_NothingToUndo) = some true)
    (kt_OtherTable_NothingToUndo : PySem.W.kitOne K (.ref C_NothingToUndo) (.ref C_OtherTable) = some false)
    (kt_ShotError_NothingToUndo : PySem.W.kitOne K (.ref C_NothingToUndo) (.ref C_ShotError) = some true)
    (kt_TooMany_NothingToUndo : PySem.W.kitOne K (.ref C_NothingToUndo) (.ref C_TooMany) = some false)
    (kv_NothingToUndo : PySem.W.kitOne K (.ref C_NothingToUndo) (.type "ValueError") = some true)
    (x3_NothingToUndo : PySem.W.keepIn K (.ref C_NothingToUndo) = true) (x5_NothingToUndo : PySem.W.typeIn K (.ref C_NothingToUndo) = some (.type "type"))
    (x2_NothingToUndo : PySem.W.excIn K C_NothingToUndo [.type "ValueError", .type "Exception", .type "BaseException", .type "object"] "ValueError.__new__" = true)
    (x1_BallsMeet : PySem.W.nsIn K mainGlobals "BallsMeet" = some (some (.ref C_BallsMeet))) (x4_BallsMeet : PySem.W.subIn K (.ref C_BallsMeet) (.type "BaseException") = some true) (e4_BallsMeet : PySem.W.hasDictIn K C_BallsMeet = true)
    (e1_BallsMeet : PySem.W.findIn K (.ref C_BallsMeet) "__getattribute__" = some (some (.builtin "BaseException.__getattribute__"))) (e2_BallsMeet : PySem.W.findIn K (.ref C_BallsMeet) "__getattr__" = some none) (e3_BallsMeet : PySem.W.findIn K (.ref C_BallsMeet) "__class__" = some (some (.builtin "object.__class__"))) (e5_BallsMeet : PySem.W.mroIn K C_BallsMeet (.type "object") = some true)
    (xkkInt_BallsMeet : PySem.W.kitOne K (.ref C_BallsMeet) (.type "int") = some false)
    (xkkBool_BallsMeet : PySem.W.kitOne K (.ref C_BallsMeet) (.type "bool") = some false)
    (xkkStr_BallsMeet : PySem.W.kitOne K (.ref C_BallsMeet) (.type "str") = some false)
    (xkkTup_BallsMeet : PySem.W.kitOne K (.ref C_BallsMeet) (.type "tuple") = some false)
    (xkkLst_BallsMeet : PySem.W.kitOne K (.ref C_BallsMeet) (.type "list") = some false)
    (xkkDict_BallsMeet : PySem.W.kitOne K (.ref C_BallsMeet) (.type "dict") = some false)
    (en_count_BallsMeet : PySem.W.findIn K (.ref C_BallsMeet) "count" = some none)
    (en_time_BallsMeet : PySem.W.findIn K (.ref C_BallsMeet) "time" = some none)
    (kt_AlwaysTogether_BallsMeet : PySem.W.kitOne K (.ref C_BallsMeet) (.ref C_AlwaysTogether) = some false)
    (kt_BallsMeet_BallsMeet : PySem.W.kitOne K (.ref C_BallsMeet) (.ref C_BallsMeet) = some true)
    (kt_InvalidBall_BallsMeet : PySem.W.kitOne K (.ref C_BallsMeet) (.ref C_InvalidBall) = some false)
    (kt_InvalidBox_BallsMeet : PySem.W.kitOne K (.ref C_BallsMeet) (.ref C_InvalidBox) = some false)
    (kt_InvalidChange_BallsMeet : PySem.W.kitOne K (.ref C_BallsMeet) (.ref C_InvalidChange) = some false)
    (kt_InvalidCushion_BallsMeet : PySem.W.kitOne K (.ref C_BallsMeet) (.ref C_InvalidCushion) = some false)
    (kt_InvalidCushions_BallsMeet : PySem.W.kitOne K (.ref C_BallsMeet) (.ref C_InvalidCushions) = some false)
    (kt_InvalidIndex_BallsMeet : PySem.W.kitOne K (.ref C_BallsMeet) (.ref C_InvalidIndex) = some false)
    (kt_InvalidNumber_BallsMeet : PySem.W.kitOne K (.ref C_BallsMeet) (.ref C_InvalidNumber) = some false)
    (kt_InvalidPockets_BallsMeet : PySem.W.kitOne K (.ref C_BallsMeet) (.ref C_InvalidPockets) = some false)
    (kt_InvalidShot_BallsMeet : PySem.W.kitOne K (.ref C_BallsMeet) (.ref C_InvalidShot) = some false)
    (kt_InvalidShots_BallsMeet : PySem.W.kitOne K (.ref C_BallsMeet) (.ref C_InvalidShots) = some false)
    (kt_InvalidSide_BallsMeet : PySem.W.kitOne K (.ref C_BallsMeet) (.ref C_InvalidSide) = some false)
    (kt_InvalidSpot_BallsMeet : PySem.W.kitOne K (.ref C_BallsMeet) (.ref C_InvalidSpot) = some false)
    (kt_InvalidStretch_BallsMeet : PySem.W.kitOne K (.ref C_BallsMeet) (.ref C_InvalidStretch) = some false)
    (kt_InvalidStretches_BallsMeet : PySem.W.kitOne K (.ref C_BallsMeet) (.ref C_InvalidStretches) = some false)
    (kt_InvalidTable_BallsMeet : PySem.W.kitOne K (.ref C_BallsMeet) (.ref C_InvalidTable) = some false)
    (kt_InvalidText_BallsMeet : PySem.W.kitOne K (.ref C_BallsMeet) (.ref C_InvalidText) = some false)
    (kt_InvalidTime_BallsMeet : PySem.W.kitOne K (.ref C_BallsMeet) (.ref C_InvalidTime) = some false)
    (kt_NotABall_BallsMeet : PySem.W.kitOne K (.ref C_BallsMeet) (.ref C_NotABall) = some false)
    (kt_NothingToUndo_BallsMeet : PySem.W.kitOne K (.ref C_BallsMeet) (.ref C_NothingToUndo) = some false)
    (kt_OtherTable_BallsMeet : PySem.W.kitOne K (.ref C_BallsMeet) (.ref C_OtherTable) = some false)
    (kt_ShotError_BallsMeet : PySem.W.kitOne K (.ref C_BallsMeet) (.ref C_ShotError) = some true)
    (kt_TooMany_BallsMeet : PySem.W.kitOne K (.ref C_BallsMeet) (.ref C_TooMany) = some false)
    (kv_BallsMeet : PySem.W.kitOne K (.ref C_BallsMeet) (.type "ValueError") = some true)
    (x3_BallsMeet : PySem.W.keepIn K (.ref C_BallsMeet) = true) (x5_BallsMeet : PySem.W.typeIn K (.ref C_BallsMeet) = some (.type "type"))
    (x1_TooMany : PySem.W.nsIn K mainGlobals "TooMany" = some (some (.ref C_TooMany))) (x4_TooMany : PySem.W.subIn K (.ref C_TooMany) (.type "BaseException") = some true) (e4_TooMany : PySem.W.hasDictIn K C_TooMany = true)
    (e1_TooMany : PySem.W.findIn K (.ref C_TooMany) "__getattribute__" = some (some (.builtin "BaseException.__getattribute__"))) (e2_TooMany : PySem.W.findIn K (.ref C_TooMany) "__getattr__" = some none) (e3_TooMany : PySem.W.findIn K (.ref C_TooMany) "__class__" = some (some (.builtin "object.__class__"))) (e5_TooMany : PySem.W.mroIn K C_TooMany (.type "object") = some true)
    (xkkInt_TooMany : PySem.W.kitOne K (.ref C_TooMany) (.type "int") = some false)
    (xkkBool_TooMany : PySem.W.kitOne K (.ref C_TooMany) (.type "bool") = some false)
    (xkkStr_TooMany : PySem.W.kitOne K (.ref C_TooMany) (.type "str") = some false)
    (xkkTup_TooMany : PySem.W.kitOne K (.ref C_TooMany) (.type "tuple") = some false)
    (xkkLst_TooMany : PySem.W.kitOne K (.ref C_TooMany) (.type "list") = some false)
    (xkkDict_TooMany : PySem.W.kitOne K (.ref C_TooMany) (.type "dict") = some false)
    (en_count_TooMany : PySem.W.findIn K (.ref C_TooMany) "count" = some none)
    (en_time_TooMany : PySem.W.findIn K (.ref C_TooMany) "time" = some none)
    (kt_AlwaysTogether_TooMany : PySem.W.kitOne K (.ref C_TooMany) (.ref C_AlwaysTogether) = some false)
    (kt_BallsMeet_TooMany : PySem.W.kitOne K (.ref C_TooMany) (.ref C_BallsMeet) = some false)
    (kt_InvalidBall_TooMany : PySem.W.kitOne K (.ref C_TooMany) (.ref C_InvalidBall) = some false)
    (kt_InvalidBox_TooMany : PySem.W.kitOne K (.ref C_TooMany) (.ref C_InvalidBox) = some false)
    (kt_InvalidChange_TooMany : PySem.W.kitOne K (.ref C_TooMany) (.ref C_InvalidChange) = some false)
    (kt_InvalidCushion_TooMany : PySem.W.kitOne K (.ref C_TooMany) (.ref C_InvalidCushion) = some false)
    (kt_InvalidCushions_TooMany : PySem.W.kitOne K (.ref C_TooMany) (.ref C_InvalidCushions) = some false)
    (kt_InvalidIndex_TooMany : PySem.W.kitOne K (.ref C_TooMany) (.ref C_InvalidIndex) = some false)
    (kt_InvalidNumber_TooMany : PySem.W.kitOne K (.ref C_TooMany) (.ref C_InvalidNumber) = some false)
    (kt_InvalidPockets_TooMany : PySem.W.kitOne K (.ref C_TooMany) (.ref C_InvalidPockets) = some false)
    (kt_InvalidShot_TooMany : PySem.W.kitOne K (.ref C_TooMany) (.ref C_InvalidShot) = some false)
    (kt_InvalidShots_TooMany : PySem.W.kitOne K (.ref C_TooMany) (.ref C_InvalidShots) = some false)
    (kt_InvalidSide_TooMany : PySem.W.kitOne K (.ref C_TooMany) (.ref C_InvalidSide) = some false)
    (kt_InvalidSpot_TooMany : PySem.W.kitOne K (.ref C_TooMany) (.ref C_InvalidSpot) = some false)
    (kt_InvalidStretch_TooMany : PySem.W.kitOne K (.ref C_TooMany) (.ref C_InvalidStretch) = some false)
    (kt_InvalidStretches_TooMany : PySem.W.kitOne K (.ref C_TooMany) (.ref C_InvalidStretches) = some false)
    (kt_InvalidTable_TooMany : PySem.W.kitOne K (.ref C_TooMany) (.ref C_InvalidTable) = some false)
    (kt_InvalidText_TooMany : PySem.W.kitOne K (.ref C_TooMany) (.ref C_InvalidText) = some false)
    (kt_InvalidTime_TooMany : PySem.W.kitOne K (.ref C_TooMany) (.ref C_InvalidTime) = some false)
    (kt_NotABall_TooMany : PySem.W.kitOne K (.ref C_TooMany) (.ref C_NotABall) = some false)
    (kt_NothingToUndo_TooMany : PySem.W.kitOne K (.ref C_TooMany) (.ref C_NothingToUndo) = some false)
    (kt_OtherTable_TooMany : PySem.W.kitOne K (.ref C_TooMany) (.ref C_OtherTable) = some false)
    (kt_ShotError_TooMany : PySem.W.kitOne K (.ref C_TooMany) (.ref C_ShotError) = some true)
    (kt_TooMany_TooMany : PySem.W.kitOne K (.ref C_TooMany) (.ref C_TooMany) = some true)
    (kv_TooMany : PySem.W.kitOne K (.ref C_TooMany) (.type "ValueError") = some true)
    (x3_TooMany : PySem.W.keepIn K (.ref C_TooMany) = true) (x5_TooMany : PySem.W.typeIn K (.ref C_TooMany) = some (.type "type"))
    (hn_ : PySem.W.specialIn K (.builtin "object.__class__") "__get__" = some (some (.builtin "getset_descriptor.__get__"))) (ht_ : PySem.W.takesIn K (.builtin "object.__class__") = some true) (opq_ : PySem.W.nsIn K cStatics "thirdparty.any" = some none) (sup_ : PySem.W.nsIn K mainGlobals "super" = some none)
    (top_ : (l.prog.main.scope.names.lookup ("super" : Str)).isSome = false)
    {odx_BallsMeet anx_BallsMeet odcx_BallsMeet odlx_BallsMeet : Option Addr} {slx_BallsMeet slcx_BallsMeet sllx_BallsMeet : Array (Option Value)} {ocx_BallsMeet kVx_BallsMeet dcx_BallsMeet pmx_BallsMeet ctx_BallsMeet occx_BallsMeet oclx_BallsMeet : Value} {vsx_BallsMeet : Array Value} {filex_BallsMeet : Str} {tfx_BallsMeet : Tok}
    (i1_BallsMeet : PySem.W.findIn K (.ref C_BallsMeet) "__init__" = some (some (.ref fx_BallsMeet))) (lx_BallsMeet : K.lookup fx_BallsMeet = some ⟨ocx_BallsMeet, odx_BallsMeet, .func (PySem.W.ksFn "__init__" "BallsMeet.__init__" (defArgs s_x_BallsMeet) (defBody s_x_BallsMeet) (defScope s_x_BallsMeet) .none kVx_BallsMeet dcx_BallsMeet pmx_BallsMeet anx_BallsMeet (.ref cda_BallsMeet) ctx_BallsMeet cc_BallsMeet), slx_BallsMeet⟩)
    (cx_BallsMeet : PySem.W.codeIn K (.ref cda_BallsMeet) "BallsMeet.__init__" = true) (lcx_BallsMeet : K.lookup cda_BallsMeet = some ⟨occx_BallsMeet, odcx_BallsMeet, .fields vsx_BallsMeet, slcx_BallsMeet⟩) (llx_BallsMeet : K.lookup cc_BallsMeet = some ⟨oclx_BallsMeet, odlx_BallsMeet, .cell (some (.ref C_BallsMeet)), sllx_BallsMeet⟩)
    (vvx_BallsMeet : vsx_BallsMeet[2]? = some (.str filex_BallsMeet tfx_BallsMeet)) (ffx_BallsMeet : ((l.prog.main.file : Str) == filex_BallsMeet) = true) (t1_BallsMeet : PySem.W.typeIn K (.ref fx_BallsMeet) = some (.type "function")) (ss_BallsMeet : PySem.W.ks_superIn K C_BallsMeet C_BallsMeet "__init__" = some (some (.builtin "ValueError.__init__"))) (sb_BallsMeet : PySem.W.subIn K (.ref C_BallsMeet) (.type "ValueError") = some true) (sm_BallsMeet : PySem.W.mroIn K C_BallsMeet (.ref C_BallsMeet) = some true) (sa_BallsMeet : PySem.W.findIn K (.ref C_BallsMeet) "__setattr__" = some (some (.builtin "object.__setattr__")))
    {nmx_BallsMeet qx_BallsMeet : Str} {Nx_BallsMeet : Addr} {bsx_BallsMeet bmx_BallsMeet subx_BallsMeet : List Value} {snx_BallsMeet : List Str} {abx_BallsMeet : Bool} {colx_BallsMeet : Option Bool} {ddx_BallsMeet : Option Addr} {kax_BallsMeet kbx_BallsMeet kcx_BallsMeet kdx_BallsMeet kex_BallsMeet : Option Value} (lo_BallsMeet : K.lookup C_BallsMeet = some (excClassObj nmx_BallsMeet qx_BallsMeet C_BallsMeet Nx_BallsMeet bsx_BallsMeet bmx_BallsMeet true snx_BallsMeet subx_BallsMeet abx_BallsMeet colx_BallsMeet ddx_BallsMeet kax_BallsMeet kbx_BallsMeet kcx_BallsMeet kdx_BallsMeet kex_BallsMeet "ValueError.__new__")) (rv_BallsMeet : PySem.HandSPX.refsVE bmx_BallsMeet = true)
    {odx_TooMany anx_TooMany odcx_TooMany odlx_TooMany : Option Addr} {slx_TooMany slcx_TooMany sllx_TooMany : Array (Option Value)} {ocx_TooMany kVx_TooMany dcx_TooMany pmx_TooMany ctx_TooMany occx_TooMany oclx_TooMany : Value} {vsx_TooMany : Array Value} {filex_TooMany : Str} {tfx_TooMany : Tok}
    (i1_TooMany : PySem.W.findIn K (.ref C_TooMany) "__init__" = some (some (.ref fx_TooMany))) (lx_TooMany : K.lookup fx_TooMany = some ⟨ocx_TooMany, odx_TooMany, .func (PySem.W.ksFn "__init__" "TooMany.__init__" (defArgs s_x_TooMany) (defBody s_x_TooMany) (defScope s_x_TooMany) .none kVx_TooMany dcx_TooMany pmx_TooMany anx_TooMany (.ref cda_TooMany) ctx_TooMany cc_TooMany), slx_TooMany⟩)
    (cx_TooMany : PySem.W.codeIn K (.ref cda_TooMany) "TooMany.__init__" = true) (lcx_TooMany : K.lookup cda_TooMany = some ⟨occx_TooMany, odcx_TooMany, .fields vsx_TooMany, slcx_TooMany⟩) (llx_TooMany : K.lookup cc_TooMany = some ⟨oclx_TooMany, odlx_TooMany, .cell (some (.ref C_TooMany)), sllx_TooMany⟩)
    (vvx_TooMany : vsx_TooMany[2]? = some (.str filex_TooMany tfx_TooMany)) (ffx_TooMany : ((l.prog.main.file : Str) == filex_TooMany) = true) (t1_TooMany : PySem.W.typeIn K (.ref fx_TooMany) = some (.type "function")) (ss_TooMany : PySem.W.ks_superIn K C_TooMany C_TooMany "__init__" = some (some (.builtin "ValueError.__init__"))) (sb_TooMany : PySem.W.subIn K (.ref C_TooMany) (.type "ValueError") = some true) (sm_TooMany : PySem.W.mroIn K C_TooMany (.ref C_TooMany) = some true) (sa_TooMany : PySem.W.findIn K (.ref C_TooMany) "__setattr__" = some (some (.builtin "object.__setattr__")))
    {nmx_TooMany qx_TooMany : Str} {Nx_TooMany : Addr} {bsx_TooMany bmx_TooMany subx_TooMany : List Value} {snx_TooMany : List Str} {abx_TooMany : Bool} {colx_TooMany : Option Bool} {ddx_TooMany : Option Addr} {kax_TooMany kbx_TooMany kcx_TooMany kdx_TooMany kex_TooMany : Option Value} (lo_TooMany : K.lookup C_TooMany = some (excClassObj nmx_TooMany qx_TooMany C_TooMany Nx_TooMany bsx_TooMany bmx_TooMany true snx_TooMany subx_TooMany abx_TooMany colx_TooMany ddx_TooMany kax_TooMany kbx_TooMany kcx_TooMany kdx_TooMany kex_TooMany "ValueError.__new__")) (rv_TooMany : PySem.HandSPX.refsVE bmx_TooMany = true)
    : ∃ fd : FuncData, (∀ (s : Shared) (u : Value), BindsTo s fd ⟨[u], []⟩ [("script", u)]) ∧ ∀ base : Heap, K.In base → base.Ns mainGlobals mg → FnG l.prog w K mg base 4 fa fd ["script"] (spL K) := by
  have e := hfa.symm.trans (PySem.W.mg_of X G0 a5)
  cases e
  let CN : String → Option Addr := fun s => none
  have oe_ShotError : ObjE K "ShotError" C_ShotError := ⟨by decide +kernel, x1_ShotError, ⟨e1_ShotError, e2_ShotError, x4_ShotError, e4_ShotError, e3_ShotError, hn_, ht_, e5_ShotError⟩, cl_some e4_ShotError, fun k => match k with | .kInt => xkkInt_ShotError | .kBool => xkkBool_ShotError | .kStr => xkkStr_ShotError | .kTup => xkkTup_ShotError | .kLst => xkkLst_ShotError | .kDict => xkkDict_ShotError⟩
  have oe_InvalidTable : ObjE K "InvalidTable" C_InvalidTable := ⟨by decide +kernel, x1_InvalidTable, ⟨e1_InvalidTable, e2_InvalidTable, x4_InvalidTable, e4_InvalidTable, e3_InvalidTable, hn_, ht_, e5_InvalidTable⟩, cl_some e4_InvalidTable, fun k => match k with | .kInt => xkkInt_InvalidTable | .kBool => xkkBool_InvalidTable | .kStr => xkkStr_InvalidTable | .kTup => xkkTup_InvalidTable | .kLst => xkkLst_InvalidTable | .kDict => xkkDict_InvalidTable⟩
  have oe_InvalidShot : ObjE K "InvalidShot" C_InvalidShot := ⟨by decide +kernel, x1_InvalidShot, ⟨e1_InvalidShot, e2_InvalidShot, x4_InvalidShot, e4_InvalidShot, e3_InvalidShot, hn_, ht_, e5_InvalidShot⟩, cl_some e4_InvalidShot, fun k => match k with | .kInt => xkkInt_InvalidShot | .kBool => xkkBool_InvalidShot | .kStr => xkkStr_InvalidShot | .kTup => xkkTup_InvalidShot | .kLst => xkkLst_InvalidShot | .kDict => xkkDict_InvalidShot⟩
  have oe_InvalidSide : ObjE K "InvalidSide" C_InvalidSide := ⟨by decide +kernel, x1_InvalidSide, ⟨e1_InvalidSide, e2_InvalidSide, x4_InvalidSide, e4_InvalidSide, e3_InvalidSide, hn_, ht_, e5_InvalidSide⟩, cl_some e4_InvalidSide, fun k => match k with | .kInt => xkkInt_InvalidSide | .kBool => xkkBool_InvalidSide | .kStr => xkkStr_InvalidSide | .kTup => xkkTup_InvalidSide | .kLst => xkkLst_InvalidSide | .kDict => xkkDict_InvalidSide⟩
  have oe_InvalidTime : ObjE K "InvalidTime" C_InvalidTime := ⟨by decide +kernel, x1_InvalidTime, ⟨e1_InvalidTime, e2_InvalidTime, x4_InvalidTime, e4_InvalidTime, e3_InvalidTime, hn_, ht_, e5_InvalidTime⟩, cl_some e4_InvalidTime, fun k => match k with | .kInt => xkkInt_InvalidTime | .kBool => xkkBool_InvalidTime | .kStr => xkkStr_InvalidTime | .kTup => xkkTup_InvalidTime | .kLst => xkkLst_InvalidTime | .kDict => xkkDict_InvalidTime⟩
  have oe_InvalidNumber : ObjE K "InvalidNumber" C_InvalidNumber := ⟨by decide +kernel, x1_InvalidNumber, ⟨e1_InvalidNumber, e2_InvalidNumber, x4_InvalidNumber, e4_InvalidNumber, e3_InvalidNumber, hn_, ht_, e5_InvalidNumber⟩, cl_some e4_InvalidNumber, fun k => match k with | .kInt => xkkInt_InvalidNumber | .kBool => xkkBool_InvalidNumber | .kStr => xkkStr_InvalidNumber | .kTup => xkkTup_InvalidNumber | .kLst => xkkLst_InvalidNumber | .kDict => xkkDict_InvalidNumber⟩
  have oe_InvalidIndex : ObjE K "InvalidIndex" C_InvalidIndex := ⟨by decide +kernel, x1_InvalidIndex, ⟨e1_InvalidIndex, e2_InvalidIndex, x4_InvalidIndex, e4_InvalidIndex, e3_InvalidIndex, hn_, ht_, e5_InvalidIndex⟩, cl_some e4_InvalidIndex, fun k => match k with | .kInt => xkkInt_InvalidIndex | .kBool => xkkBool_InvalidIndex | .kStr => xkkStr_InvalidIndex | .kTup => xkkTup_InvalidIndex | .kLst => xkkLst_InvalidIndex | .kDict => xkkDict_InvalidIndex⟩
  have oe_InvalidCushion : ObjE K "InvalidCushion" C_InvalidCushion := ⟨by decide +kernel, x1_InvalidCushion, ⟨e1_InvalidCushion, e2_InvalidCushion, x4_InvalidCushion, e4_InvalidCushion, e3_InvalidCushion, hn_, ht_, e5_InvalidCushion⟩, cl_some e4_InvalidCushion, fun k => match k with | .kInt => xkkInt_InvalidCushion | .kBool => xkkBool_InvalidCushion | .kStr => xkkStr_InvalidCushion | .kTup => xkkTup_InvalidCushion | .kLst => xkkLst_InvalidCushion | .kDict => xkkDict_InvalidCushion⟩
  have oe_InvalidSpot : ObjE K "InvalidSpot" C_InvalidSpot := ⟨by decide +kernel, x1_InvalidSpot, ⟨e1_InvalidSpot, e2_InvalidSpot, x4_InvalidSpot, e4_InvalidSpot, e3_InvalidSpot, hn_, ht_, e5_InvalidSpot⟩, cl_some e4_InvalidSpot, fun k => match k with | .kInt => xkkInt_InvalidSpot | .kBool => xkkBool_InvalidSpot | .kStr => xkkStr_InvalidSpot | .kTup => xkkTup_InvalidSpot | .kLst => xkkLst_InvalidSpot | .kDict => xkkDict_InvalidSpot⟩
  have oe_InvalidBox : ObjE K "InvalidBox" C_InvalidBox := ⟨by decide +kernel, x1_InvalidBox, ⟨e1_InvalidBox, e2_InvalidBox, x4_InvalidBox, e4_InvalidBox, e3_InvalidBox, hn_, ht_, e5_InvalidBox⟩, cl_some e4_InvalidBox, fun k => match k with | .kInt => xkkInt_InvalidBox | .kBool => xkkBool_InvalidBox | .kStr => xkkStr_InvalidBox | .kTup => xkkTup_InvalidBox | .kLst => xkkLst_InvalidBox | .kDict => xkkDict_InvalidBox⟩
  have oe_InvalidStretch : ObjE K "InvalidStretch" C_InvalidStretch := ⟨by decide +kernel, x1_InvalidStretch, ⟨e1_InvalidStretch, e2_InvalidStretch, x4_InvalidStretch, e4_InvalidStretch, e3_InvalidStretch, hn_, ht_, e5_InvalidStretch⟩, cl_some e4_InvalidStretch, fun k => match k with | .kInt => xkkInt_InvalidStretch | .kBool => xkkBool_InvalidStretch | .kStr => xkkStr_InvalidStretch | .kTup => xkkTup_InvalidStretch | .kLst => xkkLst_InvalidStretch | .kDict => xkkDict_InvalidStretch⟩
  have oe_InvalidStretches : ObjE K "InvalidStretches" C_InvalidStretches := ⟨by decide +kernel, x1_InvalidStretches, ⟨e1_InvalidStretches, e2_InvalidStretches, x4_InvalidStretches, e4_InvalidStretches, e3_InvalidStretches, hn_, ht_, e5_InvalidStretches⟩, cl_some e4_InvalidStretches, fun k => match k with | .kInt => xkkInt_InvalidStretches | .kBool => xkkBool_InvalidStretches | .kStr => xkkStr_InvalidStretches | .kTup => xkkTup_InvalidStretches | .kLst => xkkLst_InvalidStretches | .kDict => xkkDict_InvalidStretches⟩
  have oe_InvalidPockets : ObjE K "InvalidPockets" C_InvalidPockets := ⟨by decide +kernel, x1_InvalidPockets, ⟨e1_InvalidPockets, e2_InvalidPockets, x4_InvalidPockets, e4_InvalidPockets, e3_InvalidPockets, hn_, ht_, e5_InvalidPockets⟩, cl_some e4_InvalidPockets, fun k => match k with | .kInt => xkkInt_InvalidPockets | .kBool => xkkBool_InvalidPockets | .kStr => xkkStr_InvalidPockets | .kTup => xkkTup_InvalidPockets | .kLst => xkkLst_InvalidPockets | .kDict => xkkDict_InvalidPockets⟩
  have oe_InvalidCushions : ObjE K "InvalidCushions" C_InvalidCushions := ⟨by decide +kernel, x1_InvalidCushions, ⟨e1_InvalidCushions, e2_InvalidCushions, x4_InvalidCushions, e4_InvalidCushions, e3_InvalidCushions, hn_, ht_, e5_InvalidCushions⟩, cl_some e4_InvalidCushions, fun k => match k with | .kInt => xkkInt_InvalidCushions | .kBool => xkkBool_InvalidCushions | .kStr => xkkStr_InvalidCushions | .kTup => xkkTup_InvalidCushions | .kLst => xkkLst_InvalidCushions | .kDict => xkkDict_InvalidCushions⟩
  have oe_InvalidShots : ObjE K "InvalidShots" C_InvalidShots := ⟨by decide +kernel, x1_InvalidShots, ⟨e1_InvalidShots, e2_InvalidShots, x4_InvalidShots, e4_InvalidShots, e3_InvalidShots, hn_, ht_, e5_InvalidShots⟩, cl_some e4_InvalidShots, fun k => match k with | .kInt => xkkInt_InvalidShots | .kBool => xkkBool_InvalidShots | .kStr => xkkStr_InvalidShots | .kTup => xkkTup_InvalidShots | .kLst => xkkLst_InvalidShots | .kDict => xkkDict_InvalidShots⟩
  have oe_InvalidBall : ObjE K "InvalidBall" C_InvalidBall := ⟨by decide +kernel, x1_InvalidBall, ⟨e1_InvalidBall, e2_InvalidBall, x4_InvalidBall, e4_InvalidBall, e3_InvalidBall, hn_, ht_, e5_InvalidBall⟩, cl_some e4_InvalidBall, fun k => match k with | .kInt => xkkInt_InvalidBall | .kBool => xkkBool_InvalidBall | .kStr => xkkStr_InvalidBall | .kTup => xkkTup_InvalidBall | .kLst => xkkLst_InvalidBall | .kDict => xkkDict_InvalidBall⟩
  have oe_InvalidText : ObjE K "InvalidText" C_InvalidText := ⟨by decide +kernel, x1_InvalidText, ⟨e1_InvalidText, e2_InvalidText, x4_InvalidText, e4_InvalidText, e3_InvalidText, hn_, ht_, e5_InvalidText⟩, cl_some e4_InvalidText, fun k => match k with | .kInt => xkkInt_InvalidText | .kBool => xkkBool_InvalidText | .kStr => xkkStr_InvalidText | .kTup => xkkTup_InvalidText | .kLst => xkkLst_InvalidText | .kDict => xkkDict_InvalidText⟩
  have oe_InvalidChange : ObjE K "InvalidChange" C_InvalidChange := ⟨by decide +kernel, x1_InvalidChange, ⟨e1_InvalidChange, e2_InvalidChange, x4_InvalidChange, e4_InvalidChange, e3_InvalidChange, hn_, ht_, e5_InvalidChange⟩, cl_some e4_InvalidChange, fun k => match k with | .kInt => xkkInt_InvalidChange | .kBool => xkkBool_InvalidChange | .kStr => xkkStr_InvalidChange | .kTup => xkkTup_InvalidChange | .kLst => xkkLst_InvalidChange | .kDict => xkkDict_InvalidChange⟩
  have oe_AlwaysTogether : ObjE K "AlwaysTogether" C_AlwaysTogether := ⟨by decide +kernel, x1_AlwaysTogether, ⟨e1_AlwaysTogether, e2_AlwaysTogether, x4_AlwaysTogether, e4_AlwaysTogether, e3_AlwaysTogether, hn_, ht_, e5_AlwaysTogether⟩, cl_some e4_AlwaysTogether, fun k => match k with | .kInt => xkkInt_AlwaysTogether | .kBool => xkkBool_AlwaysTogether | .kStr => xkkStr_AlwaysTogether | .kTup => xkkTup_AlwaysTogether | .kLst => xkkLst_AlwaysTogether | .kDict => xkkDict_AlwaysTogether⟩
  have oe_NotABall : ObjE K "NotABall" C_NotABall := ⟨by decide +kernel, x1_NotABall, ⟨e1_NotABall, e2_NotABall, x4_NotABall, e4_NotABall, e3_NotABall, hn_, ht_, e5_NotABall⟩, cl_some e4_NotABall, fun k => match k with | .kInt => xkkInt_NotABall | .kBool => xkkBool_NotABall | .kStr => xkkStr_NotABall | .kTup => xkkTup_NotABall | .kLst => xkkLst_NotABall | .kDict => xkkDict_NotABall⟩
  have oe_OtherTable : ObjE K "OtherTable" C_OtherTable := ⟨by decide +kernel, x1_OtherTable, ⟨e1_OtherTable, e2_OtherTable, x4_OtherTable, e4_OtherTable, e3_OtherTable, hn_, ht_, e5_OtherTable⟩, cl_some e4_OtherTable, fun k => match k with | .kInt => xkkInt_OtherTable | .kBool => xkkBool_OtherTable | .kStr => xkkStr_OtherTable | .kTup => xkkTup_OtherTable | .kLst => xkkLst_OtherTable | .kDict => xkkDict_OtherTable⟩
  have oe_NothingToUndo : ObjE K "NothingToUndo" C_NothingToUndo := ⟨by decide +kernel, x1_NothingToUndo, ⟨e1_NothingToUndo, e2_NothingToUndo, x4_NothingToUndo, e4_NothingToUndo, e3_NothingToUndo, hn_, ht_, e5_NothingToUndo⟩, cl_some e4_NothingToUndo, fun k => match k with | .kInt => xkkInt_NothingToUndo | .kBool => xkkBool_NothingToUndo | .kStr => xkkStr_NothingToUndo | .kTup => xkkTup_NothingToUndo | .kLst => xkkLst_NothingToUndo | .kDict => xkkDict_NothingToUndo⟩
  have oe_BallsMeet : ObjE K "BallsMeet" C_BallsMeet := ⟨by decide +kernel, x1_BallsMeet, ⟨e1_BallsMeet, e2_BallsMeet, x4_BallsMeet, e4_BallsMeet, e3_BallsMeet, hn_, ht_, e5_BallsMeet⟩, cl_some e4_BallsMeet, fun k => match k with | .kInt => xkkInt_BallsMeet | .kBool => xkkBool_BallsMeet | .kStr => xkkStr_BallsMeet | .kTup => xkkTup_BallsMeet | .kLst => xkkLst_BallsMeet | .kDict => xkkDict_BallsMeet⟩
  have oe_TooMany : ObjE K "TooMany" C_TooMany := ⟨by decide +kernel, x1_TooMany, ⟨e1_TooMany, e2_TooMany, x4_TooMany, e4_TooMany, e3_TooMany, hn_, ht_, e5_TooMany⟩, cl_some e4_TooMany, fun k => match k with | .kInt => xkkInt_TooMany | .kBool => xkkBool_TooMany | .kStr => xkkStr_TooMany | .kTup => xkkTup_TooMany | .kLst => xkkLst_TooMany | .kDict => xkkDict_TooMany⟩
  have ea : ∀ {p : Str → Addr → Prop}, p "ShotError" C_ShotError → p "InvalidTable" C_InvalidTable → p "InvalidShot" C_InvalidShot → p "InvalidSide" C_InvalidSide → p "InvalidTime" C_InvalidTime → p "InvalidNumber" C_InvalidNumber → p "InvalidIndex" C_InvalidIndex → p "InvalidCushion" C_InvalidCushion → p "InvalidSpot" C_InvalidSpot → p "InvalidBox" C_InvalidBox → p "InvalidStretch" C_InvalidStretch → p "InvalidStretches" C_InvalidStretches → p "InvalidPockets" C_InvalidPockets → p "InvalidCushions" C_InvalidCushions → p "InvalidShots" C_InvalidShots → p "InvalidBall" C_InvalidBall → p "InvalidText" C_InvalidText → p "InvalidChange" C_InvalidChange → p "AlwaysTogether" C_AlwaysTogether → p "NotABall" C_NotABall → p "OtherTable" C_OtherTable → p "NothingToUndo" C_NothingToUndo → p "BallsMeet" C_BallsMeet → p "TooMany" C_TooMany → ∀ c Cc, ObjE K c Cc → p c Cc := by
    intro p p_ShotError p_InvalidTable p_InvalidShot p_InvalidSide p_InvalidTime p_InvalidNumber p_InvalidIndex p_InvalidCushion p_InvalidSpot p_InvalidBox p_InvalidStretch p_InvalidStretches p_InvalidPockets p_InvalidCushions p_InvalidShots p_InvalidBall p_InvalidText p_InvalidChange p_AlwaysTogether p_NotABall p_OtherTable p_NothingToUndo p_BallsMeet p_TooMany c Cc h
    have hn := h.nm; have hs := h.ns
    simp only [errNames, List.mem_cons, List.not_mem_nil, or_false] at hn
    rcases hn with rfl | rfl | rfl | rfl | rfl | rfl | rfl | rfl | rfl | rfl | rfl | rfl | rfl | rfl | rfl | rfl | rfl | rfl | rfl | rfl | rfl | rfl | rfl | rfl
    · cases x1_ShotError.symm.trans hs; exact p_ShotError
    · cases x1_InvalidTable.symm.trans hs; exact p_InvalidTable
    · cases x1_InvalidShot.symm.trans hs; exact p_InvalidShot
    · cases x1_InvalidSide.symm.trans hs; exact p_InvalidSide
    · cases x1_InvalidTime.symm.trans hs; exact p_InvalidTime
    · cases x1_InvalidNumber.symm.trans hs; exact p_InvalidNumber
    · cases x1_InvalidIndex.symm.trans hs; exact p_InvalidIndex
    · cases x1_InvalidCushion.symm.trans hs; exact p_InvalidCushion
    · cases x1_InvalidSpot.symm.trans hs; exact p_InvalidSpot
    · cases x1_InvalidBox.symm.trans hs; exact p_InvalidBox
    · cases x1_InvalidStretch.symm.trans hs; exact p_InvalidStretch
    · cases x1_InvalidStretches.symm.trans hs; exact p_InvalidStretches
    · cases x1_InvalidPockets.symm.trans hs; exact p_InvalidPockets
    · cases x1_InvalidCushions.symm.trans hs; exact p_InvalidCushions
    · cases x1_InvalidShots.symm.trans hs; exact p_InvalidShots
    · cases x1_InvalidBall.symm.trans hs; exact p_InvalidBall
    · cases x1_InvalidText.symm.trans hs; exact p_InvalidText
    · cases x1_InvalidChange.symm.trans hs; exact p_InvalidChange
    · cases x1_AlwaysTogether.symm.trans hs; exact p_AlwaysTogether
    · cases x1_NotABall.symm.trans hs; exact p_NotABall
    · cases x1_OtherTable.symm.trans hs; exact p_OtherTable
    · cases x1_NothingToUndo.symm.trans hs; exact p_NothingToUndo
    · cases x1_BallsMeet.symm.trans hs; exact p_BallsMeet
    · cases x1_TooMany.symm.trans hs; exact p_TooMany
  have g : G K mg CN := {
    nx_AlwaysTogether := ⟨C_AlwaysTogether, ⟨PySem.W.mg_of X G0 x1_AlwaysTogether, x2_AlwaysTogether, x3_AlwaysTogether, x4_AlwaysTogether, x5_AlwaysTogether⟩, oe_AlwaysTogether⟩,
    nx_InvalidBall := ⟨C_InvalidBall, ⟨PySem.W.mg_of X G0 x1_InvalidBall, x2_InvalidBall, x3_InvalidBall, x4_InvalidBall, x5_InvalidBall⟩, oe_InvalidBall⟩,
    nx_InvalidBox := ⟨C_InvalidBox, ⟨PySem.W.mg_of X G0 x1_InvalidBox, x2_InvalidBox, x3_InvalidBox, x4_InvalidBox, x5_InvalidBox⟩, oe_InvalidBox⟩,
    nx_InvalidChange := ⟨C_InvalidChange, ⟨PySem.W.mg_of X G0 x1_InvalidChange, x2_InvalidChange, x3_InvalidChange, x4_InvalidChange, x5_InvalidChange⟩, oe_InvalidChange⟩,
    nx_InvalidCushion := ⟨C_InvalidCushion, ⟨PySem.W.mg_of X G0 x1_InvalidCushion, x2_InvalidCushion, x3_InvalidCushion, x4_InvalidCushion, x5_InvalidCushion⟩, oe_InvalidCushion⟩,
    nx_InvalidCushions := ⟨C_InvalidCushions, ⟨PySem.W.mg_of X G0 x1_InvalidCushions, x2_InvalidCushions, x3_InvalidCushions, x4_InvalidCushions, x5_InvalidCushions⟩, oe_InvalidCushions⟩,
    nx_InvalidIndex := ⟨C_InvalidIndex, ⟨PySem.W.mg_of X G0 x1_InvalidIndex, x2_InvalidIndex, x3_InvalidIndex, x4_InvalidIndex, x5_InvalidIndex⟩, oe_InvalidIndex⟩,
    nx_InvalidNumber := ⟨C_InvalidNumber, ⟨PySem.W.mg_of X G0 x1_InvalidNumber, x2_InvalidNumber, x3_InvalidNumber, x4_InvalidNumber, x5_InvalidNumber⟩, oe_InvalidNumber⟩,
    nx_InvalidPockets := ⟨C_InvalidPockets, ⟨PySem.W.mg_of X G0 x1_InvalidPockets, x2_InvalidPockets, x3_InvalidPockets, x4_InvalidPockets, x5_InvalidPockets⟩, oe_InvalidPockets⟩,
    nx_InvalidShot := ⟨C_InvalidShot, ⟨PySem.W.mg_of X G0 x1_InvalidShot, x2_InvalidShot, x3_InvalidShot, x4_InvalidShot, x5_InvalidShot⟩, oe_InvalidShot⟩,
    nx_InvalidShots := ⟨C_InvalidShots, ⟨PySem.W.mg_of X G0 x1_InvalidShots, x2_InvalidShots, x3_InvalidShots, x4_InvalidShots, x5_InvalidShots⟩, oe_InvalidShots⟩,
    nx_InvalidSide := ⟨C_InvalidSide, ⟨PySem.W.mg_of X G0 x1_InvalidSide, x2_InvalidSide, x3_InvalidSide, x4_InvalidSide, x5_InvalidSide⟩, oe_InvalidSide⟩,
    nx_InvalidSpot := ⟨C_InvalidSpot, ⟨PySem.W.mg_of X G0 x1_InvalidSpot, x2_InvalidSpot, x3_InvalidSpot, x4_InvalidSpot, x5_InvalidSpot⟩, oe_InvalidSpot⟩,
    nx_InvalidStretch := ⟨C_InvalidStretch, ⟨PySem.W.mg_of X G0 x1_InvalidStretch, x2_InvalidStretch, x3_InvalidStretch, x4_InvalidStretch, x5_InvalidStretch⟩, oe_InvalidStretch⟩,
    nx_InvalidStretches := ⟨C_InvalidStretches, ⟨PySem.W.mg_of X G0 x1_InvalidStretches, x2_InvalidStretches, x3_InvalidStretches, x4_InvalidStretches, x5_InvalidStretches⟩, oe_InvalidStretches⟩,
    nx_InvalidTable := ⟨C_InvalidTable, ⟨PySem.W.mg_of X G0 x1_InvalidTable, x2_InvalidTable, x3_InvalidTable, x4_InvalidTable, x5_InvalidTable⟩, oe_InvalidTable⟩,
    nx_InvalidText := ⟨C_InvalidText, ⟨PySem.W.mg_of X G0 x1_InvalidText, x2_InvalidText, x3_InvalidText, x4_InvalidText, x5_InvalidText⟩, oe_InvalidText⟩,
    nx_InvalidTime := ⟨C_InvalidTime, ⟨PySem.W.mg_of X G0 x1_InvalidTime, x2_InvalidTime, x3_InvalidTime, x4_InvalidTime, x5_InvalidTime⟩, oe_InvalidTime⟩,
    nx_NotABall := ⟨C_NotABall, ⟨PySem.W.mg_of X G0 x1_NotABall, x2_NotABall, x3_NotABall, x4_NotABall, x5_NotABall⟩, oe_NotABall⟩,
    nx_NothingToUndo := ⟨C_NothingToUndo, ⟨PySem.W.mg_of X G0 x1_NothingToUndo, x2_NothingToUndo, x3_NothingToUndo, x4_NothingToUndo, x5_NothingToUndo⟩, oe_NothingToUndo⟩,
    nx_OtherTable := ⟨C_OtherTable, ⟨PySem.W.mg_of X G0 x1_OtherTable, x2_OtherTable, x3_OtherTable, x4_OtherTable, x5_OtherTable⟩, oe_OtherTable⟩,
    nx_ShotError := ⟨C_ShotError, ⟨PySem.W.mg_of X G0 x1_ShotError, x2_ShotError, x3_ShotError, x4_ShotError, x5_ShotError⟩, oe_ShotError⟩,
    nf_count := ea (p := fun _ Cc => PySem.W.findIn K (.ref Cc) "count" = some none) en_count_ShotError en_count_InvalidTable en_count_InvalidShot en_count_InvalidSide en_count_InvalidTime en_count_InvalidNumber en_count_InvalidIndex en_count_InvalidCushion en_count_InvalidSpot en_count_InvalidBox en_count_InvalidStretch en_count_InvalidStretches en_count_InvalidPockets en_count_InvalidCushions en_count_InvalidShots en_count_InvalidBall en_count_InvalidText en_count_InvalidChange en_count_AlwaysTogether en_count_NotABall en_count_OtherTable en_count_NothingToUndo en_count_BallsMeet en_count_TooMany,
    nf_time := ea (p := fun _ Cc => PySem.W.findIn K (.ref Cc) "time" = some none) en_time_ShotError en_time_InvalidTable en_time_InvalidShot en_time_InvalidSide en_time_InvalidTime en_time_InvalidNumber en_time_InvalidIndex en_time_InvalidCushion en_time_InvalidSpot en_time_InvalidBox en_time_InvalidStretch en_time_InvalidStretches en_time_InvalidPockets en_time_InvalidCushions en_time_InvalidShots en_time_InvalidBall en_time_InvalidText en_time_InvalidChange en_time_AlwaysTogether en_time_NotABall en_time_OtherTable en_time_NothingToUndo en_time_BallsMeet en_time_TooMany,
    kx_AlwaysTogether := ⟨C_AlwaysTogether, PySem.W.mg_of X G0 x1_AlwaysTogether, ea (p := fun c Cc => PySem.W.kitOne K (.ref Cc) (.ref C_AlwaysTogether) = some (subX c "AlwaysTogether")) (kt_AlwaysTogether_ShotError.trans (congrArg some (by decide +kernel))) (kt_AlwaysTogether_InvalidTable.trans (congrArg some (by decide +kernel))) (kt_AlwaysTogether_InvalidShot.trans (congrArg some (by decide +kernel))) (kt_AlwaysTogether_InvalidSide.trans (congrArg some (by decide +kernel))) (kt_AlwaysTogether_InvalidTime.trans (congrArg some (by decide +kernel))) (kt_AlwaysTogether_InvalidNumber.trans (congrArg some (by decide +kernel))) (kt_AlwaysTogether_InvalidIndex.trans (congrArg some (by decide +kernel))) (kt_AlwaysTogether_InvalidCushion.trans (congrArg some (by decide +kernel))) (kt_AlwaysTogether_InvalidSpot.trans (congrArg some (by decide +kernel))) (kt_AlwaysTogether_InvalidBox.trans (congrArg some (by decide +kernel))) (kt_AlwaysTogether_InvalidStretch.trans (congrArg some (by decide +kernel))) (kt_AlwaysTogether_InvalidStretches.trans (congrArg some (by decide +kernel))) (kt_AlwaysTogether_InvalidPockets.trans (congrArg some (by decide +kernel))) (kt_AlwaysTogether_InvalidCushions.trans (congrArg some (by decide +kernel))) (kt_AlwaysTogether_InvalidShots.trans (congrArg some (by decide +kernel))) (kt_AlwaysTogether_InvalidBall.trans (congrArg some (by decide +kernel))) (kt_AlwaysTogether_InvalidText.trans (congrArg some (by decide +kernel))) (kt_AlwaysTogether_InvalidChange.trans (congrArg some (by decide +kernel))) (kt_AlwaysTogether_AlwaysTogether.trans (congrArg some (by decide +kernel))) (kt_AlwaysTogether_NotABall.trans (congrArg some (by decide +kernel))) (kt_AlwaysTogether_OtherTable.trans (congrArg some (by decide +kernel))) (kt_AlwaysTogether_NothingToUndo.trans (congrArg some (by decide +kernel))) (kt_AlwaysTogether_BallsMeet.trans (congrArg some (by decide +kernel))) (kt_AlwaysTogether_TooMany.trans (congrArg some (by decide +kernel)))⟩,
    kx_BallsMeet := ⟨C_BallsMeet, PySem.W.mg_of X G0 x1_BallsMeet, ea (p := fun c Cc => PySem.W.kitOne K (.ref Cc) (.ref C_BallsMeet) = some (subX c "BallsMeet")) (kt_BallsMeet_ShotError.trans (congrArg some (by decide +kernel))) (kt_BallsMeet_InvalidTable.trans (congrArg some (by decide +kernel))) (kt_BallsMeet_InvalidShot.trans (congrArg some (by decide +kernel))) (kt_BallsMeet_InvalidSide.trans (congrArg some (by decide +kernel))) (kt_BallsMeet_InvalidTime.trans (congrArg some (by decide +kernel))) (kt_BallsMeet_InvalidNumber.trans (congrArg some (by decide +kernel))) (kt_BallsMeet_InvalidIndex.trans (congrArg some (by decide +kernel))) (kt_BallsMeet_InvalidCushion.trans (congrArg some (by decide +kernel))) (kt_BallsMeet_InvalidSpot.trans (congrArg some (by decide +kernel))) (kt_BallsMeet_InvalidBox.trans (congrArg some (by decide +kernel))) (kt_BallsMeet_InvalidStretch.trans (congrArg some (by decide +kernel))) (kt_BallsMeet_InvalidStretches.trans (congrArg some (by decide +kernel))) (kt_BallsMeet_InvalidPockets.trans (congrArg some (by decide +kernel))) (kt_BallsMeet_InvalidCushions.trans (congrArg some (by decide +kernel))) (kt_BallsMeet_InvalidShots.trans (congrArg some (by decide +kernel))) (kt_BallsMeet_InvalidBall.trans (congrArg some (by decide +kernel))) (kt_BallsMeet_InvalidText.trans (congrArg some (by decide +kernel))) (kt_BallsMeet_InvalidChange.trans (congrArg some (by decide +kernel))) (kt_BallsMeet_AlwaysTogether.trans (congrArg some (by decide +kernel))) (kt_BallsMeet_NotABall.trans (congrArg some (by decide +kernel))) (kt_BallsMeet_OtherTable.trans (congrArg some (by decide +kernel))) (kt_BallsMeet_NothingToUndo.trans (congrArg some (by decide +kernel))) (kt_BallsMeet_BallsMeet.trans (congrArg some (by decide +kernel))) (kt_BallsMeet_TooMany.trans (congrArg some (by decide +kernel)))⟩,
    kx_InvalidBall := ⟨C_InvalidBall, PySem.W.mg_of X G0 x1_InvalidBall, ea (p := fun c Cc => PySem.W.kitOne K (.ref Cc) (.ref C_InvalidBall) = some (subX c "InvalidBall")) (kt_InvalidBall_ShotError.trans (congrArg some (by decide +kernel))) (kt_InvalidBall_InvalidTable.trans (congrArg some (by decide +kernel))) (kt_InvalidBall_InvalidShot.trans (congrArg some (by decide +kernel))) (kt_InvalidBall_InvalidSide.trans (congrArg some (by decide +kernel))) (kt_InvalidBall_InvalidTime.trans (congrArg some (by decide +kernel))) (kt_InvalidBall_InvalidNumber.trans (congrArg some (by decide +kernel))) (kt_InvalidBall_InvalidIndex.trans (congrArg some (by decide +kernel))) (kt_InvalidBall_InvalidCushion.trans (congrArg some (by decide +kernel))) (kt_InvalidBall_InvalidSpot.trans (congrArg some (by decide +kernel))) (kt_InvalidBall_InvalidBox.trans (congrArg some (by decide +kernel))) (kt_InvalidBall_InvalidStretch.trans (congrArg some (by decide +kernel))) (kt_InvalidBall_InvalidStretches.trans (congrArg some (by decide +kernel))) (kt_InvalidBall_InvalidPockets.trans (congrArg some (by decide +kernel))) (kt_InvalidBall_InvalidCushions.trans (congrArg some (by decide +kernel))) (kt_InvalidBall_InvalidShots.trans (congrArg some (by decide +kernel))) (kt_InvalidBall_InvalidBall.trans (congrArg some (by decide +kernel))) (kt_InvalidBall_InvalidText.trans (congrArg some (by decide +kernel))) (kt_InvalidBall_InvalidChange.trans (congrArg some (by decide +kernel))) (kt_InvalidBall_AlwaysTogether.trans (congrArg some (by decide +kernel))) (kt_InvalidBall_NotABall.trans (congrArg some (by decide +kernel))) (kt_InvalidBall_OtherTable.trans (congrArg some (by decide +kernel))) (kt_InvalidBall_NothingToUndo.trans (congrArg some (by decide +kernel))) (kt_InvalidBall_BallsMeet.trans (congrArg some (by decide +kernel))) (kt_InvalidBall_TooMany.trans (congrArg some (by decide +kernel)))⟩,
    kx_InvalidBox := ⟨C_InvalidBox, PySem.W.mg_of X G0 x1_InvalidBox, ea (p := fun c Cc => PySem.W.kitOne K (.ref Cc) (.ref C_InvalidBox) = some (subX c "InvalidBox")) (kt_InvalidBox_ShotError.trans (congrArg some (by decide +kernel))) (kt_InvalidBox_InvalidTable.trans (congrArg some (by decide +kernel))) (kt_InvalidBox_InvalidShot.trans (congrArg some (by decide +kernel))) (kt_InvalidBox_InvalidSide.trans (congrArg some (by decide +kernel))) (kt_InvalidBox_InvalidTime.trans (congrArg some (by decide +kernel))) (kt_InvalidBox_InvalidNumber.trans (congrArg some (by decide +kernel))) (kt_InvalidBox_InvalidIndex.trans (congrArg some (by decide +kernel))) (kt_InvalidBox_InvalidCushion.trans (congrArg some (by decide +kernel))) (kt_InvalidBox_InvalidSpot.trans (congrArg some (by decide +kernel))) (kt_InvalidBox_InvalidBox.trans (congrArg some (by decide +kernel))) (kt_InvalidBox_InvalidStretch.trans (congrArg some (by decide +kernel))) (kt_InvalidBox_InvalidStretches.trans (congrArg some (by decide +kernel))) (kt_InvalidBox_InvalidPockets.trans (congrArg some (by decide +kernel))) (kt_InvalidBox_InvalidCushions.trans (congrArg some (by decide +kernel))) (kt_InvalidBox_InvalidShots.trans (congrArg some (by decide +kernel))) (kt_InvalidBox_InvalidBall.trans (congrArg some (by decide +kernel))) (kt_InvalidBox_InvalidText.trans (congrArg some (by decide +kernel))) (kt_InvalidBox_InvalidChange.trans (congrArg some (by decide +kernel))) (kt_InvalidBox_AlwaysTogether.trans (congrArg some (by decide +kernel))) (kt_InvalidBox_NotABall.trans (congrArg some (by decide +kernel))) (kt_InvalidBox_OtherTable.trans (congrArg some (by decide +kernel))) (kt_InvalidBox_NothingToUndo.trans (congrArg some (by decide +kernel))) (kt_InvalidBox_BallsMeet.trans (congrArg some (by decide +kernel))) (kt_InvalidBox_TooMany.trans (congrArg some (by decide +kernel)))⟩,
    kx_InvalidChange := ⟨C_InvalidChange, PySem.W.mg_of X G0 x1_InvalidChange, ea (p := fun c Cc => PySem.W.kitOne K (.ref Cc) (.ref C_InvalidChange) = some (subX c "InvalidChange")) (kt_InvalidChange_ShotError.trans (congrArg some (by decide +kernel))) (kt_InvalidChange_InvalidTable.trans (congrArg some (by decide +kernel))) (kt_InvalidChange_InvalidShot.trans (congrArg some (by decide +kernel))) (kt_InvalidChange_InvalidSide.trans (congrArg some (by decide +kernel))) (kt_InvalidChange_InvalidTime.trans (congrArg some (by decide +kernel))) (kt_InvalidChange_InvalidNumber.trans (congrArg some (by decide +kernel))) (kt_InvalidChange_InvalidIndex.trans (congrArg some (by decide +kernel))) (kt_InvalidChange_InvalidCushion.trans (congrArg some (by decide +kernel))) (kt_InvalidChange_InvalidSpot.trans (congrArg some (by decide +kernel))) (kt_InvalidChange_InvalidBox.trans (congrArg some (by decide +kernel))) (kt_InvalidChange_InvalidStretch.trans (congrArg some (by decide +kernel))) (kt_InvalidChange_InvalidStretches.trans (congrArg some (by decide +kernel))) (kt_InvalidChange_InvalidPockets.trans (congrArg some (by decide +kernel))) (kt_InvalidChange_InvalidCushions.trans (congrArg some (by decide +kernel))) (kt_InvalidChange_InvalidShots.trans (congrArg some (by decide +kernel))) (kt_InvalidChange_InvalidBall.trans (congrArg some (by decide +kernel))) (kt_InvalidChange_InvalidText.trans (congrArg some (by decide +kernel))) (kt_InvalidChange_InvalidChange.trans (congrArg some (by decide +kernel))) (kt_InvalidChange_AlwaysTogether.trans (congrArg some (by decide +kernel))) (kt_InvalidChange_NotABall.trans (congrArg some (by decide +kernel))) (kt_InvalidChange_OtherTable.trans (congrArg some (by decide +kernel))) (kt_InvalidChange_NothingToUndo.trans (congrArg some (by decide +kernel))) (kt_InvalidChange_BallsMeet.trans (congrArg some (by decide +kernel))) (kt_InvalidChange_TooMany.trans (congrArg some (by decide +kernel)))⟩,
    kx_InvalidCushion := ⟨C_InvalidCushion, PySem.W.mg_of X G0 x1_InvalidCushion, ea (p := fun c Cc => PySem.W.kitOne K (.ref Cc) (.ref C_InvalidCushion) = some (subX c "InvalidCushion")) (kt_InvalidCushion_ShotError.trans (congrArg some (by decide +kernel))) (kt_InvalidCushion_InvalidTable.trans (congrArg some (by decide +kernel))) (kt_InvalidCushion_InvalidShot.trans (congrArg some (by decide +kernel))) (kt_InvalidCushion_InvalidSide.trans (congrArg some (by decide +kernel))) (kt_InvalidCushion_InvalidTime.trans (congrArg some (by decide +kernel))) (kt_InvalidCushion_InvalidNumber.trans (congrArg some (by decide +kernel))) (kt_InvalidCushion_InvalidIndex.trans (congrArg some (by decide +kernel))) (kt_InvalidCushion_InvalidCushion.trans (congrArg some (by decide +kernel))) (kt_InvalidCushion_InvalidSpot.trans (congrArg some (by decide +kernel))) (kt_InvalidCushion_InvalidBox.trans (congrArg some (by decide +kernel))) (kt_InvalidCushion_InvalidStretch.trans (congrArg some (by decide +kernel))) (kt_InvalidCushion_InvalidStretches.trans (congrArg some (by decide +kernel))) (kt_InvalidCushion_InvalidPockets.trans (congrArg some (by decide +kernel))) (kt_InvalidCushion_InvalidCushions.trans (congrArg some (by decide +kernel))) (kt_InvalidCushion_InvalidShots.trans (congrArg some (by decide +kernel))) (kt_InvalidCushion_InvalidBall.trans (congrArg some (by decide +kernel))) (kt_InvalidCushion_InvalidText.trans (congrArg some (by decide +kernel))) (kt_InvalidCushion_InvalidChange.trans (congrArg some (by decide +kernel))) (kt_InvalidCushion_AlwaysTogether.trans (congrArg some (by decide +kernel))) (kt_InvalidCushion_NotABall.trans (congrArg some (by decide +kernel))) (kt_InvalidCushion_OtherTable.trans (congrArg some (by decide +kernel))) (kt_InvalidCushion_NothingToUndo.trans (congrArg some (by decide +kernel))) (kt_InvalidCushion_BallsMeet.trans (congrArg some (by decide +kernel))) (kt_InvalidCushion_TooMany.trans (congrArg some (by decide +kernel)))⟩,
    kx_InvalidCushions := ⟨C_InvalidCushions, PySem.W.mg_of X G0 x1_InvalidCushions, ea (p := fun c Cc => PySem.W.kitOne K (.ref Cc) (.ref C_InvalidCushions) = some (subX c "InvalidCushions")) (kt_InvalidCushions_ShotError.trans (congrArg some (by decide +kernel))) (kt_InvalidCushions_InvalidTable.trans (congrArg some (by decide +kernel))) (kt_InvalidCushions_InvalidShot.trans (congrArg some (by decide +kernel))) (kt_InvalidCushions_InvalidSide.trans (congrArg some (by decide +kernel))) (kt_InvalidCushions_InvalidTime.trans (congrArg some (by decide +kernel))) (kt_InvalidCushions_InvalidNumber.trans (congrArg some (by decide +kernel))) (kt_InvalidCushions_InvalidIndex.trans (congrArg some (by decide +kernel))) (kt_InvalidCushions_InvalidCushion.trans (congrArg some (by decide +kernel))) (kt_InvalidCushions_InvalidSpot.trans (congrArg some (by decide +kernel))) (kt_InvalidCushions_InvalidBox.trans (congrArg some (by decide +kernel))) (kt_InvalidCushions_InvalidStretch.trans (congrArg some (by decide +kernel))) (kt_InvalidCushions_InvalidStretches.trans (congrArg some (by decide +kernel))) (kt_InvalidCushions_InvalidPockets.trans (congrArg some (by decide +kernel))) (kt_InvalidCushions_InvalidCushions.trans (congrArg some (by decide +kernel))) (kt_InvalidCushions_InvalidShots.trans (congrArg some (by decide +kernel))) (kt_InvalidCushions_InvalidBall.trans (congrArg some (by decide +kernel))) (kt_InvalidCushions_InvalidText.trans (congrArg some (by decide +kernel))) (kt_InvalidCushions_InvalidChange.trans (congrArg some (by decide +kernel))) (kt_InvalidCushions_AlwaysTogether.trans (congrArg some (by decide +kernel))) (kt_InvalidCushions_NotABall.trans (congrArg some (by decide +kernel))) (kt_InvalidCushions_OtherTable.trans (congrArg some (by decide +kernel))) (kt_InvalidCushions_NothingToUndo.trans (congrArg some (by decide +kernel))) (kt_InvalidCushions_BallsMeet.trans (congrArg some (by decide +kernel))) (kt_InvalidCushions_TooMany.trans (congrArg some (by decide +kernel)))⟩,
    kx_InvalidIndex := ⟨C_InvalidIndex, PySem.W.mg_of X G0 x1_InvalidIndex, ea (p := fun c Cc => PySem.W.kitOne K (.ref Cc) (.ref C_InvalidIndex) = some (subX c "InvalidIndex")) (kt_InvalidIndex_ShotError.trans (congrArg some (by decide +kernel))) (kt_InvalidIndex_InvalidTable.trans (congrArg some (by decide +kernel))) (kt_InvalidIndex_InvalidShot.trans (congrArg some (by decide +kernel))) (kt_InvalidIndex_InvalidSide.trans (congrArg some (by decide +kernel))) (kt_InvalidIndex_InvalidTime.trans (congrArg some (by decide +kernel))) (kt_InvalidIndex_InvalidNumber.trans (congrArg some (by decide +kernel))) (kt_InvalidIndex_InvalidIndex.trans (congrArg some (by decide +kernel))) (kt_InvalidIndex_InvalidCushion.trans (congrArg some (by decide +kernel))) (kt_InvalidIndex_InvalidSpot.trans (congrArg some (by decide +kernel))) (kt_InvalidIndex_InvalidBox.trans (congrArg some (by decide +kernel))) (kt_InvalidIndex_InvalidStretch.trans (congrArg some (by decide +kernel))) (kt_InvalidIndex_InvalidStretches.trans (congrArg some (by decide +kernel))) (kt_InvalidIndex_InvalidPockets.trans (congrArg some (by decide +kernel))) (kt_InvalidIndex_InvalidCushions.trans (congrArg some (by decide +kernel))) (kt_InvalidIndex_InvalidShots.trans (congrArg some (by decide +kernel))) (kt_InvalidIndex_InvalidBall.trans (congrArg some (by decide +kernel))) (kt_InvalidIndex_InvalidText.trans (congrArg some (by decide +kernel))) (kt_InvalidIndex_InvalidChange.trans (congrArg some (by decide +kernel))) (kt_InvalidIndex_AlwaysTogether.trans (congrArg some (by decide +kernel))) (kt_InvalidIndex_NotABall.trans (congrArg some (by decide +kernel))) (kt_InvalidIndex_OtherTable.trans (congrArg some (by decide +kernel))) (kt_InvalidIndex_NothingToUndo.trans (congrArg some (by decide +kernel))) (kt_InvalidIndex_BallsMeet.trans (congrArg some (by decide +kernel))) (kt_InvalidIndex_TooMany.trans (congrArg some (by decide +kernel)))⟩,
    kx_InvalidNumber := ⟨C_InvalidNumber, PySem.W.mg_of X G0 x1_InvalidNumber, ea (p := fun c Cc => PySem.W.kitOne K (.ref Cc) (.ref C_InvalidNumber) = some (subX c "InvalidNumber")) (kt_InvalidNumber_ShotError.trans (congrArg some (by decide +kernel))) (kt_InvalidNumber_InvalidTable.trans (congrArg some (by decide +kernel))) (kt_InvalidNumber_InvalidShot.trans (congrArg some (by decide +kernel))) (kt_InvalidNumber_InvalidSide.trans (congrArg some (by decide +kernel))) (kt_InvalidNumber_InvalidTime.trans (congrArg some (by decide +kernel))) (kt_InvalidNumber_InvalidNumber.trans (congrArg some (by decide +kernel))) (kt_InvalidNumber_InvalidIndex.trans (congrArg some (by decide +kernel))) (kt_InvalidNumber_InvalidCushion.trans (congrArg some (by decide +kernel))) (kt_InvalidNumber_InvalidSpot.trans (congrArg some (by decide +kernel))) (kt_InvalidNumber_InvalidBox.trans (congrArg some (by decide +kernel))) (kt_InvalidNumber_InvalidStretch.trans (congrArg some (by decide +kernel))) (kt_InvalidNumber_InvalidStretches.trans (congrArg some (by decide +kernel))) (kt_InvalidNumber_InvalidPockets.trans (congrArg some (by decide +kernel))) (kt_InvalidNumber_InvalidCushions.trans (congrArg some (by decide +kernel))) (kt_InvalidNumber_InvalidShots.trans (congrArg some (by decide +kernel))) (kt_InvalidNumber_InvalidBall.trans (congrArg some (by decide +kernel))) (kt_InvalidNumber_InvalidText.trans (congrArg some (by decide +kernel))) (kt_InvalidNumber_InvalidChange.trans (congrArg some (by decide +kernel))) (kt_InvalidNumber_AlwaysTogether.trans (congrArg some (by decide +kernel))) (kt_InvalidNumber_NotABall.trans (congrArg some (by decide +kernel))) (kt_InvalidNumber_OtherTable.trans (congrArg some (by decide +kernel))) (kt_InvalidNumber_NothingToUndo.trans (congrArg some (by decide +kernel))) (kt_InvalidNumber_BallsMeet.trans (congrArg some (by decide +kernel))) (kt_InvalidNumber_TooMany.trans (congrArg some (by decide +kernel)))⟩,
    kx_InvalidPockets := ⟨C_InvalidPockets, PySem.W.mg_of X G0 x1_InvalidPockets, ea (p := fun c Cc => PySem.W.kitOne K (.ref Cc) (.ref C_InvalidPockets) = some (subX c "InvalidPockets")) (kt_InvalidPockets_ShotError.trans (congrArg some (by decide +kernel))) (kt_InvalidPockets_InvalidTable.trans (congrArg some (by decide +kernel))) (kt_InvalidPockets_InvalidShot.trans (congrArg some (by decide +kernel))) (kt_InvalidPockets_InvalidSide.trans (congrArg some (by decide +kernel))) (kt_InvalidPockets_InvalidTime.trans (congrArg some (by decide +kernel))) (kt_InvalidPockets_InvalidNumber.trans (congrArg some (by decide +kernel))) (kt_InvalidPockets_InvalidIndex.trans (congrArg some (by decide +kernel))) (kt_InvalidPockets_InvalidCushion.trans (congrArg some (by decide +kernel))) (kt_InvalidPockets_InvalidSpot.trans (congrArg some (by decide +kernel))) (kt_InvalidPockets_InvalidBox.trans (congrArg some (by decide +kernel))) (kt_InvalidPockets_InvalidStretch.trans (congrArg some (by decide +kernel))) (kt_InvalidPockets_InvalidStretches.trans (congrArg some (by decide +kernel))) (kt_InvalidPockets_InvalidPockets.trans (congrArg some (by decide +kernel))) (kt_InvalidPockets_InvalidCushions.trans (congrArg some (by decide +kernel))) (kt_InvalidPockets_InvalidShots.trans (congrArg some (by decide +kernel))) (kt_InvalidPockets_InvalidBall.trans (congrArg some (by decide +kernel))) (kt_InvalidPockets_InvalidText.trans (congrArg some (by decide +kernel))) (kt_InvalidPockets_InvalidChange.trans (congrArg some (by decide +kernel))) (kt_InvalidPockets_AlwaysTogether.trans (congrArg some (by decide +kernel))) (kt_InvalidPockets_NotABall.trans (congrArg some (by decide +kernel))) (kt_InvalidPockets_OtherTable.trans (congrArg some (by decide +kernel))) (kt_InvalidPockets_NothingToUndo.trans (congrArg some (by decide +kernel))) (kt_InvalidPockets_BallsMeet.trans (congrArg some (by decide +kernel))) (kt_InvalidPockets_TooMany.trans (congrArg some (by decide +kernel)))⟩,
    kx_InvalidShot := ⟨C_InvalidShot, PySem.W.mg_of X G0 x1_InvalidShot, ea (p := fun c Cc => PySem.W.kitOne K (.ref Cc) (.ref C_InvalidShot) = some (subX c "InvalidShot")) (kt_InvalidShot_ShotError.trans (congrArg some (by decide +kernel))) (kt_InvalidShot_InvalidTable.trans (congrArg some (by decide +kernel))) (kt_InvalidShot_InvalidShot.trans (congrArg some (by decide +kernel))) (kt_InvalidShot_InvalidSide.trans (congrArg some (by decide +kernel))) (kt_InvalidShot_InvalidTime.trans (congrArg some (by decide +kernel))) (kt_InvalidShot_InvalidNumber.trans (congrArg some (by decide +kernel))) (kt_InvalidShot_InvalidIndex.trans (congrArg some (by decide +kernel))) (kt_InvalidShot_InvalidCushion.trans (congrArg some (by decide +kernel))) (kt_InvalidShot_InvalidSpot.trans (congrArg some (by decide +kernel))) (kt_InvalidShot_InvalidBox.trans (congrArg some (by decide +kernel))) (kt_InvalidShot_InvalidStretch.trans (congrArg some (by decide +kernel))) (kt_InvalidShot_InvalidStretches.trans (congrArg some (by decide +kernel))) (kt_InvalidShot_InvalidPockets.trans (congrArg some (by decide +kernel))) (kt_InvalidShot_InvalidCushions.trans (congrArg some (by decide +kernel))) (kt_InvalidShot_InvalidShots.trans (congrArg some (by decide +kernel))) (kt_InvalidShot_InvalidBall.trans (congrArg some (by decide +kernel))) (kt_InvalidShot_InvalidText.trans (congrArg some (by decide +kernel))) (kt_InvalidShot_InvalidChange.trans (congrArg some (by decide +kernel))) (kt_InvalidShot_AlwaysTogether.trans (congrArg some (by decide +kernel))) (kt_InvalidShot_NotABall.trans (congrArg some (by decide +kernel))) (kt_InvalidShot_OtherTable.trans (congrArg some (by decide +kernel))) (kt_InvalidShot_NothingToUndo.trans (congrArg some (by decide +kernel))) (kt_InvalidShot_BallsMeet.trans (congrArg some (by decide +kernel))) (kt_InvalidShot_TooMany.trans (congrArg some (by decide +kernel)))⟩,
    kx_InvalidShots := ⟨C_InvalidShots, PySem.W.mg_of X G0 x1_InvalidShots, ea (p := fun c Cc => PySem.W.kitOne K (.ref Cc) (.ref C_InvalidShots) = some (subX c "InvalidShots")) (kt_InvalidShots_ShotError.trans (congrArg some (by decide +kernel))) (kt_InvalidShots_InvalidTable.trans (congrArg some (by decide +kernel))) (kt_InvalidShots_InvalidShot.trans (congrArg some (by decide +kernel))) (kt_InvalidShots_InvalidSide.trans (congrArg some (by decide +kernel))) (kt_InvalidShots_InvalidTime.trans (congrArg some (by decide +kernel))) (kt_InvalidShots_InvalidNumber.trans (congrArg some (by decide +kernel))) (kt_InvalidShots_InvalidIndex.trans (congrArg some (by decide +kernel))) (kt_InvalidShots_InvalidCushion.trans (congrArg some (by decide +kernel))) (kt_InvalidShots_InvalidSpot.trans (congrArg some (by decide +kernel))) (kt_InvalidShots_InvalidBox.trans (congrArg some (by decide +kernel))) (kt_InvalidShots_InvalidStretch.trans (congrArg some (by decide +kernel))) (kt_InvalidShots_InvalidStretches.trans (congrArg some (by decide +kernel))) (kt_InvalidShots_InvalidPockets.trans (congrArg some (by decide +kernel))) (kt_InvalidShots_InvalidCushions.trans (congrArg some (by decide +kernel))) (kt_InvalidShots_InvalidShots.trans (congrArg some (by decide +kernel))) (kt_InvalidShots_InvalidBall.trans (congrArg some (by decide +kernel))) (kt_InvalidShots_InvalidText.trans (congrArg some (by decide +kernel))) (kt_InvalidShots_InvalidChange.trans (congrArg some (by decide +kernel))) (kt_InvalidShots_AlwaysTogether.trans (congrArg some (by decide +kernel))) (kt_InvalidShots_NotABall.trans (congrArg some (by decide +kernel))) (kt_InvalidShots_OtherTable.trans (congrArg some (by decide +kernel))) (kt_InvalidShots_NothingToUndo.trans (congrArg some (by decide +kernel))) (kt_InvalidShots_BallsMeet.trans (congrArg some (by decide +kernel))) (kt_InvalidShots_TooMany.trans (congrArg some (by decide +kernel)))⟩,
    kx_InvalidSide := ⟨C_InvalidSide, PySem.W.mg_of X G0 x1_InvalidSide, ea (p := fun c Cc => PySem.W.kitOne K (.ref Cc) (.ref C_InvalidSide) = some (subX c "InvalidSide")) (kt_InvalidSide_ShotError.trans (congrArg some (by decide +kernel))) (kt_InvalidSide_InvalidTable.trans (congrArg some (by decide +kernel))) (kt_InvalidSide_InvalidShot.trans (congrArg some (by decide +kernel))) (kt_InvalidSide_InvalidSide.trans (congrArg some (by decide +kernel))) (kt_InvalidSide_InvalidTime.trans (congrArg some (by decide +kernel))) (kt_InvalidSide_InvalidNumber.trans (congrArg some (by decide +kernel))) (kt_InvalidSide_InvalidIndex.trans (congrArg some (by decide +kernel))) (kt_InvalidSide_InvalidCushion.trans (congrArg some (by decide +kernel))) (kt_InvalidSide_InvalidSpot.trans (congrArg some (by decide +kernel))) (kt_InvalidSide_InvalidBox.trans (congrArg some (by decide +kernel))) (kt_InvalidSide_InvalidStretch.trans (congrArg some (by decide +kernel))) (kt_InvalidSide_InvalidStretches.trans (congrArg some (by decide +kernel))) (kt_InvalidSide_InvalidPockets.trans (congrArg some (by decide +kernel))) (kt_InvalidSide_InvalidCushions.trans (congrArg some (by decide +kernel))) (kt_InvalidSide_InvalidShots.trans (congrArg some (by decide +kernel))) (kt_InvalidSide_InvalidBall.trans (congrArg some (by decide +kernel))) (kt_InvalidSide_InvalidText.trans (congrArg some (by decide +kernel))) (kt_InvalidSide_InvalidChange.trans (congrArg some (by decide +kernel))) (kt_InvalidSide_AlwaysTogether.trans (congrArg some (by decide +kernel))) (kt_InvalidSide_NotABall.trans (congrArg some (by decide +kernel))) (kt_InvalidSide_OtherTable.trans (congrArg some (by decide +kernel))) (kt_InvalidSide_NothingToUndo.trans (congrArg some (by decide +kernel))) (kt_InvalidSide_BallsMeet.trans (congrArg some (by decide +kernel))) (kt_InvalidSide_TooMany.trans (congrArg some (by decide +kernel)))⟩,
    kx_InvalidSpot := ⟨C_InvalidSpot, PySem.W.mg_of X G0 x1_InvalidSpot, ea (p := fun c Cc => PySem.W.kitOne K (.ref Cc) (.ref C_InvalidSpot) = some (subX c "InvalidSpot")) (kt_InvalidSpot_ShotError.trans (congrArg some (by decide +kernel))) (kt_InvalidSpot_InvalidTable.trans (congrArg some (by decide +kernel))) (kt_InvalidSpot_InvalidShot.trans (congrArg some (by decide +kernel))) (kt_InvalidSpot_InvalidSide.trans (congrArg some (by decide +kernel))) (kt_InvalidSpot_InvalidTime.trans (congrArg some (by decide +kernel))) (kt_InvalidSpot_InvalidNumber.trans (congrArg some (by decide +kernel))) (kt_InvalidSpot_InvalidIndex.trans (congrArg some (by decide +kernel))) (kt_InvalidSpot_InvalidCushion.trans (congrArg some (by decide +kernel))) (kt_InvalidSpot_InvalidSpot.trans (congrArg some (by decide +kernel))) (kt_InvalidSpot_InvalidBox.trans (congrArg some (by decide +kernel))) (kt_InvalidSpot_InvalidStretch.trans (congrArg some (by decide +kernel))) (kt_InvalidSpot_InvalidStretches.trans (congrArg some (by decide +kernel))) (kt_InvalidSpot_InvalidPockets.trans (congrArg some (by decide +kernel))) (kt_InvalidSpot_InvalidCushions.trans (congrArg some (by decide +kernel))) (kt_InvalidSpot_InvalidShots.trans (congrArg some (by decide +kernel))) (kt_InvalidSpot_InvalidBall.trans (congrArg some (by decide +kernel))) (kt_InvalidSpot_InvalidText.trans (congrArg some (by decide +kernel))) (kt_InvalidSpot_InvalidChange.trans (congrArg some (by decide +kernel))) (kt_InvalidSpot_AlwaysTogether.trans (congrArg some (by decide +kernel))) (kt_InvalidSpot_NotABall.trans (congrArg some (by decide +kernel))) (kt_InvalidSpot_OtherTable.trans (congrArg some (by decide +kernel))) (kt_InvalidSpot_NothingToUndo.trans (congrArg some (by decide +kernel))) (kt_InvalidSpot_BallsMeet.trans (congrArg some (by decide +kernel))) (kt_InvalidSpot_TooMany.trans (congrArg some (by decide +kernel)))⟩,
    kx_InvalidStretch := ⟨C_InvalidStretch, PySem.W.mg_of X G0 x1_InvalidStretch, ea (p := fun c Cc => PySem.W.kitOne K (.ref Cc) (.ref C_InvalidStretch) = some (subX c "InvalidStretch")) (kt_InvalidStretch_ShotError.trans (congrArg some (by decide +kernel))) (kt_InvalidStretch_InvalidTable.trans (congrArg some (by decide +kernel))) (kt_InvalidStretch_InvalidShot.trans (congrArg some (by decide +kernel))) (kt_InvalidStretch_InvalidSide.trans (congrArg some (by decide +kernel))) (kt_InvalidStretch_InvalidTime.trans (congrArg some (by decide +kernel))) (kt_InvalidStretch_InvalidNumber.trans (congrArg some (by decide +kernel))) (kt_InvalidStretch_InvalidIndex.trans (congrArg some (by decide +kernel))) (kt_InvalidStretch_InvalidCushion.trans (congrArg some (by decide +kernel))) (kt_InvalidStretch_InvalidSpot.trans (congrArg some (by decide +kernel))) (kt_InvalidStretch_InvalidBox.trans (congrArg some (by decide +kernel))) (kt_InvalidStretch_InvalidStretch.trans (congrArg some (by decide +kernel))) (kt_InvalidStretch_InvalidStretches.trans (congrArg some (by decide +kernel))) (kt_InvalidStretch_InvalidPockets.trans (congrArg some (by decide +kernel))) (kt_InvalidStretch_InvalidCushions.trans (congrArg some (by decide +kernel))) (kt_InvalidStretch_InvalidShots.trans (congrArg some (by decide +kernel))) (kt_InvalidStretch_InvalidBall.trans (congrArg some (by decide +kernel))) (kt_InvalidStretch_InvalidText.trans (congrArg some (by decide +kernel))) (kt_InvalidStretch_InvalidChange.trans (congrArg some (by decide +kernel))) (kt_InvalidStretch_AlwaysTogether.trans (congrArg some (by decide +kernel))) (kt_InvalidStretch_NotABall.trans (congrArg some (by decide +kernel))) (kt_InvalidStretch_OtherTable.trans (congrArg some (by decide +kernel))) (kt_InvalidStretch_NothingToUndo.trans (congrArg some (by decide +kernel))) (kt_InvalidStretch_BallsMeet.trans (congrArg some (by decide +kernel))) (kt_InvalidStretch_TooMany.trans (congrArg some (by decide +kernel)))⟩,
    kx_InvalidStretches := ⟨C_InvalidStretches, PySem.W.mg_of X G0 x1_InvalidStretches, ea (p := fun c Cc => PySem.W.kitOne K (.ref Cc) (.ref C_InvalidStretches) = some (subX c "InvalidStretches")) (kt_InvalidStretches_ShotError.trans (congrArg some (by decide +kernel))) (kt_InvalidStretches_InvalidTable.trans (congrArg some (by decide +kernel))) (kt_InvalidStretches_InvalidShot.trans (congrArg some (by decide +kernel))) (kt_InvalidStretches_InvalidSide.trans (congrArg some (by decide +kernel))) (kt_InvalidStretches_InvalidTime.trans (congrArg some (by decide +kernel))) (kt_InvalidStretches_InvalidNumber.trans (congrArg some (by decide +kernel))) (kt_InvalidStretches_InvalidIndex.trans (congrArg some (by decide +kernel))) (kt_InvalidStretches_InvalidCushion.trans (congrArg some (by decide +kernel))) (kt_InvalidStretches_InvalidSpot.trans (congrArg some (by decide +kernel))) (kt_InvalidStretches_InvalidBox.trans (congrArg some (by decide +kernel))) (kt_InvalidStretches_InvalidStretch.trans (congrArg some (by decide +kernel))) (kt_InvalidStretches_InvalidStretches.trans (congrArg some (by decide +kernel))) (kt_InvalidStretches_InvalidPockets.trans (congrArg some (by decide +kernel))) (kt_InvalidStretches_InvalidCushions.trans (congrArg some (by decide +kernel))) (kt_InvalidStretches_InvalidShots.trans (congrArg some (by decide +kernel))) (kt_InvalidStretches_InvalidBall.trans (congrArg some (by decide +kernel))) (kt_InvalidStretches_InvalidText.trans (congrArg some (by decide +kernel))) (kt_InvalidStretches_InvalidChange.trans (congrArg some (by decide +kernel))) (kt_InvalidStretches_AlwaysTogether.trans (congrArg some (by decide +kernel))) (kt_InvalidStretches_NotABall.trans (congrArg some (by decide +kernel))) (kt_InvalidStretches_OtherTable.trans (congrArg some (by decide +kernel))) (kt_InvalidStretches_NothingToUndo.trans (congrArg some (by decide +kernel))) (kt_InvalidStretches_BallsMeet.trans (congrArg some (by decide +kernel))) (kt_InvalidStretches_TooMany.trans (congrArg some (by decide +kernel)))⟩,
    kx_InvalidTable := ⟨C_InvalidTable, PySem.W.mg_of X G0 x1_InvalidTable, ea (p := fun c Cc => PySem.W.kitOne K (.ref Cc) (.ref C_InvalidTable) = some (subX c "InvalidTable")) (kt_InvalidTable_ShotError.trans (congrArg some (by decide +kernel))) (kt_InvalidTable_InvalidTable.trans (congrArg some (by decide +kernel))) (kt_InvalidTable_InvalidShot.trans (congrArg some (by decide +kernel))) (kt_InvalidTable_InvalidSide.trans (congrArg some (by decide +kernel))) (kt_InvalidTable_InvalidTime.trans (congrArg some (by decide +kernel))) (kt_InvalidTable_InvalidNumber.trans (congrArg some (by decide +kernel))) (kt_InvalidTable_InvalidIndex.trans (congrArg some (by decide +kernel))) (kt_InvalidTable_InvalidCushion.trans (congrArg some (by decide +kernel))) (kt_InvalidTable_InvalidSpot.trans (congrArg some (by decide +kernel))) (kt_InvalidTable_InvalidBox.trans (congrArg some (by decide +kernel))) (kt_InvalidTable_InvalidStretch.trans (congrArg some (by decide +kernel))) (kt_InvalidTable_InvalidStretches.trans (congrArg some (by decide +kernel))) (kt_InvalidTable_InvalidPockets.trans (congrArg some (by decide +kernel))) (kt_InvalidTable_InvalidCushions.trans (congrArg some (by decide +kernel))) (kt_InvalidTable_InvalidShots.trans (congrArg some (by decide +kernel))) (kt_InvalidTable_InvalidBall.trans (congrArg some (by decide +kernel))) (kt_InvalidTable_InvalidText.trans (congrArg some (by decide +kernel))) (kt_InvalidTable_InvalidChange.trans (congrArg some (by decide +kernel))) (kt_InvalidTable_AlwaysTogether.trans (congrArg some (by decide +kernel))) (kt_InvalidTable_NotABall.trans (congrArg some (by decide +kernel))) (kt_InvalidTable_OtherTable.trans (congrArg some (by decide +kernel))) (kt_InvalidTable_NothingToUndo.trans (congrArg some (by decide +kernel))) (kt_InvalidTable_BallsMeet.trans (congrArg some (by decide +kernel))) (kt_InvalidTable_TooMany.trans (congrArg some (by decide +kernel)))⟩,
    kx_InvalidText := ⟨C_InvalidText, PySem.W.mg_of X G0 x1_InvalidText, ea (p := fun c Cc => PySem.W.kitOne K (.ref Cc) (.ref C_InvalidText) = some (subX c "InvalidText")) (kt_InvalidText_ShotError.trans (congrArg some (by decide +kernel))) (kt_InvalidText_InvalidTable.trans (congrArg some (by decide +kernel))) (kt_InvalidText_InvalidShot.trans (congrArg some (by decide +kernel))) (kt_InvalidText_InvalidSide.trans (congrArg some (by decide +kernel))) (kt_InvalidText_InvalidTime.trans (congrArg some (by decide +kernel))) (kt_InvalidText_InvalidNumber.trans (congrArg some (by decide +kernel))) (kt_InvalidText_InvalidIndex.trans (congrArg some (by decide +kernel))) (kt_InvalidText_InvalidCushion.trans (congrArg some (by decide +kernel))) (kt_InvalidText_InvalidSpot.trans (congrArg some (by decide +kernel))) (kt_InvalidText_InvalidBox.trans (congrArg some (by decide +kernel))) (kt_InvalidText_InvalidStretch.trans (congrArg some (by decide +kernel))) (kt_InvalidText_InvalidStretches.trans (congrArg some (by decide +kernel))) (kt_InvalidText_InvalidPockets.trans (congrArg some (by decide +kernel))) (kt_InvalidText_InvalidCushions.trans (congrArg some (by decide +kernel))) (kt_InvalidText_InvalidShots.trans (congrArg some (by decide +kernel))) (kt_InvalidText_InvalidBall.trans (congrArg some (by decide +kernel))) (kt_InvalidText_InvalidText.trans (congrArg some (by decide +kernel))) (kt_InvalidText_InvalidChange.trans (congrArg some (by decide +kernel))) (kt_InvalidText_AlwaysTogether.trans (congrArg some (by decide +kernel))) (kt_InvalidText_NotABall.trans (congrArg some (by decide +kernel))) (kt_InvalidText_OtherTable.trans (congrArg some (by decide +kernel))) (kt_InvalidText_NothingToUndo.trans (congrArg some (by decide +kernel))) (kt_InvalidText_BallsMeet.trans (congrArg some (by decide +kernel))) (kt_InvalidText_TooMany.trans (congrArg some (by decide +kernel)))⟩,
    kx_InvalidTime := ⟨C_InvalidTime, PySem.W.mg_of X G0 x1_InvalidTime, ea (p := fun c Cc => PySem.W.kitOne K (.ref Cc) (.ref C_InvalidTime) = some (subX c "InvalidTime")) (kt_InvalidTime_ShotError.trans (congrArg some (by decide +kernel))) (kt_InvalidTime_InvalidTable.trans (congrArg some (by decide +kernel))) (kt_InvalidTime_InvalidShot.trans (congrArg some (by decide +kernel))) (kt_InvalidTime_InvalidSide.trans (congrArg some (by decide +kernel))) (kt_InvalidTime_InvalidTime.trans (congrArg some (by decide +kernel))) (kt_InvalidTime_InvalidNumber.trans (congrArg some (by decide +kernel))) (kt_InvalidTime_InvalidIndex.trans (congrArg some (by decide +kernel))) (kt_InvalidTime_InvalidCushion.trans (congrArg some (by decide +kernel))) (kt_InvalidTime_InvalidSpot.trans (congrArg some (by decide +kernel))) (kt_InvalidTime_InvalidBox.trans (congrArg some (by decide +kernel))) (kt_InvalidTime_InvalidStretch.trans (congrArg some (by decide +kernel))) (kt_InvalidTime_InvalidStretches.trans (congrArg some (by decide +kernel))) (kt_InvalidTime_InvalidPockets.trans (congrArg some (by decide +kernel))) (kt_InvalidTime_InvalidCushions.trans (congrArg some (by decide +kernel))) (kt_InvalidTime_InvalidShots.trans (congrArg some (by decide +kernel))) (kt_InvalidTime_InvalidBall.trans (congrArg some (by decide +kernel))) (kt_InvalidTime_InvalidText.trans (congrArg some (by decide +kernel))) (kt_InvalidTime_InvalidChange.trans (congrArg some (by decide +kernel))) (kt_InvalidTime_AlwaysTogether.trans (congrArg some (by decide +kernel))) (kt_InvalidTime_NotABall.trans (congrArg some (by decide +kernel))) (kt_InvalidTime_OtherTable.trans (congrArg some (by decide +kernel))) (kt_InvalidTime_NothingToUndo.trans (congrArg some (by decide +kernel))) (kt_InvalidTime_BallsMeet.trans (congrArg some (by decide +kernel))) (kt_InvalidTime_TooMany.trans (congrArg some (by decide +kernel)))⟩,
    kx_NotABall := ⟨C_NotABall, PySem.W.mg_of X G0 x1_NotABall, ea (p := fun c Cc => PySem.W.kitOne K (.ref Cc) (.ref C_NotABall) = some (subX c "NotABall")) (kt_NotABall_ShotError.trans (congrArg some (by decide +kernel))) (kt_NotABall_InvalidTable.trans (congrArg some (by decide +kernel))) (kt_NotABall_InvalidShot.trans (congrArg some (by decide +kernel))) (kt_NotABall_InvalidSide.trans (congrArg some (by decide +kernel))) (kt_NotABall_InvalidTime.trans (congrArg some (by decide +kernel))) (kt_NotABall_InvalidNumber.trans (congrArg some (by decide +kernel))) (kt_NotABall_InvalidIndex.trans (congrArg some (by decide +kernel))) (kt_NotABall_InvalidCushion.trans (congrArg some (by decide +kernel))) (kt_NotABall_InvalidSpot.trans (congrArg some (by decide +kernel))) (kt_NotABall_InvalidBox.trans (congrArg some (by decide +kernel))) (kt_NotABall_InvalidStretch.trans (congrArg some (by decide +kernel))) (kt_NotABall_InvalidStretches.trans (congrArg some (by decide +kernel))) (kt_NotABall_InvalidPockets.trans (congrArg some (by decide +kernel))) (kt_NotABall_InvalidCushions.trans (congrArg some (by decide +kernel))) (kt_NotABall_InvalidShots.trans (congrArg some (by decide +kernel))) (kt_NotABall_InvalidBall.trans (congrArg some (by decide +kernel))) (kt_NotABall_InvalidText.trans (congrArg some (by decide +kernel))) (kt_NotABall_InvalidChange.trans (congrArg some (by decide +kernel))) (kt_NotABall_AlwaysTogether.trans (congrArg some (by decide +kernel))) (kt_NotABall_NotABall.trans (congrArg some (by decide +kernel))) (kt_NotABall_OtherTable.trans (congrArg some (by decide +kernel))) (kt_NotABall_NothingToUndo.trans (congrArg some (by decide +kernel))) (kt_NotABall_BallsMeet.trans (congrArg some (by decide +kernel))) (kt_NotABall_TooMany.trans (congrArg some (by decide +kernel)))⟩,
    kx_NothingToUndo := ⟨C_NothingToUndo, PySem.W.mg_of X G0 x1_NothingToUndo, ea (p := fun c Cc => PySem.W.kitOne K (.ref Cc) (.ref C_NothingToUndo) = some (subX c "NothingToUndo")) (kt_NothingToUndo_ShotError.trans (congrArg some (by decide +kernel))) (kt_NothingToUndo_InvalidTable.trans (congrArg some (by decide +kernel))) (kt_NothingToUndo_InvalidShot.trans (congrArg some (by decide +kernel))) (kt_NothingToUndo_InvalidSide.trans (congrArg some (by decide +kernel))) (kt_NothingToUndo_InvalidTime.trans (congrArg some (by decide +kernel))) (kt_NothingToUndo_InvalidNumber.trans (congrArg some (by decide +kernel))) (kt_NothingToUndo_InvalidIndex.trans (congrArg some (by decide +kernel))) (kt_NothingToUndo_InvalidCushion.trans (congrArg some (by decide +kernel))) (kt_NothingToUndo_InvalidSpot.trans (congrArg some (by decide +kernel))) (kt_NothingToUndo_InvalidBox.trans (congrArg some (by decide +kernel))) (kt_NothingToUndo_InvalidStretch.trans (congrArg some (by decide +kernel))) (kt_NothingToUndo_InvalidStretches.trans (congrArg some (by decide +kernel))) (kt_NothingToUndo_InvalidPockets.trans (congrArg some (by decide +kernel))) (kt_NothingToUndo_InvalidCushions.trans (congrArg some (by decide +kernel))) (kt_NothingToUndo_InvalidShots.trans (congrArg some (by decide +kernel))) (kt_NothingToUndo_InvalidBall.trans (congrArg some (by decide +kernel))) (kt_NothingToUndo_InvalidText.trans (congrArg some (by decide +kernel))) (kt_NothingToUndo_InvalidChange.trans (congrArg some (by decide +kernel))) (kt_NothingToUndo_AlwaysTogether.trans (congrArg some (by decide +kernel))) (kt_NothingToUndo_NotABall.trans (congrArg some (by decide +kernel))) (kt_NothingToUndo_OtherTable.trans (congrArg some (by decide +kernel))) (kt_NothingToUndo_NothingToUndo.trans (congrArg some (by decide +kernel))) (kt_NothingToUndo_BallsMeet.trans (congrArg some (by decide +kernel))) (kt_NothingToUndo_TooMany.trans (congrArg some (by decide +kernel)))⟩,
    kx_OtherTable := ⟨C_OtherTable, PySem.W.mg_of X G0 x1_OtherTable, ea (p := fun c Cc => PySem.W.kitOne K (.ref Cc) (.ref C_OtherTable) = some (subX c "OtherTable")) (kt_OtherTable_ShotError.trans (congrArg some (by decide +kernel))) (kt_OtherTable_InvalidTable.trans (congrArg some (by decide +kernel))) (kt_OtherTable_InvalidShot.trans (congrArg some (by decide +kernel))) (kt_OtherTable_InvalidSide.trans (congrArg some (by decide +kernel))) (kt_OtherTable_InvalidTime.trans (congrArg some (by decide +kernel))) (kt_OtherTable_InvalidNumber.trans (congrArg some (by decide +kernel))) (kt_OtherTable_InvalidIndex.trans (congrArg some (by decide +kernel))) (kt_OtherTable_InvalidCushion.trans (congrArg some (by decide +kernel))) (kt_OtherTable_InvalidSpot.trans (congrArg some (by decide +kernel))) (kt_OtherTable_InvalidBox.trans (congrArg some (by decide +kernel))) (kt_OtherTable_InvalidStretch.trans (congrArg some (by decide +kernel))) (kt_OtherTable_InvalidStretches.trans (congrArg some (by decide +kernel))) (kt_OtherTable_InvalidPockets.trans (congrArg some (by decide +kernel))) (kt_OtherTable_InvalidCushions.trans (congrArg some (by decide +kernel))) (kt_OtherTable_InvalidShots.trans (congrArg some (by decide +kernel))) (kt_OtherTable_InvalidBall.trans (congrArg some (by decide +kernel))) (kt_OtherTable_InvalidText.trans (congrArg some (by decide +kernel))) (kt_OtherTable_InvalidChange.trans (congrArg some (by decide +kernel))) (kt_OtherTable_AlwaysTogether.trans (congrArg some (by decide +kernel))) (kt_OtherTable_NotABall.trans (congrArg some (by decide +kernel))) (kt_OtherTable_OtherTable.trans (congrArg some (by decide +kernel))) (kt_OtherTable_NothingToUndo.trans (congrArg some (by decide +kernel))) (kt_OtherTable_BallsMeet.trans (congrArg some (by decide +kernel))) (kt_OtherTable_TooMany.trans (congrArg some (by decide +kernel)))⟩,
    kx_ShotError := ⟨C_ShotError, PySem.W.mg_of X G0 x1_ShotError, ea (p := fun c Cc => PySem.W.kitOne K (.ref Cc) (.ref C_ShotError) = some (subX c "ShotError")) (kt_ShotError_ShotError.trans (congrArg some (by decide +kernel))) (kt_ShotError_InvalidTable.trans (congrArg some (by decide +kernel))) (kt_ShotError_InvalidShot.trans (congrArg some (by decide +kernel))) (kt_ShotError_InvalidSide.trans (congrArg some (by decide +kernel))) (kt_ShotError_InvalidTime.trans (congrArg some (by decide +kernel))) (kt_ShotError_InvalidNumber.trans (congrArg some (by decide +kernel))) (kt_ShotError_InvalidIndex.trans (congrArg some (by decide +kernel))) (kt_ShotError_InvalidCushion.trans (congrArg some (by decide +kernel))) (kt_ShotError_InvalidSpot.trans (congrArg some (by decide +kernel))) (kt_ShotError_InvalidBox.trans (congrArg some (by decide +kernel))) (kt_ShotError_InvalidStretch.trans (congrArg some (by decide +kernel))) (kt_ShotError_InvalidStretches.trans (congrArg some (by decide +kernel))) (kt_ShotError_InvalidPockets.trans (congrArg some (by decide +kernel))) (kt_ShotError_InvalidCushions.trans (congrArg some (by decide +kernel))) (kt_ShotError_InvalidShots.trans (congrArg some (by decide +kernel))) (kt_ShotError_InvalidBall.trans (congrArg some (by decide +kernel))) (kt_ShotError_InvalidText.trans (congrArg some (by decide +kernel))) (kt_ShotError_InvalidChange.trans (congrArg some (by decide +kernel))) (kt_ShotError_AlwaysTogether.trans (congrArg some (by decide +kernel))) (kt_ShotError_NotABall.trans (congrArg some (by decide +kernel))) (kt_ShotError_OtherTable.trans (congrArg some (by decide +kernel))) (kt_ShotError_NothingToUndo.trans (congrArg some (by decide +kernel))) (kt_ShotError_BallsMeet.trans (congrArg some (by decide +kernel))) (kt_ShotError_TooMany.trans (congrArg some (by decide +kernel)))⟩,
    kx_TooMany := ⟨C_TooMany, PySem.W.mg_of X G0 x1_TooMany, ea (p := fun c Cc => PySem.W.kitOne K (.ref Cc) (.ref C_TooMany) = some (subX c "TooMany")) (kt_TooMany_ShotError.trans (congrArg some (by decide +kernel))) (kt_TooMany_InvalidTable.trans (congrArg some (by decide +kernel))) (kt_TooMany_InvalidShot.trans (congrArg some (by decide +kernel))) (kt_TooMany_InvalidSide.trans (congrArg some (by decide +kernel))) (kt_TooMany_InvalidTime.trans (congrArg some (by decide +kernel))) (kt_TooMany_InvalidNumber.trans (congrArg some (by decide +kernel))) (kt_TooMany_InvalidIndex.trans (congrArg some (by decide +kernel))) (kt_TooMany_InvalidCushion.trans (congrArg some (by decide +kernel))) (kt_TooMany_InvalidSpot.trans (congrArg some (by decide +kernel))) (kt_TooMany_InvalidBox.trans (congrArg some (by decide +kernel))) (kt_TooMany_InvalidStretch.trans (congrArg some (by decide +kernel))) (kt_TooMany_InvalidStretches.trans (congrArg some (by decide +kernel))) (kt_TooMany_InvalidPockets.trans (congrArg some (by decide +kernel))) (kt_TooMany_InvalidCushions.trans (congrArg some (by decide +kernel))) (kt_TooMany_InvalidShots.trans (congrArg some (by decide +kernel))) (kt_TooMany_InvalidBall.trans (congrArg some (by decide +kernel))) (kt_TooMany_InvalidText.trans (congrArg some (by decide +kernel))) (kt_TooMany_InvalidChange.trans (congrArg some (by decide +kernel))) (kt_TooMany_AlwaysTogether.trans (congrArg some (by decide +kernel))) (kt_TooMany_NotABall.trans (congrArg some (by decide +kernel))) (kt_TooMany_OtherTable.trans (congrArg some (by decide +kernel))) (kt_TooMany_NothingToUndo.trans (congrArg some (by decide +kernel))) (kt_TooMany_BallsMeet.trans (congrArg some (by decide +kernel))) (kt_TooMany_TooMany.trans (congrArg some (by decide +kernel)))⟩,
    kv_ := ea (p := fun _ Cc => PySem.W.kitOne K (.ref Cc) (.type "ValueError") = some true) kv_ShotError kv_InvalidTable kv_InvalidShot kv_InvalidSide kv_InvalidTime kv_InvalidNumber kv_InvalidIndex kv_InvalidCushion kv_InvalidSpot kv_InvalidBox kv_InvalidStretch kv_InvalidStretches kv_InvalidPockets kv_InvalidCushions kv_InvalidShots kv_InvalidBall kv_InvalidText kv_InvalidChange kv_AlwaysTogether kv_NotABall kv_OtherTable kv_NothingToUndo kv_BallsMeet kv_TooMany,
    b_ValueError := PySem.W.mg_none_of X G0 z_ValueError,
    b_abs := PySem.W.mg_none_of X G0 z_abs,
    b_any := PySem.W.mg_none_of X G0 z_any,
    b_int := PySem.W.mg_none_of X G0 z_int,
    b_isinstance := PySem.W.mg_none_of X G0 z_isinstance,
    b_len := PySem.W.mg_none_of X G0 z_len,
    b_max := PySem.W.mg_none_of X G0 z_max,
    b_min := PySem.W.mg_none_of X G0 z_min,
    b_range := PySem.W.mg_none_of X G0 z_range }
  have F1 := fun_mk (st := s__law_well) l1 c1 k1
  have b1 := F1.binds (ps := ["script", "at"]) fun _ _ _ _ _ _ us hl => match us, hl with | [_, _], _ => rfl
  have F2 := fun_mk (st := s__law_draw) l2 c2 k2
  have b2 := F2.binds (ps := ["well", "most"]) fun _ _ _ _ _ _ us hl => match us, hl with | [_, _], _ => rfl
  have F3 := fun_mk (st := s__law_marks) l3 c3 k3
  have b3 := F3.binds (ps := ["one"]) fun _ _ _ _ _ _ us hl => match us, hl with | [_], _ => rfl
  have F4 := fun_mk (st := s__law_made) l4 c4 k4
  have b4 := F4.binds (ps := []) fun _ _ _ _ _ _ us hl => match us, hl with | [], _ => rfl
  have F5 := fun_mk (st := s_law) l5 c5 k5
  refine ⟨PySem.W.fnOf "law" "law" (defArgs s_law) (defBody s_law) (defScope s_law) .none kV5 dc5 pm5 an5 cd5 ct5, fun s v => .of_eq rfl, fun base _ _ => ?_⟩
  have T_BallsMeet : OexC K C_BallsMeet := ⟨⟨_, _, _, _, _, _, _, _, _, _, _, _, _, _, _, lo_BallsMeet, rv_BallsMeet⟩, sa_BallsMeet, x4_BallsMeet, x5_BallsMeet, x3_BallsMeet⟩
  have X_BallsMeet : XInit l.prog w K mg base "BallsMeet.__init__" s_x_BallsMeet fx_BallsMeet cda_BallsMeet cc_BallsMeet C_BallsMeet _ "self" "time" "time" "two balls are at the same place" := ⟨⟨⟨_, _, _, _, _, _, _, _, _, rfl, lx_BallsMeet, cx_BallsMeet⟩, ⟨_, _, _, llx_BallsMeet⟩⟩, NdefX.nscope_by (by decide +kernel), ⟨_, _, _, _, _, _, _, _, _, _, _, _, rfl, fun env => rfl, fun env => rfl, fun env => rfl⟩, fun A outer s H E => ⟨rfl, rfl, rfl, rfl, rfl, ⟨_, _, _, _, _, lx_BallsMeet, rfl, rfl⟩, ⟨_, _, _, _, _, _, _, rfl, lcx_BallsMeet, vvx_BallsMeet, ffx_BallsMeet⟩, top_, ⟨cc_BallsMeet, _, _, _, rfl, llx_BallsMeet⟩, Option.isSome_iff_exists.mp (cl_some e4_BallsMeet), PySem.W.mg_none_of X G0 sup_⟩, T_BallsMeet, ss_BallsMeet, sb_BallsMeet, sm_BallsMeet, opq_, en_time_BallsMeet, ⟨by decide, by decide⟩, ⟨by decide, by decide⟩⟩
  have cx_BallsMeet : CalXE l.prog w K mg base 1 "BallsMeet" "time" "time" := ⟨_, _, _, _, xinit_ok (k := 0) X_BallsMeet, T_BallsMeet, i1_BallsMeet, t1_BallsMeet, oe_BallsMeet, PySem.W.mg_of X G0 x1_BallsMeet, (fun s us _ hl => match us, hl with | [_, _], _ => .of_eq rfl), fun s a u _ => .of_eq rfl⟩
  have T_TooMany : OexC K C_TooMany := ⟨⟨_, _, _, _, _, _, _, _, _, _, _, _, _, _, _, lo_TooMany, rv_TooMany⟩, sa_TooMany, x4_TooMany, x5_TooMany, x3_TooMany⟩
  have X_TooMany : XInit l.prog w K mg base "TooMany.__init__" s_x_TooMany fx_TooMany cda_TooMany cc_TooMany C_TooMany _ "self" "count" "count" "there would be too many balls on the table" := ⟨⟨⟨_, _, _, _, _, _, _, _, _, rfl, lx_TooMany, cx_TooMany⟩, ⟨_, _, _, llx_TooMany⟩⟩, NdefX.nscope_by (by decide +kernel), ⟨_, _, _, _, _, _, _, _, _, _, _, _, rfl, fun env => rfl, fun env => rfl, fun env => rfl⟩, fun A outer s H E => ⟨rfl, rfl, rfl, rfl, rfl, ⟨_, _, _, _, _, lx_TooMany, rfl, rfl⟩, ⟨_, _, _, _, _, _, _, rfl, lcx_TooMany, vvx_TooMany, ffx_TooMany⟩, top_, ⟨cc_TooMany, _, _, _, rfl, llx_TooMany⟩, Option.isSome_iff_exists.mp (cl_some e4_TooMany), PySem.W.mg_none_of X G0 sup_⟩, T_TooMany, ss_TooMany, sb_TooMany, sm_TooMany, opq_, en_count_TooMany, ⟨by decide, by decide⟩, ⟨by decide, by decide⟩⟩
  have cx_TooMany : CalXE l.prog w K mg base 1 "TooMany" "count" "count" := ⟨_, _, _, _, xinit_ok (k := 0) X_TooMany, T_TooMany, i1_TooMany, t1_TooMany, oe_TooMany, PySem.W.mg_of X G0 x1_TooMany, (fun s us _ hl => match us, hl with | [_, _], _ => .of_eq rfl), fun s a u _ => .of_eq rfl⟩
  have o__law_well := ok_well F1 g.b_int g.b_len g.b_max g.b_abs (P := l.prog) (w := w) (mg := mg) (base := base)
  have c__law_well : CalL l.prog w K mg base 1 "_law_well" := ⟨_, _, _, o__law_well, PySem.W.mg_of X G0 a1, k1, b1⟩
  have o__law_draw := ok_draw F2 g.b_int (P := l.prog) (w := w) (mg := mg) (base := base)
  have c__law_draw : CalW l.prog w K mg base 1 "_law_draw" dDraw := ⟨_, _, _, o__law_draw, PySem.W.mg_of X G0 a2, k2, b2⟩
  have o__law_marks := ok__law_marks F3 g (P := l.prog) (w := w) (base := base)
  have c__law_marks : CalP l.prog w K mg base CN 3 "_law_marks" D__law_marks := ⟨_, _, _, o__law_marks, PySem.W.mg_of X G0 a3, k3, b3⟩
  have o__law_made := ok__law_made F4 g cx_BallsMeet cx_TooMany (P := l.prog) (w := w) (base := base)
  have c__law_made : CalP l.prog w K mg base CN 3 "_law_made" D__law_made := ⟨_, _, _, o__law_made, PySem.W.mg_of X G0 a4, k4, b4⟩
  exact ok_law F5 g c__law_draw c__law_made c__law_marks c__law_well cx_BallsMeet cx_TooMany
end LW
open PySem PySem.W PyProof.Rows
set_option maxHeartbeats 0 in
theorem PySem.Challenge.cw_cushionshots_k43_error_classes_holds : PySem.Challenge.rw_cushionshots_k43_error_classes.Holds := by
  w_on; o_law; k_head; (case hw => w_witness2)
  k_fill
  refine DL.end_law (l := PySem.Challenge.rw_cushionshots_k43_error_classes) (k := 4) (x := "script") rfl rfl ⟨⟨rfl, by decide, by decide⟩, rfl⟩ (fun w h Y => PySem.W.kIn_of Y) ?F
  case F =>
    intro w mg fa h KX G hmg
    refine' LW.all_mk KX G hmg ?a1 ?l1 ?c1 ?k1 ?a2 ?l2 ?c2 ?k2 ?a3 ?l3 ?c3 ?k3 ?a4 ?l4 ?c4 ?k4 ?a5 ?l5 ?c5 ?k5 ?z_ValueError ?z_abs ?z_any ?z_int ?z_isinstance ?z_len ?z_max ?z_min ?z_range ?x1_ShotError ?x4_ShotError ?e4_ShotError ?e1_ShotError ?e2_ShotError ?e3_ShotError ?e5_ShotError ?xkkInt_ShotError ?xkkBool_ShotError ?xkkStr_ShotError ?xkkTup_ShotError ?xkkLst_ShotError ?xkkDict_ShotError ?en_count_ShotError ?en_time_ShotError ?kt_AlwaysTogether_ShotError ?kt_BallsMeet_ShotError ?kt_InvalidBall_ShotError ?kt_InvalidBox_ShotError ?kt_InvalidChange_ShotError ?kt_InvalidCushion_ShotError ?kt_InvalidCushions_ShotError ?kt_InvalidIndex_ShotError ?kt_InvalidNumber_ShotError ?kt_InvalidPockets_ShotError ?kt_InvalidShot_ShotError ?kt_InvalidShots_ShotError ?kt_InvalidSide_ShotError ?kt_InvalidSpot_ShotError ?kt_InvalidStretch_ShotError ?kt_InvalidStretches_ShotError ?kt_InvalidTable_ShotError ?kt_InvalidText_ShotError ?kt_InvalidTime_ShotError ?kt_NotABall_ShotError ?kt_NothingToUndo_ShotError ?kt_OtherTable_ShotError ?kt_ShotError_ShotError ?kt_TooMany_ShotError ?kv_ShotError ?x3_ShotError ?x5_ShotError ?x2_ShotError ?x1_InvalidTable ?x4_InvalidTable ?e4_InvalidTable ?e1_InvalidTable ?e2_InvalidTable ?e3_InvalidTable ?e5_InvalidTable ?xkkInt_InvalidTable ?xkkBool_InvalidTable ?xkkStr_InvalidTable ?xkkTup_InvalidTable ?xkkLst_InvalidTable ?xkkDict_InvalidTable ?en_count_InvalidTable ?en_time_InvalidTable ?kt_AlwaysTogether_InvalidTable ?kt_BallsMeet_InvalidTable ?kt_InvalidBall_InvalidTable ?kt_InvalidBox_InvalidTable ?kt_InvalidChange_InvalidTable ?kt_InvalidCushion_InvalidTable ?kt_InvalidCushions_InvalidTable ?kt_InvalidIndex_InvalidTable ?kt_InvalidNumber_InvalidTable ?kt_InvalidPockets_InvalidTable ?kt_InvalidShot_InvalidTable ?kt_InvalidShots_InvalidTable ?kt_InvalidSide_InvalidTable ?kt_InvalidSpot_InvalidTable ?kt_InvalidStretch_InvalidTable ?kt_InvalidStretches_InvalidTable ?kt_InvalidTable_InvalidTable ?kt_InvalidText_InvalidTable ?kt_InvalidTime_InvalidTable ?kt_NotABall_InvalidTable ?kt_NothingToUndo_InvalidTable ?kt_OtherTable_InvalidTable ?kt_ShotError_InvalidTable ?kt_TooMany_InvalidTable ?kv_InvalidTable ?x3_InvalidTable ?x5_InvalidTable ?x2_InvalidTable ?x1_InvalidShot ?x4_InvalidShot ?e4_InvalidShot ?e1_InvalidShot ?e2_InvalidShot ?e3_InvalidShot ?e5_InvalidShot ?xkkInt_InvalidShot ?xkkBool_InvalidShot ?xkkStr_InvalidShot ?xkkTup_InvalidShot ?xkkLst_InvalidShot ?xkkDict_InvalidShot ?en_count_InvalidShot ?en_time_InvalidShot ?kt_AlwaysTogether_InvalidShot ?kt_BallsMeet_InvalidShot ?kt_InvalidBall_InvalidShot ?kt_InvalidBox_InvalidShot ?kt_InvalidChange_InvalidShot ?kt_InvalidCushion_InvalidShot ?kt_InvalidCushions_InvalidShot ?kt_InvalidIndex_InvalidShot ?kt_InvalidNumber_InvalidShot ?kt_InvalidPockets_InvalidShot ?kt_InvalidShot_InvalidShot ?kt_InvalidShots_InvalidShot ?kt_InvalidSide_InvalidShot ?kt_InvalidSpot_InvalidShot ?kt_InvalidStretch_InvalidShot ?kt_InvalidStretches_InvalidShot ?kt_InvalidTable_InvalidShot ?kt_InvalidText_InvalidShot ?kt_InvalidTime_InvalidShot ?kt_NotABall_InvalidShot ?kt_NothingToUndo_InvalidShot ?kt_OtherTable_InvalidShot ?kt_ShotError_InvalidShot ?kt_TooMany_InvalidShot ?kv_InvalidShot ?x3_InvalidShot ?x5_InvalidShot ?x2_InvalidShot ?x1_InvalidSide ?x4_InvalidSide ?e4_InvalidSide ?e1_InvalidSide ?e2_InvalidSide ?e3_InvalidSide ?e5_InvalidSide ?xkkInt_InvalidSide ?xkkBool_InvalidSide ?xkkStr_InvalidSide ?xkkTup_InvalidSide ?xkkLst_InvalidSide ?xkkDict_InvalidSide ?en_count_InvalidSide ?en_time_InvalidSide ?kt_AlwaysTogether_InvalidSide ?kt_BallsMeet_InvalidSide ?kt_InvalidBall_InvalidSide ?kt_InvalidBox_InvalidSide ?kt_InvalidChange_InvalidSide ?kt_InvalidCushion_InvalidSide ?kt_InvalidCushions_InvalidSide ?kt_InvalidIndex_InvalidSide ?kt_InvalidNumber_InvalidSide ?kt_InvalidPockets_InvalidSide ?kt_InvalidShot_InvalidSide ?kt_InvalidShots_InvalidSide ?kt_InvalidSide_InvalidSide ?kt_InvalidSpot_InvalidSide ?kt_InvalidStretch_InvalidSide ?kt_InvalidStretches_InvalidSide ?kt_InvalidTable_InvalidSide ?kt_InvalidText_InvalidSide ?kt_InvalidTime_InvalidSide ?kt_NotABall_InvalidSide ?kt_NothingToUndo_InvalidSide ?kt_OtherTable_InvalidSide ?kt_ShotError_InvalidSide ?kt_TooMany_InvalidSide ?kv_InvalidSide ?x3_InvalidSide ?x5_InvalidSide ?x2_InvalidSide ?x1_InvalidTime ?x4_InvalidTime ?e4_InvalidTime ?e1_InvalidTime ?e2_InvalidTime ?e3_InvalidTime ?e5_InvalidTime ?xkkInt_InvalidTime ?xkkBool_InvalidTime ?xkkStr_InvalidTime ?xkkTup_InvalidTime ?xkkLst_InvalidTime ?xkkDict_InvalidTime ?en_count_InvalidTime ?en_time_InvalidTime ?kt_AlwaysTogether_InvalidTime ?kt_BallsMeet_InvalidTime ?kt_InvalidBall_InvalidTime ?kt_InvalidBox_InvalidTime ?kt_InvalidChange_InvalidTime ?kt_InvalidCushion_InvalidTime ?kt_InvalidCushions_InvalidTime ?kt_InvalidIndex_InvalidTime ?kt_InvalidNumber_InvalidTime ?kt_InvalidPockets_InvalidTime ?kt_InvalidShot_InvalidTime ?kt_InvalidShots_InvalidTime ?kt_InvalidSide_InvalidTime ?kt_InvalidSpot_InvalidTime ?kt_InvalidStretch_InvalidTime ?kt_InvalidStretches_InvalidTime ?kt_InvalidTable_InvalidTime ?kt_InvalidText_InvalidTime ?kt_InvalidTime_InvalidTime ?kt_NotABall_InvalidTime ?kt_NothingToUndo_InvalidTime ?kt_OtherTable_InvalidTime ?kt_ShotError_InvalidTime ?kt_TooMany_InvalidTime ?kv_InvalidTime ?x3_InvalidTime ?x5_InvalidTime ?x2_InvalidTime ?x1_InvalidNumber ?x4_InvalidNumber ?e4_InvalidNumber ?e1_InvalidNumber ?e2_InvalidNumber ?e3_InvalidNumber ?e5_InvalidNumber ?xkkInt_InvalidNumber ?xkkBool_InvalidNumber ?xkkStr_InvalidNumber ?xkkTup_InvalidNumber ?xkkLst_InvalidNumber ?xkkDict_InvalidNumber ?en_count_InvalidNumber ?en_time_InvalidNumber ?kt_AlwaysTogether_InvalidNumber ?kt_BallsMeet_InvalidNumber ?kt_InvalidBall_InvalidNumber ?kt_InvalidBox_InvalidNumber ?kt_InvalidChange_InvalidNumber ?kt_InvalidCushion_InvalidNumber ?kt_InvalidCushions_InvalidNumber ?kt_InvalidIndex_InvalidNumber ?kt_InvalidNumber_InvalidNumber ?kt_InvalidPockets_InvalidNumber ?kt_InvalidShot_InvalidNumber ?kt_InvalidShots_InvalidNumber ?kt_InvalidSide_InvalidNumber ?kt_InvalidSpot_InvalidNumber ?kt_InvalidStretch_InvalidNumber ?kt_InvalidStretches_InvalidNumber ?kt_InvalidTable_InvalidNumber ?kt_InvalidText_InvalidNumber ?kt_InvalidTime_InvalidNumber ?kt_NotABall_InvalidNumber ?kt_NothingToUndo_InvalidNumber ?kt_OtherTable_InvalidNumber ?kt_ShotError_InvalidNumber ?kt_TooMany_InvalidNumber ?kv_InvalidNumber ?x3_InvalidNumber ?x5_InvalidNumber ?x2_InvalidNumber ?x1_InvalidIndex ?x4_InvalidIndex ?e4_InvalidIndex ?e1_InvalidIndex ?e2_InvalidIndex ?e3_InvalidIndex ?e5_InvalidIndex ?xkkInt_InvalidIndex ?xkkBool_InvalidIndex ?xkkStr_InvalidIndex ?xkkTup_InvalidIndex ?xkkLst_InvalidIndex ?xkkDict_InvalidIndex ?en_count_InvalidIndex ?en_time_InvalidIndex ?kt_AlwaysTogether_InvalidIndex ?kt_BallsMeet_InvalidIndex ?kt_InvalidBall_InvalidIndex ?kt_InvalidBox_InvalidIndex ?kt_InvalidChange_InvalidIndex ?kt_InvalidCushion_InvalidIndex ?kt_InvalidCushions_InvalidIndex ?kt_InvalidIndex_InvalidIndex ?kt_InvalidNumber_InvalidIndex ?kt_InvalidPockets_InvalidIndex ?kt_InvalidShot_InvalidIndex ?kt_InvalidShots_InvalidIndex ?kt_InvalidSide_InvalidIndex ?kt_InvalidSpot_InvalidIndex ?kt_InvalidStretch_InvalidIndex ?kt_InvalidStretches_InvalidIndex ?kt_InvalidTable_InvalidIndex ?kt_InvalidText_InvalidIndex ?kt_InvalidTime_InvalidIndex ?kt_NotABall_InvalidIndex ?kt_NothingToUndo_InvalidIndex ?kt_OtherTable_InvalidIndex ?kt_ShotError_InvalidIndex ?kt_TooMany_InvalidIndex ?kv_InvalidIndex ?x3_InvalidIndex ?x5_InvalidIndex ?x2_InvalidIndex ?x1_InvalidCushion ?x4_InvalidCushion ?e4_InvalidCushion ?e1_InvalidCushion ?e2_InvalidCushion ?e3_InvalidCushion ?e5_InvalidCushion ?xkkInt_InvalidCushion ?xkkBool_InvalidCushion ?xkkStr_InvalidCushion ?xkkTup_InvalidCushion ?xkkLst_InvalidCushion ?xkkDict_InvalidCushion ?en_count_InvalidCushion ?en_time_InvalidCushion ?kt_AlwaysTogether_InvalidCushion ?kt_BallsMeet_InvalidCushion ?kt_InvalidBall_InvalidCushion ?kt_InvalidBox_InvalidCushion ?kt_InvalidChange_InvalidCushion ?kt_InvalidCushion_InvalidCushion ?kt_InvalidCushions_InvalidCushion ?kt_InvalidIndex_InvalidCushion ?kt_InvalidNumber_InvalidCushion ?kt_InvalidPockets_InvalidCushion ?kt_InvalidShot_InvalidCushion ?kt_InvalidShots_InvalidCushion ?kt_InvalidSide_InvalidCushion ?kt_InvalidSpot_InvalidCushion ?kt_InvalidStretch_InvalidCushion ?kt_InvalidStretches_InvalidCushion ?kt_InvalidTable_InvalidCushion ?kt_InvalidText_InvalidCushion ?kt_InvalidTime_InvalidCushion ?kt_NotABall_InvalidCushion ?kt_NothingToUndo_InvalidCushion ?kt_OtherTable_InvalidCushion ?kt_ShotError_InvalidCushion ?kt_TooMany_InvalidCushion ?kv_InvalidCushion ?x3_InvalidCushion ?x5_InvalidCushion ?x2_InvalidCushion ?x1_InvalidSpot ?x4_InvalidSpot ?e4_InvalidSpot ?e1_InvalidSpot ?e2_InvalidSpot ?e3_InvalidSpot ?e5_InvalidSpot ?xkkInt_InvalidSpot ?xkkBool_InvalidSpot ?xkkStr_InvalidSpot ?xkkTup_InvalidSpot ?xkkLst_InvalidSpot ?xkkDict_InvalidSpot ?en_count_InvalidSpot ?en_time_InvalidSpot ?kt_AlwaysTogether_InvalidSpot ?kt_BallsMeet_InvalidSpot ?kt_InvalidBall_InvalidSpot ?kt_InvalidBox_InvalidSpot ?kt_InvalidChange_InvalidSpot ?kt_InvalidCushion_InvalidSpot ?kt_InvalidCushions_InvalidSpot ?kt_InvalidIndex_InvalidSpot ?kt_InvalidNumber_InvalidSpot ?kt_InvalidPockets_InvalidSpot ?kt_InvalidShot_InvalidSpot ?kt_InvalidShots_InvalidSpot ?kt_InvalidSide_InvalidSpot ?kt_InvalidSpot_InvalidSpot ?kt_InvalidStretch_InvalidSpot ?kt_InvalidStretches_InvalidSpot ?kt_InvalidTable_InvalidSpot ?kt_InvalidText_InvalidSpot ?kt_InvalidTime_InvalidSpot ?kt_NotABall_InvalidSpot ?kt_NothingToUndo_InvalidSpot ?kt_OtherTable_InvalidSpot ?kt_ShotError_InvalidSpot ?kt_TooMany_InvalidSpot ?kv_InvalidSpot ?x3_InvalidSpot ?x5_InvalidSpot ?x2_InvalidSpot ?x1_InvalidBox ?x4_InvalidBox ?e4_InvalidBox ?e1_InvalidBox ?e2_InvalidBox ?e3_InvalidBox ?e5_InvalidBox ?xkkInt_InvalidBox ?xkkBool_InvalidBox ?xkkStr_InvalidBox ?xkkTup_InvalidBox ?xkkLst_InvalidBox ?xkkDict_InvalidBox ?en_count_InvalidBox ?en_time_InvalidBox ?kt_AlwaysTogether_InvalidBox ?kt_BallsMeet_InvalidBox ?kt_InvalidBall_InvalidBox ?kt_InvalidBox_InvalidBox ?kt_InvalidChange_InvalidBox ?kt_InvalidCushion_InvalidBox ?kt_InvalidCushions_InvalidBox ?kt_InvalidIndex_InvalidBox ?kt_InvalidNumber_InvalidBox ?kt_InvalidPockets_InvalidBox ?kt_InvalidShot_InvalidBox ?kt_InvalidShots_InvalidBox ?kt_InvalidSide_InvalidBox ?kt_InvalidSpot_InvalidBox ?kt_InvalidStretch_InvalidBox ?kt_InvalidStretches_InvalidBox ?kt_InvalidTable_InvalidBox ?kt_InvalidText_InvalidBox ?kt_InvalidTime_InvalidBox ?kt_NotABall_InvalidBox ?kt_NothingToUndo_InvalidBox ?kt_OtherTable_InvalidBox ?kt_ShotError_InvalidBox ?kt_TooMany_InvalidBox ?kv_InvalidBox ?x3_InvalidBox ?x5_InvalidBox ?x2_InvalidBox ?x1_InvalidStretch ?x4_InvalidStretch ?e4_InvalidStretch ?e1_InvalidStretch ?e2_InvalidStretch ?e3_InvalidStretch ?e5_InvalidStretch ?xkkInt_InvalidStretch ?xkkBool_InvalidStretch ?xkkStr_InvalidStretch ?xkkTup_InvalidStretch ?xkkLst_InvalidStretch ?xkkDict_InvalidStretch ?en_count_InvalidStretch ?en_time_InvalidStretch ?kt_AlwaysTogether_InvalidStretch ?kt_BallsMeet_InvalidStretch ?kt_InvalidBall_InvalidStretch ?kt_InvalidBox_InvalidStretch ?kt_InvalidChange_InvalidStretch ?kt_InvalidCushion_InvalidStretch ?kt_InvalidCushions_InvalidStretch ?kt_InvalidIndex_InvalidStretch ?kt_InvalidNumber_InvalidStretch ?kt_InvalidPockets_InvalidStretch ?kt_InvalidShot_InvalidStretch ?kt_InvalidShots_InvalidStretch ?kt_InvalidSide_InvalidStretch ?kt_InvalidSpot_InvalidStretch ?kt_InvalidStretch_InvalidStretch ?kt_InvalidStretches_InvalidStretch ?kt_InvalidTable_InvalidStretch ?kt_InvalidText_InvalidStretch ?kt_InvalidTime_InvalidStretch ?kt_NotABall_InvalidStretch ?kt_NothingToUndo_InvalidStretch ?kt_OtherTable_InvalidStretch ?kt_ShotError_InvalidStretch ?kt_TooMany_InvalidStretch ?kv_InvalidStretch ?x3_InvalidStretch ?x5_InvalidStretch ?x2_InvalidStretch ?x1_InvalidStretches ?x4_InvalidStretches ?e4_InvalidStretches ?e1_InvalidStretches ?e2_InvalidStretches ?e3_InvalidStretches ?e5_InvalidStretches ?xkkInt_InvalidStretches ?xkkBool_InvalidStretches ?xkkStr_InvalidStretches ?xkkTup_InvalidStretches ?xkkLst_InvalidStretches ?xkkDict_InvalidStretches ?en_count_InvalidStretches ?en_time_InvalidStretches ?kt_AlwaysTogether_InvalidStretches ?kt_BallsMeet_InvalidStretches ?kt_InvalidBall_InvalidStretches ?kt_InvalidBox_InvalidStretches ?kt_InvalidChange_InvalidStretches ?kt_InvalidCushion_InvalidStretches ?kt_InvalidCushions_InvalidStretches ?kt_InvalidIndex_InvalidStretches ?kt_InvalidNumber_InvalidStretches ?kt_InvalidPockets_InvalidStretches ?kt_InvalidShot_InvalidStretches ?kt_InvalidShots_InvalidStretches ?kt_InvalidSide_InvalidStretches ?kt_InvalidSpot_InvalidStretches ?kt_InvalidStretch_InvalidStretches ?kt_InvalidStretches_InvalidStretches ?kt_InvalidTable_InvalidStretches ?kt_InvalidText_InvalidStretches ?kt_InvalidTime_InvalidStretches ?kt_NotABall_InvalidStretches ?kt_NothingToUndo_InvalidStretches ?kt_OtherTable_InvalidStretches ?kt_ShotError_InvalidStretches ?kt_TooMany_InvalidStretches ?kv_InvalidStretches ?x3_InvalidStretches ?x5_InvalidStretches ?x2_InvalidStretches ?x1_InvalidPockets ?x4_InvalidPockets ?e4_InvalidPockets ?e1_InvalidPockets ?e2_InvalidPockets ?e3_InvalidPockets ?e5_InvalidPockets ?xkkInt_InvalidPockets ?xkkBool_InvalidPockets ?xkkStr_InvalidPockets ?xkkTup_InvalidPockets ?xkkLst_InvalidPockets ?xkkDict_InvalidPockets ?en_count_InvalidPockets ?en_time_InvalidPockets ?kt_AlwaysTogether_InvalidPockets ?kt_BallsMeet_InvalidPockets ?kt_InvalidBall_InvalidPockets ?kt_InvalidBox_InvalidPockets ?kt_InvalidChange_InvalidPockets ?kt_InvalidCushion_InvalidPockets ?kt_InvalidCushions_InvalidPockets ?kt_InvalidIndex_InvalidPockets ?kt_InvalidNumber_InvalidPockets ?kt_InvalidPockets_InvalidPockets ?kt_InvalidShot_InvalidPockets ?kt_InvalidShots_InvalidPockets ?kt_InvalidSide_InvalidPockets ?kt_InvalidSpot_InvalidPockets ?kt_InvalidStretch_InvalidPockets ?kt_InvalidStretches_InvalidPockets ?kt_InvalidTable_InvalidPockets ?kt_InvalidText_InvalidPockets ?kt_InvalidTime_InvalidPockets ?kt_NotABall_InvalidPockets ?kt_NothingToUndo_InvalidPockets ?kt_OtherTable_InvalidPockets ?kt_ShotError_InvalidPockets ?kt_TooMany_InvalidPockets ?kv_InvalidPockets ?x3_InvalidPockets ?x5_InvalidPockets ?x2_InvalidPockets ?x1_InvalidCushions ?x4_InvalidCushions ?e4_InvalidCushions ?e1_InvalidCushions ?e2_InvalidCushions ?e3_InvalidCushions ?e5_InvalidCushions ?xkkInt_InvalidCushions ?xkkBool_InvalidCushions ?xkkStr_InvalidCushions ?xkkTup_InvalidCushions ?xkkLst_InvalidCushions ?xkkDict_InvalidCushions ?en_count_InvalidCushions ?en_time_InvalidCushions ?kt_AlwaysTogether_InvalidCushions ?kt_BallsMeet_InvalidCushions ?kt_InvalidBall_InvalidCushions ?kt_InvalidBox_InvalidCushions ?kt_InvalidChange_InvalidCushions ?kt_InvalidCushion_InvalidCushions ?kt_InvalidCushions_InvalidCushions ?kt_InvalidIndex_InvalidCushions ?kt_InvalidNumber_InvalidCushions ?kt_InvalidPockets_InvalidCushions ?kt_InvalidShot_InvalidCushions ?kt_InvalidShots_InvalidCushions ?kt_InvalidSide_InvalidCushions ?kt_InvalidSpot_InvalidCushions ?kt_InvalidStretch_InvalidCushions ?kt_InvalidStretches_InvalidCushions ?kt_InvalidTable_InvalidCushions ?kt_InvalidText_InvalidCushions ?kt_InvalidTime_InvalidCushions ?kt_NotABall_InvalidCushions ?kt_NothingToUndo_InvalidCushions ?kt_OtherTable_InvalidCushions ?kt_ShotError_InvalidCushions ?kt_TooMany_InvalidCushions ?kv_InvalidCushions ?x3_InvalidCushions ?x5_InvalidCushions ?x2_InvalidCushions ?x1_InvalidShots ?x4_InvalidShots ?e4_InvalidShots ?e1_InvalidShots ?e2_InvalidShots ?e3_InvalidShots ?e5_InvalidShots ?xkkInt_InvalidShots ?xkkBool_InvalidShots ?xkkStr_InvalidShots ?xkkTup_InvalidShots ?xkkLst_InvalidShots ?xkkDict_InvalidShots ?en_count_InvalidShots ?en_time_InvalidShots ?kt_AlwaysTogether_InvalidShots ?kt_BallsMeet_InvalidShots ?kt_InvalidBall_InvalidShots ?kt_InvalidBox_InvalidShots ?kt_InvalidChange_InvalidShots ?kt_InvalidCushion_InvalidShots ?kt_InvalidCushions_InvalidShots ?kt_InvalidIndex_InvalidShots ?kt_InvalidNumber_InvalidShots ?kt_InvalidPockets_InvalidShots ?kt_InvalidShot_InvalidShots ?kt_InvalidShots_InvalidShots ?kt_InvalidSide_InvalidShots ?kt_InvalidSpot_InvalidShots ?kt_InvalidStretch_InvalidShots ?kt_InvalidStretches_InvalidShots ?kt_InvalidTable_InvalidShots ?kt_InvalidText_InvalidShots ?kt_InvalidTime_InvalidShots ?kt_NotABall_InvalidShots ?kt_NothingToUndo_InvalidShots ?kt_OtherTable_InvalidShots ?kt_ShotError_InvalidShots ?kt_TooMany_InvalidShots ?kv_InvalidShots ?x3_InvalidShots ?x5_InvalidShots ?x2_InvalidShots ?x1_InvalidBall ?x4_InvalidBall ?e4_InvalidBall ?e1_InvalidBall ?e2_InvalidBall ?e3_InvalidBall ?e5_InvalidBall ?xkkInt_InvalidBall ?xkkBool_InvalidBall ?xkkStr_InvalidBall ?xkkTup_InvalidBall ?xkkLst_InvalidBall ?xkkDict_InvalidBall ?en_count_InvalidBall ?en_time_InvalidBall ?kt_AlwaysTogether_InvalidBall ?kt_BallsMeet_InvalidBall ?kt_InvalidBall_InvalidBall ?kt_InvalidBox_InvalidBall ?kt_InvalidChange_InvalidBall ?kt_InvalidCushion_InvalidBall ?kt_InvalidCushions_InvalidBall ?kt_InvalidIndex_InvalidBall ?kt_InvalidNumber_InvalidBall ?kt_InvalidPockets_InvalidBall ?kt_InvalidShot_InvalidBall ?kt_InvalidShots_InvalidBall ?kt_InvalidSide_InvalidBall ?kt_InvalidSpot_InvalidBall ?kt_InvalidStretch_InvalidBall ?kt_InvalidStretches_InvalidBall ?kt_InvalidTable_InvalidBall ?kt_InvalidText_InvalidBall ?kt_InvalidTime_InvalidBall ?kt_NotABall_InvalidBall ?kt_NothingToUndo_InvalidBall ?kt_OtherTable_InvalidBall ?kt_ShotError_InvalidBall ?kt_TooMany_InvalidBall ?kv_InvalidBall ?x3_InvalidBall ?x5_InvalidBall ?x2_InvalidBall ?x1_InvalidText ?x4_InvalidText ?e4_InvalidText ?e1_InvalidText ?e2_InvalidText ?e3_InvalidText ?e5_InvalidText ?xkkInt_InvalidText ?xkkBool_InvalidText ?xkkStr_InvalidText ?xkkTup_InvalidText ?xkkLst_InvalidText ?xkkDict_InvalidText ?en_count_InvalidText ?en_time_InvalidText ?kt_AlwaysTogether_InvalidText ?kt_BallsMeet_InvalidText ?kt_InvalidBall_InvalidText ?kt_InvalidBox_InvalidText ?kt_InvalidChange_InvalidText ?kt_InvalidCushion_InvalidText ?kt_InvalidCushions_InvalidText ?kt_InvalidIndex_InvalidText ?kt_InvalidNumber_InvalidText ?kt_InvalidPockets_InvalidText ?kt_InvalidShot_InvalidText ?kt_InvalidShots_InvalidText ?kt_InvalidSide_InvalidText ?kt_InvalidSpot_InvalidText ?kt_InvalidStretch_InvalidText ?kt_InvalidStretches_InvalidText ?kt_InvalidTable_InvalidText ?kt_InvalidText_InvalidText ?kt_InvalidTime_InvalidText ?kt_NotABall_InvalidText ?kt_NothingToUndo_InvalidText ?kt_OtherTable_InvalidText ?kt_ShotError_InvalidText ?kt_TooMany_InvalidText ?kv_InvalidText ?x3_InvalidText ?x5_InvalidText ?x2_InvalidText ?x1_InvalidChange ?x4_InvalidChange ?e4_InvalidChange ?e1_InvalidChange ?e2_InvalidChange ?e3_InvalidChange ?e5_InvalidChange ?xkkInt_InvalidChange ?xkkBool_InvalidChange ?xkkStr_InvalidChange ?xkkTup_InvalidChange ?xkkLst_InvalidChange ?xkkDict_InvalidChange ?en_count_InvalidChange ?en_time_InvalidChange ?kt_AlwaysTogether_InvalidChange ?kt_BallsMeet_InvalidChange ?kt_InvalidBall_InvalidChange ?kt_InvalidBox_InvalidChange ?kt_InvalidChange_InvalidChange ?kt_InvalidCushion_InvalidChange ?kt_InvalidCushions_InvalidChange ?kt_InvalidIndex_InvalidChange ?kt_InvalidNumber_InvalidChange ?kt_InvalidPockets_InvalidChange ?kt_InvalidShot_InvalidChange ?kt_InvalidShots_InvalidChange ?kt_InvalidSide_InvalidChange ?kt_InvalidSpot_InvalidChange ?kt_InvalidStretch_InvalidChange ?kt_InvalidStretches_InvalidChange ?kt_InvalidTable_InvalidChange ?kt_InvalidText_InvalidChange ?kt_InvalidTime_InvalidChange ?kt_NotABall_InvalidChange ?kt_NothingToUndo_InvalidChange ?kt_OtherTable_InvalidChange ?kt_ShotError_InvalidChange ?kt_TooMany_InvalidChange ?kv_InvalidChange ?x3_InvalidChange ?x5_InvalidChange ?x2_InvalidChange ?x1_AlwaysTogether ?x4_AlwaysTogether ?e4_AlwaysTogether ?e1_AlwaysTogether ?e2_AlwaysTogether ?e3_AlwaysTogether ?e5_AlwaysTogether ?xkkInt_AlwaysTogether ?xkkBool_AlwaysTogether ?xkkStr_AlwaysTogether ?xkkTup_AlwaysTogether ?xkkLst_AlwaysTogether ?xkkDict_AlwaysTogether ?en_count_AlwaysTogether ?en_time_AlwaysTogether ?kt_AlwaysTogether_AlwaysTogether ?kt_BallsMeet_AlwaysTogether ?kt_InvalidBall_AlwaysTogether ?kt_InvalidBox_AlwaysTogether ?kt_InvalidChange_AlwaysTogether ?kt_InvalidCushion_AlwaysTogether ?kt_InvalidCushions_AlwaysTogether ?kt_InvalidIndex_AlwaysTogether ?kt_InvalidNumber_AlwaysTogether ?kt_InvalidPockets_AlwaysTogether ?kt_InvalidShot_AlwaysTogether ?kt_InvalidShots_AlwaysTogether ?kt_InvalidSide_AlwaysTogether ?kt_InvalidSpot_AlwaysTogether ?kt_InvalidStretch_AlwaysTogether ?kt_InvalidStretches_AlwaysTogether ?kt_InvalidTable_AlwaysTogether ?kt_InvalidText_AlwaysTogether ?kt_InvalidTime_AlwaysTogether ?kt_NotABall_AlwaysTogether ?kt_NothingToUndo_AlwaysTogether ?kt_OtherTable_AlwaysTogether ?kt_ShotError_AlwaysTogether ?kt_TooMany_AlwaysTogether ?kv_AlwaysTogether ?x3_AlwaysTogether ?x5_AlwaysTogether ?x2_AlwaysTogether ?x1_NotABall ?x4_NotABall ?e4_NotABall ?e1_NotABall ?e2_NotABall ?e3_NotABall ?e5_NotABall ?xkkInt_NotABall ?xkkBool_NotABall ?xkkStr_NotABall ?xkkTup_NotABall ?xkkLst_NotABall ?xkkDict_NotABall ?en_count_NotABall ?en_time_NotABall ?kt_AlwaysTogether_NotABall ?kt_BallsMeet_NotABall ?kt_InvalidBall_NotABall ?kt_InvalidBox_NotABall ?kt_InvalidChange_NotABall ?kt_InvalidCushion_NotABall ?kt_InvalidCushions_NotABall ?kt_InvalidIndex_NotABall ?kt_InvalidNumber_NotABall ?kt_InvalidPockets_NotABall ?kt_InvalidShot_NotABall ?kt_InvalidShots_NotABall ?kt_InvalidSide_NotABall ?kt_InvalidSpot_NotABall ?kt_InvalidStretch_NotABall ?kt_InvalidStretches_NotABall ?kt_InvalidTable_NotABall ?kt_InvalidText_NotABall ?kt_InvalidTime_NotABall ?kt_NotABall_NotABall ?kt_NothingToUndo_NotABall ?kt_OtherTable_NotABall ?kt_ShotError_NotABall ?kt_TooMany_NotABall ?kv_NotABall ?x3_NotABall ?x5_NotABall ?x2_NotABall ?x1_OtherTable ?x4_OtherTable ?e4_OtherTable ?e1_OtherTable ?e2_OtherTable ?e3_OtherTable ?e5_OtherTable ?xkkInt_OtherTable ?xkkBool_OtherTable ?xkkStr_OtherTable ?xkkTup_OtherTable ?xkkLst_OtherTable ?xkkDict_OtherTable ?en_count_OtherTable ?en_time_OtherTable ?kt_AlwaysTogether_OtherTable ?kt_BallsMeet_OtherTable ?kt_InvalidBall_OtherTable ?kt_InvalidBox_OtherTable ?kt_InvalidChange_OtherTable ?kt_InvalidCushion_OtherTable ?kt_InvalidCushions_OtherTable ?kt_InvalidIndex_OtherTable ?kt_InvalidNumber_OtherTable ?kt_InvalidPockets_OtherTable ?kt_InvalidShot_OtherTable ?kt_InvalidShots_OtherTable ?kt_InvalidSide_OtherTable ?kt_InvalidSpot_OtherTable ?kt_InvalidStretch_OtherTable ?kt_InvalidStretches_OtherTable ?kt_InvalidTable_OtherTable ?kt_InvalidText_OtherTable ?kt_InvalidTime_OtherTable ?kt_NotABall_OtherTable ?kt_NothingToUndo_OtherTable ?kt_OtherTable_OtherTable ?kt_ShotError_OtherTable ?kt_TooMany_OtherTable ?kv_OtherTable ?x3_OtherTable ?x5_OtherTable ?x2_OtherTable ?x1_NothingToUndo ?x4_NothingToUndo ?e4_NothingToUndo ?e1_NothingToUndo ?e2_NothingToUndo ?e3_NothingToUndo ?e5_NothingToUndo ?xkkInt_NothingToUndo ?xkkBool_NothingToUndo ?xkkStr_NothingToUndo ?xkkTup_NothingToUndo ?xkkLst_NothingToUndo ?xkkDict_NothingToUndo ?en_count_NothingToUndo ?en_time_NothingToUndo ?kt_AlwaysTogether_NothingToUndo ?kt_BallsMeet_NothingToUndo ?kt_InvalidBall_NothingToUndo ?kt_InvalidBox_NothingToUndo ?kt_InvalidChange_NothingToUndo ?kt_InvalidCushion_NothingToUndo ?kt_InvalidCushions_NothingToUndo ?kt_InvalidIndex_NothingToUndo ?kt_InvalidNumber_NothingToUndo ?kt_InvalidPockets_NothingToUndo ?kt_InvalidShot_NothingToUndo ?kt_InvalidShots_NothingToUndo ?kt_InvalidSide_NothingToUndo ?kt_InvalidSpot_NothingToUndo ?kt_InvalidStretch_NothingToUndo ?kt_InvalidStretches_NothingToUndo ?kt_InvalidTable_NothingToUndo ?kt_InvalidText_NothingToUndo ?kt_InvalidTime_NothingToUndo ?kt_NotABall_NothingToUndo ?kt_NothingToUndo_NothingToUndo ?kt_OtherTable_NothingToUndo ?kt_ShotError_NothingToUndo ?kt_TooMany_NothingToUndo ?kv_NothingToUndo ?x3_NothingToUndo ?x5_NothingToUndo ?x2_NothingToUndo ?x1_BallsMeet ?x4_BallsMeet ?e4_BallsMeet ?e1_BallsMeet ?e2_BallsMeet ?e3_BallsMeet ?e5_BallsMeet ?xkkInt_BallsMeet ?xkkBool_BallsMeet ?xkkStr_BallsMeet ?xkkTup_BallsMeet ?xkkLst_BallsMeet ?xkkDict_BallsMeet ?en_count_BallsMeet ?en_time_BallsMeet ?kt_AlwaysTogether_BallsMeet ?kt_BallsMeet_BallsMeet ?kt_InvalidBall_BallsMeet ?kt_InvalidBox_BallsMeet ?kt_InvalidChange_BallsMeet ?kt_InvalidCushion_BallsMeet ?kt_InvalidCushions_BallsMeet ?kt_InvalidIndex_BallsMeet ?kt_InvalidNumber_BallsMeet ?kt_InvalidPockets_BallsMeet ?kt_InvalidShot_BallsMeet ?kt_InvalidShots_BallsMeet ?kt_InvalidSide_BallsMeet ?kt_InvalidSpot_BallsMeet ?kt_InvalidStretch_BallsMeet ?kt_InvalidStretches_BallsMeet ?kt_InvalidTable_BallsMeet ?kt_InvalidText_BallsMeet ?kt_InvalidTime_BallsMeet ?kt_NotABall_BallsMeet ?kt_NothingToUndo_BallsMeet ?kt_OtherTable_BallsMeet ?kt_ShotError_BallsMeet ?kt_TooMany_BallsMeet ?kv_BallsMeet ?x3_BallsMeet ?x5_BallsMeet ?x1_TooMany ?x4_TooMany ?e4_TooMany ?e1_TooMany ?e2_TooMany ?e3_TooMany ?e5_TooMany ?xkkInt_TooMany ?xkkBool_TooMany ?xkkStr_TooMany ?xkkTup_TooMany ?xkkLst_TooMany ?xkkDict_TooMany ?en_count_TooMany ?en_time_TooMany ?kt_AlwaysTogether_TooMany ?kt_BallsMeet_TooMany ?kt_InvalidBall_TooMany ?kt_InvalidBox_TooMany ?kt_InvalidChange_TooMany ?kt_InvalidCushion_TooMany ?kt_InvalidCushions_TooMany ?kt_InvalidIndex_TooMany ?kt_InvalidNumber_TooMany ?kt_InvalidPockets_TooMany ?kt_InvalidShot_TooMany ?kt_InvalidShots_TooMany ?kt_InvalidSide_TooMany ?kt_InvalidSpot_TooMany ?kt_InvalidStretch_TooMany ?kt_InvalidStretches_TooMany ?kt_InvalidTable_TooMany ?kt_InvalidText_TooMany ?kt_InvalidTime_TooMany ?kt_NotABall_TooMany ?kt_NothingToUndo_TooMany ?kt_OtherTable_TooMany ?kt_ShotError_TooMany ?kt_TooMany_TooMany ?kv_TooMany ?x3_TooMany ?x5_TooMany ?hn_ ?ht_ ?opq_ ?sup_ ?top_ ?i1_BallsMeet ?lx_BallsMeet ?cx_BallsMeet ?lcx_BallsMeet ?llx_BallsMeet ?vvx_BallsMeet ?ffx_BallsMeet ?t1_BallsMeet ?ss_BallsMeet ?sb_BallsMeet ?sm_BallsMeet ?sa_BallsMeet ?lo_BallsMeet ?rv_BallsMeet ?i1_TooMany ?lx_TooMany ?cx_TooMany ?lcx_TooMany ?llx_TooMany ?vvx_TooMany ?ffx_TooMany ?t1_TooMany ?ss_TooMany ?sb_TooMany ?sm_TooMany ?sa_TooMany ?lo_TooMany ?rv_TooMany
    (case x1_ShotError => k_is)
    (case x1_InvalidTable => k_is)
    (case x1_InvalidShot => k_is)
    (case x1_InvalidSide => k_is)
    (case x1_InvalidTime => k_is)
    (case x1_InvalidNumber => k_is)
    (case x1_InvalidIndex => k_is)
    (case x1_InvalidCushion => k_is)
    (case x1_InvalidSpot => k_is)
    (case x1_InvalidBox => k_is)
    (case x1_InvalidStretch => k_is)
    (case x1_InvalidStretches => k_is)
    (case x1_InvalidPockets => k_is)
    (case x1_InvalidCushions => k_is)
    (case x1_InvalidShots => k_is)
    (case x1_InvalidBall => k_is)
    (case x1_InvalidText => k_is)
    (case x1_InvalidChange => k_is)
    (case x1_AlwaysTogether => k_is)
    (case x1_NotABall => k_is)
    (case x1_OtherTable => k_is)
    (case x1_NothingToUndo => k_is)
    (case x1_BallsMeet => k_is)
    (case x1_TooMany => k_is)
    (case a1 => k_is)
    (case l1 => k_is)
    (case c1 => k_is)
    (case k1 => k_is)
    (case a2 => k_is)
    (case l2 => k_is)
    (case c2 => k_is)
    (case k2 => k_is)
    (case a3 => k_is)
    (case l3 => k_is)
    (case c3 => k_is)
    (case k3 => k_is)
    (case a4 => k_is)
    (case l4 => k_is)
    (case c4 => k_is)
    (case k4 => k_is)
    (case a5 => k_is)
    (case l5 => k_is)
    (case c5 => k_is)
    (case k5 => k_is)
    (case z_ValueError => k_is)
    (case z_abs => k_is)
    (case z_any => k_is)
    (case z_int => k_is)
    (case z_isinstance => k_is)
    (case z_len => k_is)
    (case z_max => k_is)
    (case z_min => k_is)
    (case z_range => k_is)
    (case x4_ShotError => k_is)
    (case e4_ShotError => k_is)
    (case e1_ShotError => k_is)
    (case e2_ShotError => k_is)
    (case e3_ShotError => k_is)
    (case e5_ShotError => k_is)
    (case xkkInt_ShotError => kit_is)
    (case xkkBool_ShotError => kit_is)
    (case xkkStr_ShotError => kit_is)
    (case xkkTup_ShotError => kit_is)
    (case xkkLst_ShotError => kit_is)
    (case xkkDict_ShotError => kit_is)
    (case en_count_ShotError => k_is)
    (case en_time_ShotError => k_is)
    (case kt_AlwaysTogether_ShotError => kit_is)
    (case kt_BallsMeet_ShotError => kit_is)
    (case kt_InvalidBall_ShotError => kit_is)
    (case kt_InvalidBox_ShotError => kit_is)
    (case kt_InvalidChange_ShotError => kit_is)
    (case kt_InvalidCushion_ShotError => kit_is)
    (case kt_InvalidCushions_ShotError => kit_is)
    (case kt_InvalidIndex_ShotError => kit_is)
    (case kt_InvalidNumber_ShotError => kit_is)
    (case kt_InvalidPockets_ShotError => kit_is)
    (case kt_InvalidShot_ShotError => kit_is)
    (case kt_InvalidShots_ShotError => kit_is)
    (case kt_InvalidSide_ShotError => kit_is)
    (case kt_InvalidSpot_ShotError => kit_is)
    (case kt_InvalidStretch_ShotError => kit_is)
    (case kt_InvalidStretches_ShotError => kit_is)
    (case kt_InvalidTable_ShotError => kit_is)
    (case kt_InvalidText_ShotError => kit_is)
    (case kt_InvalidTime_ShotError => kit_is)
    (case kt_NotABall_ShotError => kit_is)
    (case kt_NothingToUndo_ShotError => kit_is)
    (case kt_OtherTable_ShotError => kit_is)
    (case kt_ShotError_ShotError => kit_is)
    (case kt_TooMany_ShotError => kit_is)
    (case kv_ShotError => kit_is)
    (case x3_ShotError => k_is)
    (case x5_ShotError => k_is)
    (case x2_ShotError => k_exc)
    (case x4_InvalidTable => k_is)
    (case e4_InvalidTable => k_is)
    (case e1_InvalidTable => k_is)
    (case e2_InvalidTable => k_is)
    (case e3_InvalidTable => k_is)
    (case e5_InvalidTable => k_is)
    (case xkkInt_InvalidTable => kit_is)
    (case xkkBool_InvalidTable => kit_is)
    (case xkkStr_InvalidTable => kit_is)
    (case xkkTup_InvalidTable => kit_is)
    (case xkkLst_InvalidTable => kit_is)
    (case xkkDict_InvalidTable => kit_is)
    (case en_count_InvalidTable => k_is)
    (case en_time_InvalidTable => k_is)
    (case kt_AlwaysTogether_InvalidTable => kit_is)
    (case kt_BallsMeet_InvalidTable => kit_is)
    (case kt_InvalidBall_InvalidTable => kit_is)
    (case kt_InvalidBox_InvalidTable => kit_is)
    (case kt_InvalidChange_InvalidTable => kit_is)
    (case kt_InvalidCushion_InvalidTable => kit_is)
    (case kt_InvalidCushions_InvalidTable => kit_is)
    (case kt_InvalidIndex_InvalidTable => kit_is)
    (case kt_InvalidNumber_InvalidTable => kit_is)
    (case kt_InvalidPockets_InvalidTable => kit_is)
    (case kt_InvalidShot_InvalidTable => kit_is)
    (case kt_InvalidShots_InvalidTable => kit_is)
    (case kt_InvalidSide_InvalidTable => kit_is)
    (case kt_InvalidSpot_InvalidTable => kit_is)
    (case kt_InvalidStretch_InvalidTable => kit_is)
    (case kt_InvalidStretches_InvalidTable => kit_is)
    (case kt_InvalidTable_InvalidTable => kit_is)
    (case kt_InvalidText_InvalidTable => kit_is)
    (case kt_InvalidTime_InvalidTable => kit_is)
    (case kt_NotABall_InvalidTable => kit_is)
    (case kt_NothingToUndo_InvalidTable => kit_is)
    (case kt_OtherTable_InvalidTable => kit_is)
    (case kt_ShotError_InvalidTable => kit_is)
    (case kt_TooMany_InvalidTable => kit_is)
    (case kv_InvalidTable => kit_is)
    (case x3_InvalidTable => k_is)
    (case x5_InvalidTable => k_is)
    (case x2_InvalidTable => k_exc)
    (case x4_InvalidShot => k_is)
    (case e4_InvalidShot => k_is)
    (case e1_InvalidShot => k_is)
    (case e2_InvalidShot => k_is)
    (case e3_InvalidShot => k_is)
    (case e5_InvalidShot => k_is)
    (case xkkInt_InvalidShot => kit_is)
    (case xkkBool_InvalidShot => kit_is)
    (case xkkStr_InvalidShot => kit_is)
    (case xkkTup_InvalidShot => kit_is)
    (case xkkLst_InvalidShot => kit_is)
    (case xkkDict_InvalidShot => kit_is)
    (case en_count_InvalidShot => k_is)
    (case en_time_InvalidShot => k_is)
    (case kt_AlwaysTogether_InvalidShot => kit_is)
    (case kt_BallsMeet_InvalidShot => kit_is)
    (case kt_InvalidBall_InvalidShot => kit_is)
    (case kt_InvalidBox_InvalidShot => kit_is)
    (case kt_InvalidChange_InvalidShot => kit_is)
    (case kt_InvalidCushion_InvalidShot => kit_is)
    (case kt_InvalidCushions_InvalidShot => kit_is)
    (case kt_InvalidIndex_InvalidShot => kit_is)
    (case kt_InvalidNumber_InvalidShot => kit_is)
    (case kt_InvalidPockets_InvalidShot => kit_is)
    (case kt_InvalidShot_InvalidShot => kit_is)
    (case kt_InvalidShots_InvalidShot => kit_is)
    (case kt_InvalidSide_InvalidShot => kit_is)
    (case kt_InvalidSpot_InvalidShot => kit_is)
    (case kt_InvalidStretch_InvalidShot => kit_is)
    (case kt_InvalidStretches_InvalidShot => kit_is)
    (case kt_InvalidTable_InvalidShot => kit_is)
    (case kt_InvalidText_InvalidShot => kit_is)
    (case kt_InvalidTime_InvalidShot => kit_is)
    (case kt_NotABall_InvalidShot => kit_is)
    (case kt_NothingToUndo_InvalidShot => kit_is)
    (case kt_OtherTable_InvalidShot => kit_is)
    (case kt_ShotError_InvalidShot => kit_is)
    (case kt_TooMany_InvalidShot => kit_is)
    (case kv_InvalidShot => kit_is)
    (case x3_InvalidShot => k_is)
    (case x5_InvalidShot => k_is)
    (case x2_InvalidShot => k_exc)
    (case x4_InvalidSide => k_is)
    (case e4_InvalidSide => k_is)
    (case e1_InvalidSide => k_is)
    (case e2_InvalidSide => k_is)
    (case e3_InvalidSide => k_is)
    (case e5_InvalidSide => k_is)
    (case xkkInt_InvalidSide => kit_is)
    (case xkkBool_InvalidSide => kit_is)
    (case xkkStr_InvalidSide => kit_is)
    (case xkkTup_InvalidSide => kit_is)
    (case xkkLst_InvalidSide => kit_is)
    (case xkkDict_InvalidSide => kit_is)
    (case en_count_InvalidSide => k_is)
    (case en_time_InvalidSide => k_is)
    (case kt_AlwaysTogether_InvalidSide => kit_is)
    (case kt_BallsMeet_InvalidSide => kit_is)
    (case kt_InvalidBall_InvalidSide => kit_is)
    (case kt_InvalidBox_InvalidSide => kit_is)
    (case kt_InvalidChange_InvalidSide => kit_is)
    (case kt_InvalidCushion_InvalidSide => kit_is)
    (case kt_InvalidCushions_InvalidSide => kit_is)
    (case kt_InvalidIndex_InvalidSide => kit_is)
    (case kt_InvalidNumber_InvalidSide => kit_is)
    (case kt_InvalidPockets_InvalidSide => kit_is)
    (case kt_InvalidShot_InvalidSide => kit_is)
    (case kt_InvalidShots_InvalidSide => kit_is)
    (case kt_InvalidSide_InvalidSide => kit_is)
    (case kt_InvalidSpot_InvalidSide => kit_is)
    (case kt_InvalidStretch_InvalidSide => kit_is)
    (case kt_InvalidStretches_InvalidSide => kit_is)
    (case kt_InvalidTable_InvalidSide => kit_is)
    (case kt_InvalidText_InvalidSide => kit_is)
    (case kt_InvalidTime_InvalidSide => kit_is)
    (case kt_NotABall_InvalidSide => kit_is)
    (case kt_NothingToUndo_InvalidSide => kit_is)
    (case kt_OtherTable_InvalidSide => kit_is)
    (case kt_ShotError_InvalidSide => kit_is)
    (case kt_TooMany_InvalidSide => kit_is)
    (case kv_InvalidSide => kit_is)
    (case x3_InvalidSide => k_is)
    (case x5_InvalidSide => k_is)
    (case x2_InvalidSide => k_exc)
    (case x4_InvalidTime => k_is)
    (case e4_InvalidTime => k_is)
    (case e1_InvalidTime => k_is)
    (case e2_InvalidTime => k_is)
    (case e3_InvalidTime => k_is)
    (case e5_InvalidTime => k_is)
    (case xkkInt_InvalidTime => kit_is)
    (case xkkBool_InvalidTime => kit_is)
    (case xkkStr_InvalidTime => kit_is)
    (case xkkTup_InvalidTime => kit_is)
    (case xkkLst_InvalidTime => kit_is)
    (case xkkDict_InvalidTime => kit_is)
    (case en_count_InvalidTime => k_is)
    (case en_time_InvalidTime => k_is)
    (case kt_AlwaysTogether_InvalidTime => kit_is)
    (case kt_BallsMeet_InvalidTime => kit_is)
    (case kt_InvalidBall_InvalidTime => kit_is)
    (case kt_InvalidBox_InvalidTime => kit_is)
    (case kt_InvalidChange_InvalidTime => kit_is)
    (case kt_InvalidCushion_InvalidTime => kit_is)
    (case kt_InvalidCushions_InvalidTime => kit_is)
    (case kt_InvalidIndex_InvalidTime => kit_is)
    (case kt_InvalidNumber_InvalidTime => kit_is)
    (case kt_InvalidPockets_InvalidTime => kit_is)
    (case kt_InvalidShot_InvalidTime => kit_is)
    (case kt_InvalidShots_InvalidTime => kit_is)
    (case kt_InvalidSide_InvalidTime => kit_is)
    (case kt_InvalidSpot_InvalidTime => kit_is)
    (case kt_InvalidStretch_InvalidTime => kit_is)
    (case kt_InvalidStretches_InvalidTime => kit_is)
    (case kt_InvalidTable_InvalidTime => kit_is)
    (case kt_InvalidText_InvalidTime => kit_is)
    (case kt_InvalidTime_InvalidTime => kit_is)
    (case kt_NotABall_InvalidTime => kit_is)
    (case kt_NothingToUndo_InvalidTime => kit_is)
    (case kt_OtherTable_InvalidTime => kit_is)
    (case kt_ShotError_InvalidTime => kit_is)
    (case kt_TooMany_InvalidTime => kit_is)
    (case kv_InvalidTime => kit_is)
    (case x3_InvalidTime => k_is)
    (case x5_InvalidTime => k_is)
    (case x2_InvalidTime => k_exc)
    (case x4_InvalidNumber => k_is)
    (case e4_InvalidNumber => k_is)
    (case e1_InvalidNumber => k_is)
    (case e2_InvalidNumber => k_is)
    (case e3_InvalidNumber => k_is)
    (case e5_InvalidNumber => k_is)
    (case xkkInt_InvalidNumber => kit_is)
    (case xkkBool_InvalidNumber => kit_is)
    (case xkkStr_InvalidNumber => kit_is)
    (case xkkTup_InvalidNumber => kit_is)
    (case xkkLst_InvalidNumber => kit_is)
    (case xkkDict_InvalidNumber => kit_is)
    (case en_count_InvalidNumber => k_is)
    (case en_time_InvalidNumber => k_is)
    (case kt_AlwaysTogether_InvalidNumber => kit_is)
    (case kt_BallsMeet_InvalidNumber => kit_is)
    (case kt_InvalidBall_InvalidNumber => kit_is)
    (case kt_InvalidBox_InvalidNumber => kit_is)
    (case kt_InvalidChange_InvalidNumber => kit_is)
    (case kt_InvalidCushion_InvalidNumber => kit_is)
    (case kt_InvalidCushions_InvalidNumber => kit_is)
    (case kt_InvalidIndex_InvalidNumber => kit_is)
    (case kt_InvalidNumber_InvalidNumber => kit_is)
    (case kt_InvalidPockets_InvalidNumber => kit_is)
    (case kt_InvalidShot_InvalidNumber => kit_is)
    (case kt_InvalidShots_InvalidNumber => kit_is)
    (case kt_InvalidSide_InvalidNumber => kit_is)
    (case kt_InvalidSpot_InvalidNumber => kit_is)
    (case kt_InvalidStretch_InvalidNumber => kit_is)
    (case kt_InvalidStretches_InvalidNumber => kit_is)
    (case kt_InvalidTable_InvalidNumber => kit_is)
    (case kt_InvalidText_InvalidNumber => kit_is)
    (case kt_InvalidTime_InvalidNumber => kit_is)
    (case kt_NotABall_InvalidNumber => kit_is)
    (case kt_NothingToUndo_InvalidNumber => kit_is)
    (case kt_OtherTable_InvalidNumber => kit_is)
    (case kt_ShotError_InvalidNumber => kit_is)
    (case kt_TooMany_InvalidNumber => kit_is)
    (case kv_InvalidNumber => kit_is)
    (case x3_InvalidNumber => k_is)
    (case x5_InvalidNumber => k_is)
    (case x2_InvalidNumber => k_exc)
    (case x4_InvalidIndex => k_is)
    (case e4_InvalidIndex => k_is)
    (case e1_InvalidIndex => k_is)
    (case e2_InvalidIndex => k_is)
    (case e3_InvalidIndex => k_is)
    (case e5_InvalidIndex => k_is)
    (case xkkInt_InvalidIndex => kit_is)
    (case xkkBool_InvalidIndex => kit_is)
    (case xkkStr_InvalidIndex => kit_is)
    (case xkkTup_InvalidIndex => kit_is)
    (case xkkLst_InvalidIndex => kit_is)
    (case xkkDict_InvalidIndex => kit_is)
    (case en_count_InvalidIndex => k_is)
    (case en_time_InvalidIndex => k_is)
    (case kt_AlwaysTogether_InvalidIndex => kit_is)
    (case kt_BallsMeet_InvalidIndex => kit_is)
    (case kt_InvalidBall_InvalidIndex => kit_is)
    (case kt_InvalidBox_InvalidIndex => kit_is)
    (case kt_InvalidChange_InvalidIndex => kit_is)
    (case kt_InvalidCushion_InvalidIndex => kit_is)
    (case kt_InvalidCushions_InvalidIndex => kit_is)
    (case kt_InvalidIndex_InvalidIndex => kit_is)
    (case kt_InvalidNumber_InvalidIndex => kit_is)
    (case kt_InvalidPockets_InvalidIndex => kit_is)
    (case kt_InvalidShot_InvalidIndex => kit_is)
    (case kt_InvalidShots_InvalidIndex => kit_is)
    (case kt_InvalidSide_InvalidIndex => kit_is)
    (case kt_InvalidSpot_InvalidIndex => kit_is)
    (case kt_InvalidStretch_InvalidIndex => kit_is)
    (case kt_InvalidStretches_InvalidIndex => kit_is)
    (case kt_InvalidTable_InvalidIndex => kit_is)
    (case kt_InvalidText_InvalidIndex => kit_is)
    (case kt_InvalidTime_InvalidIndex => kit_is)
    (case kt_NotABall_InvalidIndex => kit_is)
    (case kt_NothingToUndo_InvalidIndex => kit_is)
    (case kt_OtherTable_InvalidIndex => kit_is)
    (case kt_ShotError_InvalidIndex => kit_is)
    (case kt_TooMany_InvalidIndex => kit_is)
    (case kv_InvalidIndex => kit_is)
    (case x3_InvalidIndex => k_is)
    (case x5_InvalidIndex => k_is)
    (case x2_InvalidIndex => k_exc)
    (case x4_InvalidCushion => k_is)
    (case e4_InvalidCushion => k_is)
    (case e1_InvalidCushion => k_is)
    (case e2_InvalidCushion => k_is)
    (case e3_InvalidCushion => k_is)
    (case e5_InvalidCushion => k_is)
    (case xkkInt_InvalidCushion => kit_is)
    (case xkkBool_InvalidCushion => kit_is)
    (case xkkStr_InvalidCushion => kit_is)
    (case xkkTup_InvalidCushion => kit_is)
    (case xkkLst_InvalidCushion => kit_is)
    (case xkkDict_InvalidCushion => kit_is)
    (case en_count_InvalidCushion => k_is)
    (case en_time_InvalidCushion => k_is)
    (case kt_AlwaysTogether_InvalidCushion => kit_is)
    (case kt_BallsMeet_InvalidCushion => kit_is)
    (case kt_InvalidBall_InvalidCushion => kit_is)
    (case kt_InvalidBox_InvalidCushion => kit_is)
    (case kt_InvalidChange_InvalidCushion => kit_is)
    (case kt_InvalidCushion_InvalidCushion => kit_is)
    (case kt_InvalidCushions_InvalidCushion => kit_is)
    (case kt_InvalidIndex_InvalidCushion => kit_is)
    (case kt_InvalidNumber_InvalidCushion => kit_is)
    (case kt_InvalidPockets_InvalidCushion => kit_is)
    (case kt_InvalidShot_InvalidCushion => kit_is)
    (case kt_InvalidShots_InvalidCushion => kit_is)
    (case kt_InvalidSide_InvalidCushion => kit_is)
    (case kt_InvalidSpot_InvalidCushion => kit_is)
    (case kt_InvalidStretch_InvalidCushion => kit_is)
    (case kt_InvalidStretches_InvalidCushion => kit_is)
    (case kt_InvalidTable_InvalidCushion => kit_is)
    (case kt_InvalidText_InvalidCushion => kit_is)
    (case kt_InvalidTime_InvalidCushion => kit_is)
    (case kt_NotABall_InvalidCushion => kit_is)
    (case kt_NothingToUndo_InvalidCushion => kit_is)
    (case kt_OtherTable_InvalidCushion => kit_is)
    (case kt_ShotError_InvalidCushion => kit_is)
    (case kt_TooMany_InvalidCushion => kit_is)
    (case kv_InvalidCushion => kit_is)
    (case x3_InvalidCushion => k_is)
    (case x5_InvalidCushion => k_is)
    (case x2_InvalidCushion => k_exc)
    (case x4_InvalidSpot => k_is)
    (case e4_InvalidSpot => k_is)
    (case e1_InvalidSpot => k_is)
    (case e2_InvalidSpot => k_is)
    (case e3_InvalidSpot => k_is)
    (case e5_InvalidSpot => k_is)
    (case xkkInt_InvalidSpot => kit_is)
    (case xkkBool_InvalidSpot => kit_is)
    (case xkkStr_InvalidSpot => kit_is)
    (case xkkTup_InvalidSpot => kit_is)
    (case xkkLst_InvalidSpot => kit_is)
    (case xkkDict_InvalidSpot => kit_is)
    (case en_count_InvalidSpot => k_is)
    (case en_time_InvalidSpot => k_is)
    (case kt_AlwaysTogether_InvalidSpot => kit_is)
    (case kt_BallsMeet_InvalidSpot => kit_is)
    (case kt_InvalidBall_InvalidSpot => kit_is)
    (case kt_InvalidBox_InvalidSpot => kit_is)
    (case kt_InvalidChange_InvalidSpot => kit_is)
    (case kt_InvalidCushion_InvalidSpot => kit_is)
    (case kt_InvalidCushions_InvalidSpot => kit_is)
    (case kt_InvalidIndex_InvalidSpot => kit_is)
    (case kt_InvalidNumber_InvalidSpot => kit_is)
    (case kt_InvalidPockets_InvalidSpot => kit_is)
    (case kt_InvalidShot_InvalidSpot => kit_is)
    (case kt_InvalidShots_InvalidSpot => kit_is)
    (case kt_InvalidSide_InvalidSpot => kit_is)
    (case kt_InvalidSpot_InvalidSpot => kit_is)
    (case kt_InvalidStretch_InvalidSpot => kit_is)
    (case kt_InvalidStretches_InvalidSpot => kit_is)
    (case kt_InvalidTable_InvalidSpot => kit_is)
    (case kt_InvalidText_InvalidSpot => kit_is)
    (case kt_InvalidTime_InvalidSpot => kit_is)
    (case kt_NotABall_InvalidSpot => kit_is)
    (case kt_NothingToUndo_InvalidSpot => kit_is)
    (case kt_OtherTable_InvalidSpot => kit_is)
    (case kt_ShotError_InvalidSpot => kit_is)
    (case kt_TooMany_InvalidSpot => kit_is)
    (case kv_InvalidSpot => kit_is)
    (case x3_InvalidSpot => k_is)
    (case x5_InvalidSpot => k_is)
    (case x2_InvalidSpot => k_exc)
    (case x4_InvalidBox => k_is)
    (case e4_InvalidBox => k_is)
    (case e1_InvalidBox => k_is)
    (case e2_InvalidBox => k_is)
    (case e3_InvalidBox => k_is)
    (case e5_InvalidBox => k_is)
    (case xkkInt_InvalidBox => kit_is)
    (case xkkBool_InvalidBox => kit_is)
    (case xkkStr_InvalidBox => kit_is)
    (case xkkTup_InvalidBox => kit_is)
    (case xkkLst_InvalidBox => kit_is)
    (case xkkDict_InvalidBox => kit_is)
    (case en_count_InvalidBox => k_is)
    (case en_time_InvalidBox => k_is)
    (case kt_AlwaysTogether_InvalidBox => kit_is)
    (case kt_BallsMeet_InvalidBox => kit_is)
    (case kt_InvalidBall_InvalidBox => kit_is)
    (case kt_InvalidBox_InvalidBox => kit_is)
    (case kt_InvalidChange_InvalidBox => kit_is)
    (case kt_InvalidCushion_InvalidBox => kit_is)
    (case kt_InvalidCushions_InvalidBox => kit_is)
    (case kt_InvalidIndex_InvalidBox => kit_is)
    (case kt_InvalidNumber_InvalidBox => kit_is)
    (case kt_InvalidPockets_InvalidBox => kit_is)
    (case kt_InvalidShot_InvalidBox => kit_is)
    (case kt_InvalidShots_InvalidBox => kit_is)
    (case kt_InvalidSide_InvalidBox => kit_is)
    (case kt_InvalidSpot_InvalidBox => kit_is)
    (case kt_InvalidStretch_InvalidBox => kit_is)
    (case kt_InvalidStretches_InvalidBox => kit_is)
    (case kt_InvalidTable_InvalidBox => kit_is)
    (case kt_InvalidText_InvalidBox => kit_is)
    (case kt_InvalidTime_InvalidBox => kit_is)
    (case kt_NotABall_InvalidBox => kit_is)
    (case kt_NothingToUndo_InvalidBox => kit_is)
    (case kt_OtherTable_InvalidBox => kit_is)
    (case kt_ShotError_InvalidBox => kit_is)
    (case kt_TooMany_InvalidBox => kit_is)
    (case kv_InvalidBox => kit_is)
    (case x3_InvalidBox => k_is)
    (case x5_InvalidBox => k_is)
    (case x2_InvalidBox => k_exc)
    (case x4_InvalidStretch => k_is)
    (case e4_InvalidStretch => k_is)
    (case e1_InvalidStretch => k_is)
    (case e2_InvalidStretch => k_is)
    (case e3_InvalidStretch => k_is)
    (case e5_InvalidStretch => k_is)
    (case xkkInt_InvalidStretch => kit_is)
    (case xkkBool_InvalidStretch => kit_is)
    (case xkkStr_InvalidStretch => kit_is)
    (case xkkTup_InvalidStretch => kit_is)
    (case xkkLst_InvalidStretch => kit_is)
    (case xkkDict_InvalidStretch => kit_is)
    (case en_count_InvalidStretch => k_is)
    (case en_time_InvalidStretch => k_is)
    (case kt_AlwaysTogether_InvalidStretch => kit_is)
    (case kt_BallsMeet_InvalidStretch => kit_is)
    (case kt_InvalidBall_InvalidStretch => kit_is)
    (case kt_InvalidBox_InvalidStretch => kit_is)
    (case kt_InvalidChange_InvalidStretch => kit_is)
    (case kt_InvalidCushion_InvalidStretch => kit_is)
    (case kt_InvalidCushions_InvalidStretch => kit_is)
    (case kt_InvalidIndex_InvalidStretch => kit_is)
    (case kt_InvalidNumber_InvalidStretch => kit_is)
    (case kt_InvalidPockets_InvalidStretch => kit_is)
    (case kt_InvalidShot_InvalidStretch => kit_is)
    (case kt_InvalidShots_InvalidStretch => kit_is)
    (case kt_InvalidSide_InvalidStretch => kit_is)
    (case kt_InvalidSpot_InvalidStretch => kit_is)
    (case kt_InvalidStretch_InvalidStretch => kit_is)
    (case kt_InvalidStretches_InvalidStretch => kit_is)
    (case kt_InvalidTable_InvalidStretch => kit_is)
    (case kt_InvalidText_InvalidStretch => kit_is)
    (case kt_InvalidTime_InvalidStretch => kit_is)
    (case kt_NotABall_InvalidStretch => kit_is)
    (case kt_NothingToUndo_InvalidStretch => kit_is)
    (case kt_OtherTable_InvalidStretch => kit_is)
    (case kt_ShotError_InvalidStretch => kit_is)
    (case kt_TooMany_InvalidStretch => kit_is)
    (case kv_InvalidStretch => kit_is)
    (case x3_InvalidStretch => k_is)
    (case x5_InvalidStretch => k_is)
    (case x2_InvalidStretch => k_exc)
    (case x4_InvalidStretches => k_is)
    (case e4_InvalidStretches => k_is)
    (case e1_InvalidStretches => k_is)
    (case e2_InvalidStretches => k_is)
    (case e3_InvalidStretches => k_is)
    (case e5_InvalidStretches => k_is)
    (case xkkInt_InvalidStretches => kit_is)
    (case xkkBool_InvalidStretches => kit_is)
    (case xkkStr_InvalidStretches => kit_is)
    (case xkkTup_InvalidStretches => kit_is)
    (case xkkLst_InvalidStretches => kit_is)
    (case xkkDict_InvalidStretches => kit_is)
    (case en_count_InvalidStretches => k_is)
    (case en_time_InvalidStretches => k_is)
    (case kt_AlwaysTogether_InvalidStretches => kit_is)
    (case kt_BallsMeet_InvalidStretches => kit_is)
    (case kt_InvalidBall_InvalidStretches => kit_is)
    (case kt_InvalidBox_InvalidStretches => kit_is)
    (case kt_InvalidChange_InvalidStretches => kit_is)
    (case kt_InvalidCushion_InvalidStretches => kit_is)
    (case kt_InvalidCushions_InvalidStretches => kit_is)
    (case kt_InvalidIndex_InvalidStretches => kit_is)
    (case kt_InvalidNumber_InvalidStretches => kit_is)
    (case kt_InvalidPockets_InvalidStretches => kit_is)
    (case kt_InvalidShot_InvalidStretches => kit_is)
    (case kt_InvalidShots_InvalidStretches => kit_is)
    (case kt_InvalidSide_InvalidStretches => kit_is)
    (case kt_InvalidSpot_InvalidStretches => kit_is)
    (case kt_InvalidStretch_InvalidStretches => kit_is)
    (case kt_InvalidStretches_InvalidStretches => kit_is)
    (case kt_InvalidTable_InvalidStretches => kit_is)
    (case kt_InvalidText_InvalidStretches => kit_is)
    (case kt_InvalidTime_InvalidStretches => kit_is)
    (case kt_NotABall_InvalidStretches => kit_is)
    (case kt_NothingToUndo_InvalidStretches => kit_is)
    (case kt_OtherTable_InvalidStretches => kit_is)
    (case kt_ShotError_InvalidStretches => kit_is)
    (case kt_TooMany_InvalidStretches => kit_is)
    (case kv_InvalidStretches => kit_is)
    (case x3_InvalidStretches => k_is)
    (case x5_InvalidStretches => k_is)
    (case x2_InvalidStretches => k_exc)
    (case x4_InvalidPockets => k_is)
    (case e4_InvalidPockets => k_is)
    (case e1_InvalidPockets => k_is)
    (case e2_InvalidPockets => k_is)
    (case e3_InvalidPockets => k_is)
    (case e5_InvalidPockets => k_is)
    (case xkkInt_InvalidPockets => kit_is)
    (case xkkBool_InvalidPockets => kit_is)
    (case xkkStr_InvalidPockets => kit_is)
    (case xkkTup_InvalidPockets => kit_is)
    (case xkkLst_InvalidPockets => kit_is)
    (case xkkDict_InvalidPockets => kit_is)
    (case en_count_InvalidPockets => k_is)
    (case en_time_InvalidPockets => k_is)
    (case kt_AlwaysTogether_InvalidPockets => kit_is)
    (case kt_BallsMeet_InvalidPockets => kit_is)
    (case kt_InvalidBall_InvalidPockets => kit_is)
    (case kt_InvalidBox_InvalidPockets => kit_is)
    (case kt_InvalidChange_InvalidPockets => kit_is)
    (case kt_InvalidCushion_InvalidPockets => kit_is)
    (case kt_InvalidCushions_InvalidPockets => kit_is)
    (case kt_InvalidIndex_InvalidPockets => kit_is)
    (case kt_InvalidNumber_InvalidPockets => kit_is)
    (case kt_InvalidPockets_InvalidPockets => kit_is)
    (case kt_InvalidShot_InvalidPockets => kit_is)
    (case kt_InvalidShots_InvalidPockets => kit_is)
    (case kt_InvalidSide_InvalidPockets => kit_is)
    (case kt_InvalidSpot_InvalidPockets => kit_is)
    (case kt_InvalidStretch_InvalidPockets => kit_is)
    (case kt_InvalidStretches_InvalidPockets => kit_is)
    (case kt_InvalidTable_InvalidPockets => kit_is)
    (case kt_InvalidText_InvalidPockets => kit_is)
    (case kt_InvalidTime_InvalidPockets => kit_is)
    (case kt_NotABall_InvalidPockets => kit_is)
    (case kt_NothingToUndo_InvalidPockets => kit_is)
    (case kt_OtherTable_InvalidPockets => kit_is)
    (case kt_ShotError_InvalidPockets => kit_is)
    (case kt_TooMany_InvalidPockets => kit_is)
    (case kv_InvalidPockets => kit_is)
    (case x3_InvalidPockets => k_is)
    (case x5_InvalidPockets => k_is)
    (case x2_InvalidPockets => k_exc)
    (case x4_InvalidCushions => k_is)
    (case e4_InvalidCushions => k_is)
    (case e1_InvalidCushions => k_is)
    (case e2_InvalidCushions => k_is)
    (case e3_InvalidCushions => k_is)
    (case e5_InvalidCushions => k_is)
    (case xkkInt_InvalidCushions => kit_is)
    (case xkkBool_InvalidCushions => kit_is)
    (case xkkStr_InvalidCushions => kit_is)
    (case xkkTup_InvalidCushions => kit_is)
    (case xkkLst_InvalidCushions => kit_is)
    (case xkkDict_InvalidCushions => kit_is)
    (case en_count_InvalidCushions => k_is)
    (case en_time_InvalidCushions => k_is)
    (case kt_AlwaysTogether_InvalidCushions => kit_is)
    (case kt_BallsMeet_InvalidCushions => kit_is)
    (case kt_InvalidBall_InvalidCushions => kit_is)
    (case kt_InvalidBox_InvalidCushions => kit_is)
    (case kt_InvalidChange_InvalidCushions => kit_is)
    (case kt_InvalidCushion_InvalidCushions => kit_is)
    (case kt_InvalidCushions_InvalidCushions => kit_is)
    (case kt_InvalidIndex_InvalidCushions => kit_is)
    (case kt_InvalidNumber_InvalidCushions => kit_is)
    (case kt_InvalidPockets_InvalidCushions => kit_is)
    (case kt_InvalidShot_InvalidCushions => kit_is)
    (case kt_InvalidShots_InvalidCushions => kit_is)
    (case kt_InvalidSide_InvalidCushions => kit_is)
    (case kt_InvalidSpot_InvalidCushions => kit_is)
    (case kt_InvalidStretch_InvalidCushions => kit_is)
    (case kt_InvalidStretches_InvalidCushions => kit_is)
    (case kt_InvalidTable_InvalidCushions => kit_is)
    (case kt_InvalidText_InvalidCushions => kit_is)
    (case kt_InvalidTime_InvalidCushions => kit_is)
    (case kt_NotABall_InvalidCushions => kit_is)
    (case kt_NothingToUndo_InvalidCushions => kit_is)
    (case kt_OtherTable_InvalidCushions => kit_is)
    (case kt_ShotError_InvalidCushions => kit_is)
    (case kt_TooMany_InvalidCushions => kit_is)
    (case kv_InvalidCushions => kit_is)
    (case x3_InvalidCushions => k_is)
    (case x5_InvalidCushions => k_is)
    (case x2_InvalidCushions => k_exc)
    (case x4_InvalidShots => k_is)
    (case e4_InvalidShots => k_is)
    (case e1_InvalidShots => k_is)
    (case e2_InvalidShots => k_is)
    (case e3_InvalidShots => k_is)
    (case e5_InvalidShots => k_is)
    (case xkkInt_InvalidShots => kit_is)
    (case xkkBool_InvalidShots => kit_is)
    (case xkkStr_InvalidShots => kit_is)
    (case xkkTup_InvalidShots => kit_is)
    (case xkkLst_InvalidShots => kit_is)
    (case xkkDict_InvalidShots => kit_is)
    (case en_count_InvalidShots => k_is)
    (case en_time_InvalidShots => k_is)
    (case kt_AlwaysTogether_InvalidShots => kit_is)
    (case kt_BallsMeet_InvalidShots => kit_is)
    (case kt_InvalidBall_InvalidShots => kit_is)
    (case kt_InvalidBox_InvalidShots => kit_is)
    (case kt_InvalidChange_InvalidShots => kit_is)
    (case kt_InvalidCushion_InvalidShots => kit_is)
    (case kt_InvalidCushions_InvalidShots => kit_is)
    (case kt_InvalidIndex_InvalidShots => kit_is)
    (case kt_InvalidNumber_InvalidShots => kit_is)
    (case kt_InvalidPockets_InvalidShots => kit_is)
    (case kt_InvalidShot_InvalidShots => kit_is)
    (case kt_InvalidShots_InvalidShots => kit_is)
    (case kt_InvalidSide_InvalidShots => kit_is)
    (case kt_InvalidSpot_InvalidShots => kit_is)
    (case kt_InvalidStretch_InvalidShots => kit_is)
    (case kt_InvalidStretches_InvalidShots => kit_is)
    (case kt_InvalidTable_InvalidShots => kit_is)
    (case kt_InvalidText_InvalidShots => kit_is)
    (case kt_InvalidTime_InvalidShots => kit_is)
    (case kt_NotABall_InvalidShots => kit_is)
    (case kt_NothingToUndo_InvalidShots => kit_is)
    (case kt_OtherTable_InvalidShots => kit_is)
    (case kt_ShotError_InvalidShots => kit_is)
    (case kt_TooMany_InvalidShots => kit_is)
    (case kv_InvalidShots => kit_is)
    (case x3_InvalidShots => k_is)
    (case x5_InvalidShots => k_is)
    (case x2_InvalidShots => k_exc)
    (case x4_InvalidBall => k_is)
    (case e4_InvalidBall => k_is)
    (case e1_InvalidBall => k_is)
    (case e2_InvalidBall => k_is)
    (case e3_InvalidBall => k_is)
    (case e5_InvalidBall => k_is)
    (case xkkInt_InvalidBall => kit_is)
    (case xkkBool_InvalidBall => kit_is)
    (case xkkStr_InvalidBall => kit_is)
    (case xkkTup_InvalidBall => kit_is)
    (case xkkLst_InvalidBall => kit_is)
    (case xkkDict_InvalidBall => kit_is)
    (case en_count_InvalidBall => k_is)
    (case en_time_InvalidBall => k_is)
    (case kt_AlwaysTogether_InvalidBall => kit_is)
    (case kt_BallsMeet_InvalidBall => kit_is)
    (case kt_InvalidBall_InvalidBall => kit_is)
    (case kt_InvalidBox_InvalidBall => kit_is)
    (case kt_InvalidChange_InvalidBall => kit_is)
    (case kt_InvalidCushion_InvalidBall => kit_is)
    (case kt_InvalidCushions_InvalidBall => kit_is)
    (case kt_InvalidIndex_InvalidBall => kit_is)
    (case kt_InvalidNumber_InvalidBall => kit_is)
    (case kt_InvalidPockets_InvalidBall => kit_is)
    (case kt_InvalidShot_InvalidBall => kit_is)
    (case kt_InvalidShots_InvalidBall => kit_is)
    (case kt_InvalidSide_InvalidBall => kit_is)
    (case kt_InvalidSpot_InvalidBall => kit_is)
    (case kt_InvalidStretch_InvalidBall => kit_is)
    (case kt_InvalidStretches_InvalidBall => kit_is)
    (case kt_InvalidTable_InvalidBall => kit_is)
    (case kt_InvalidText_InvalidBall => kit_is)
    (case kt_InvalidTime_InvalidBall => kit_is)
    (case kt_NotABall_InvalidBall => kit_is)
    (case kt_NothingToUndo_InvalidBall => kit_is)
    (case kt_OtherTable_InvalidBall => kit_is)
    (case kt_ShotError_InvalidBall => kit_is)
    (case kt_TooMany_InvalidBall => kit_is)
    (case kv_InvalidBall => kit_is)
    (case x3_InvalidBall => k_is)
    (case x5_InvalidBall => k_is)
    (case x2_InvalidBall => k_exc)
    (case x4_InvalidText => k_is)
    (case e4_InvalidText => k_is)
    (case e1_InvalidText => k_is)
    (case e2_InvalidText => k_is)
    (case e3_InvalidText => k_is)
    (case e5_InvalidText => k_is)
    (case xkkInt_InvalidText => kit_is)
    (case xkkBool_InvalidText => kit_is)
    (case xkkStr_InvalidText => kit_is)
    (case xkkTup_InvalidText => kit_is)
    (case xkkLst_InvalidText => kit_is)
    (case xkkDict_InvalidText => kit_is)
    (case en_count_InvalidText => k_is)
    (case en_time_InvalidText => k_is)
    (case kt_AlwaysTogether_InvalidText => kit_is)
    (case kt_BallsMeet_InvalidText => kit_is)
    (case kt_InvalidBall_InvalidText => kit_is)
    (case kt_InvalidBox_InvalidText => kit_is)
    (case kt_InvalidChange_InvalidText => kit_is)
    (case kt_InvalidCushion_InvalidText => kit_is)
    (case kt_InvalidCushions_InvalidText => kit_is)
    (case kt_InvalidIndex_InvalidText => kit_is)
    (case kt_InvalidNumber_InvalidText => kit_is)
    (case kt_InvalidPockets_InvalidText => kit_is)
    (case kt_InvalidShot_InvalidText => kit_is)
    (case kt_InvalidShots_InvalidText => kit_is)
    (case kt_InvalidSide_InvalidText => kit_is)
    (case kt_InvalidSpot_InvalidText => kit_is)
    (case kt_InvalidStretch_InvalidText => kit_is)
    (case kt_InvalidStretches_InvalidText => kit_is)
    (case kt_InvalidTable_InvalidText => kit_is)
    (case kt_InvalidText_InvalidText => kit_is)
    (case kt_InvalidTime_InvalidText => kit_is)
    (case kt_NotABall_InvalidText => kit_is)
    (case kt_NothingToUndo_InvalidText => kit_is)
    (case kt_OtherTable_InvalidText => kit_is)
    (case kt_ShotError_InvalidText => kit_is)
    (case kt_TooMany_InvalidText => kit_is)
    (case kv_InvalidText => kit_is)
    (case x3_InvalidText => k_is)
    (case x5_InvalidText => k_is)
    (case x2_InvalidText => k_exc)
    (case x4_InvalidChange => k_is)
    (case e4_InvalidChange => k_is)
    (case e1_InvalidChange => k_is)
    (case e2_InvalidChange => k_is)
    (case e3_InvalidChange => k_is)
    (case e5_InvalidChange => k_is)
    (case xkkInt_InvalidChange => kit_is)
    (case xkkBool_InvalidChange => kit_is)
    (case xkkStr_InvalidChange => kit_is)
    (case xkkTup_InvalidChange => kit_is)
    (case xkkLst_InvalidChange => kit_is)
    (case xkkDict_InvalidChange => kit_is)
    (case en_count_InvalidChange => k_is)
    (case en_time_InvalidChange => k_is)
    (case kt_AlwaysTogether_InvalidChange => kit_is)
    (case kt_BallsMeet_InvalidChange => kit_is)
    (case kt_InvalidBall_InvalidChange => kit_is)
    (case kt_InvalidBox_InvalidChange => kit_is)
    (case kt_InvalidChange_InvalidChange => kit_is)
    (case kt_InvalidCushion_InvalidChange => kit_is)
    (case kt_InvalidCushions_InvalidChange => kit_is)
    (case kt_InvalidIndex_InvalidChange => kit_is)
    (case kt_InvalidNumber_InvalidChange => kit_is)
    (case kt_InvalidPockets_InvalidChange => kit_is)
    (case kt_InvalidShot_InvalidChange => kit_is)
    (case kt_InvalidShots_InvalidChange => kit_is)
    (case kt_InvalidSide_InvalidChange => kit_is)
    (case kt_InvalidSpot_InvalidChange => kit_is)
    (case kt_InvalidStretch_InvalidChange => kit_is)
    (case kt_InvalidStretches_InvalidChange => kit_is)
    (case kt_InvalidTable_InvalidChange => kit_is)
    (case kt_InvalidText_InvalidChange => kit_is)
    (case kt_InvalidTime_InvalidChange => kit_is)
    (case kt_NotABall_InvalidChange => kit_is)
    (case kt_NothingToUndo_InvalidChange => kit_is)
    (case kt_OtherTable_InvalidChange => kit_is)
    (case kt_ShotError_InvalidChange => kit_is)
    (case kt_TooMany_InvalidChange => kit_is)
    (case kv_InvalidChange => kit_is)
    (case x3_InvalidChange => k_is)
    (case x5_InvalidChange => k_is)
    (case x2_InvalidChange => k_exc)
    (case x4_AlwaysTogether => k_is)
    (case e4_AlwaysTogether => k_is)
    (case e1_AlwaysTogether => k_is)
    (case e2_AlwaysTogether => k_is)
    (case e3_AlwaysTogether => k_is)
    (case e5_AlwaysTogether => k_is)
    (case xkkInt_AlwaysTogether => kit_is)
    (case xkkBool_AlwaysTogether => kit_is)
    (case xkkStr_AlwaysTogether => kit_is)
    (case xkkTup_AlwaysTogether => kit_is)
    (case xkkLst_AlwaysTogether => kit_is)
    (case xkkDict_AlwaysTogether => kit_is)
    (case en_count_AlwaysTogether => k_is)
    (case en_time_AlwaysTogether => k_is)
    (case kt_AlwaysTogether_AlwaysTogether => kit_is)
    (case kt_BallsMeet_AlwaysTogether => kit_is)
    (case kt_InvalidBall_AlwaysTogether => kit_is)
    (case kt_InvalidBox_AlwaysTogether => kit_is)
    (case kt_InvalidChange_AlwaysTogether => kit_is)
    (case kt_InvalidCushion_AlwaysTogether => kit_is)
    (case kt_InvalidCushions_AlwaysTogether => kit_is)
    (case kt_InvalidIndex_AlwaysTogether => kit_is)
    (case kt_InvalidNumber_AlwaysTogether => kit_is)
    (case kt_InvalidPockets_AlwaysTogether => kit_is)
    (case kt_InvalidShot_AlwaysTogether => kit_is)
    (case kt_InvalidShots_AlwaysTogether => kit_is)
    (case kt_InvalidSide_AlwaysTogether => kit_is)
    (case kt_InvalidSpot_AlwaysTogether => kit_is)
    (case kt_InvalidStretch_AlwaysTogether => kit_is)
    (case kt_InvalidStretches_AlwaysTogether => kit_is)
    (case kt_InvalidTable_AlwaysTogether => kit_is)
    (case kt_InvalidText_AlwaysTogether => kit_is)
    (case kt_InvalidTime_AlwaysTogether => kit_is)
    (case kt_NotABall_AlwaysTogether => kit_is)
    (case kt_NothingToUndo_AlwaysTogether => kit_is)
    (case kt_OtherTable_AlwaysTogether => kit_is)
    (case kt_ShotError_AlwaysTogether => kit_is)
    (case kt_TooMany_AlwaysTogether => kit_is)
    (case kv_AlwaysTogether => kit_is)
    (case x3_AlwaysTogether => k_is)
    (case x5_AlwaysTogether => k_is)
    (case x2_AlwaysTogether => k_exc)
    (case x4_NotABall => k_is)
    (case e4_NotABall => k_is)
    (case e1_NotABall => k_is)
    (case e2_NotABall => k_is)
    (case e3_NotABall => k_is)
    (case e5_NotABall => k_is)
    (case xkkInt_NotABall => kit_is)
    (case xkkBool_NotABall => kit_is)
    (case xkkStr_NotABall => kit_is)
    (case xkkTup_NotABall => kit_is)
    (case xkkLst_NotABall => kit_is)
    (case xkkDict_NotABall => kit_is)
    (case en_count_NotABall => k_is)
    (case en_time_NotABall => k_is)
    (case kt_AlwaysTogether_NotABall => kit_is)
    (case kt_BallsMeet_NotABall => kit_is)
    (case kt_InvalidBall_NotABall => kit_is)
    (case kt_InvalidBox_NotABall => kit_is)
    (case kt_InvalidChange_NotABall => kit_is)
    (case kt_InvalidCushion_NotABall => kit_is)
    (case kt_InvalidCushions_NotABall => kit_is)
    (case kt_InvalidIndex_NotABall => kit_is)
    (case kt_InvalidNumber_NotABall => kit_is)
    (case kt_InvalidPockets_NotABall => kit_is)
    (case kt_InvalidShot_NotABall => kit_is)
    (case kt_InvalidShots_NotABall => kit_is)
    (case kt_InvalidSide_NotABall => kit_is)
    (case kt_InvalidSpot_NotABall => kit_is)
    (case kt_InvalidStretch_NotABall => kit_is)
    (case kt_InvalidStretches_NotABall => kit_is)
    (case kt_InvalidTable_NotABall => kit_is)
    (case kt_InvalidText_NotABall => kit_is)
    (case kt_InvalidTime_NotABall => kit_is)
    (case kt_NotABall_NotABall => kit_is)
    (case kt_NothingToUndo_NotABall => kit_is)
    (case kt_OtherTable_NotABall => kit_is)
    (case kt_ShotError_NotABall => kit_is)
    (case kt_TooMany_NotABall => kit_is)
    (case kv_NotABall => kit_is)
    (case x3_NotABall => k_is)
    (case x5_NotABall => k_is)
    (case x2_NotABall => k_exc)
    (case x4_OtherTable => k_is)
    (case e4_OtherTable => k_is)
    (case e1_OtherTable => k_is)
    (case e2_OtherTable => k_is)
    (case e3_OtherTable => k_is)
    (case e5_OtherTable => k_is)
    (case xkkInt_OtherTable => kit_is)
    (case xkkBool_OtherTable => kit_is)
    (case xkkStr_OtherTable => kit_is)
    (case xkkTup_OtherTable => kit_is)
    (case xkkLst_OtherTable => kit_is)
    (case xkkDict_OtherTable => kit_is)
    (case en_count_OtherTable => k_is)
    (case en_time_OtherTable => k_is)
    (case kt_AlwaysTogether_OtherTable => kit_is)
    (case kt_BallsMeet_OtherTable => kit_is)
    (case kt_InvalidBall_OtherTable => kit_is)
    (case kt_InvalidBox_OtherTable => kit_is)
    (case kt_InvalidChange_OtherTable => kit_is)
    (case kt_InvalidCushion_OtherTable => kit_is)
    (case kt_InvalidCushions_OtherTable => kit_is)
    (case kt_InvalidIndex_OtherTable => kit_is)
    (case kt_InvalidNumber_OtherTable => kit_is)
    (case kt_InvalidPockets_OtherTable => kit_is)
    (case kt_InvalidShot_OtherTable => kit_is)
    (case kt_InvalidShots_OtherTable => kit_is)
    (case kt_InvalidSide_OtherTable => kit_is)
    (case kt_InvalidSpot_OtherTable => kit_is)
    (case kt_InvalidStretch_OtherTable => kit_is)
    (case kt_InvalidStretches_OtherTable => kit_is)
    (case kt_InvalidTable_OtherTable => kit_is)
    (case kt_InvalidText_OtherTable => kit_is)
    (case kt_InvalidTime_OtherTable => kit_is)
    (case kt_NotABall_OtherTable => kit_is)
    (case kt_NothingToUndo_OtherTable => kit_is)
    (case kt_OtherTable_OtherTable => kit_is)
    (case kt_ShotError_OtherTable => kit_is)
    (case kt_TooMany_OtherTable => kit_is)
    (case kv_OtherTable => kit_is)
    (case x3_OtherTable => k_is)
    (case x5_OtherTable => k_is)
    (case x2_OtherTable => k_exc)
    (case x4_NothingToUndo => k_is)
    (case e4_NothingToUndo => k_is)
    (case e1_NothingToUndo => k_is)
    (case e2_NothingToUndo => k_is)
    (case e3_NothingToUndo => k_is)
    (case e5_NothingToUndo => k_is)
    (case xkkInt_NothingToUndo => kit_is)
    (case xkkBool_NothingToUndo => kit_is)
    (case xkkStr_NothingToUndo => kit_is)
    (case xkkTup_NothingToUndo => kit_is)
    (case xkkLst_NothingToUndo => kit_is)
    (case xkkDict_NothingToUndo => kit_is)
    (case en_count_NothingToUndo => k_is)
    (case en_time_NothingToUndo => k_is)
    (case kt_AlwaysTogether_NothingToUndo => kit_is)
    (case kt_BallsMeet_NothingToUndo => kit_is)
    (case kt_InvalidBall_NothingToUndo => kit_is)
    (case kt_InvalidBox_NothingToUndo => kit_is)
    (case kt_InvalidChange_NothingToUndo => kit_is)
    (case kt_InvalidCushion_NothingToUndo => kit_is)
    (case kt_InvalidCushions_NothingToUndo => kit_is)
    (case kt_InvalidIndex_NothingToUndo => kit_is)
    (case kt_InvalidNumber_NothingToUndo => kit_is)
    (case kt_InvalidPockets_NothingToUndo => kit_is)
    (case kt_InvalidShot_NothingToUndo => kit_is)
    (case kt_InvalidShots_NothingToUndo => kit_is)
    (case kt_InvalidSide_NothingToUndo => kit_is)
    (case kt_InvalidSpot_NothingToUndo => kit_is)
    (case kt_InvalidStretch_NothingToUndo => kit_is)
    (case kt_InvalidStretches_NothingToUndo => kit_is)
    (case kt_InvalidTable_NothingToUndo => kit_is)
    (case kt_InvalidText_NothingToUndo => kit_is)
    (case kt_InvalidTime_NothingToUndo => kit_is)
    (case kt_NotABall_NothingToUndo => kit_is)
    (case kt_NothingToUndo_NothingToUndo => kit_is)
    (case kt_OtherTable_NothingToUndo => kit_is)
    (case kt_ShotError_NothingToUndo => kit_is)
    (case kt_TooMany_NothingToUndo => kit_is)
    (case kv_NothingToUndo => kit_is)
    (case x3_NothingToUndo => k_is)
    (case x5_NothingToUndo => k_is)
    (case x2_NothingToUndo => k_exc)
    (case x4_BallsMeet => k_is)
    (case e4_BallsMeet => k_is)
    (case e1_BallsMeet => k_is)
    (case e2_BallsMeet => k_is)
    (case e3_BallsMeet => k_is)
    (case e5_BallsMeet => k_is)
    (case xkkInt_BallsMeet => kit_is)
    (case xkkBool_BallsMeet => kit_is)
    (case xkkStr_BallsMeet => kit_is)
    (case xkkTup_BallsMeet => kit_is)
    (case xkkLst_BallsMeet => kit_is)
    (case xkkDict_BallsMeet => kit_is)
    (case en_count_BallsMeet => k_is)
    (case en_time_BallsMeet => k_is)
    (case kt_AlwaysTogether_BallsMeet => kit_is)
    (case kt_BallsMeet_BallsMeet => kit_is)
    (case kt_InvalidBall_BallsMeet => kit_is)
    (case kt_InvalidBox_BallsMeet => kit_is)
    (case kt_InvalidChange_BallsMeet => kit_is)
    (case kt_InvalidCushion_BallsMeet => kit_is)
    (case kt_InvalidCushions_BallsMeet => kit_is)
    (case kt_InvalidIndex_BallsMeet => kit_is)
    (case kt_InvalidNumber_BallsMeet => kit_is)
    (case kt_InvalidPockets_BallsMeet => kit_is)
    (case kt_InvalidShot_BallsMeet => kit_is)
    (case kt_InvalidShots_BallsMeet => kit_is)
    (case kt_InvalidSide_BallsMeet => kit_is)
    (case kt_InvalidSpot_BallsMeet => kit_is)
    (case kt_InvalidStretch_BallsMeet => kit_is)
    (case kt_InvalidStretches_BallsMeet => kit_is)
    (case kt_InvalidTable_BallsMeet => kit_is)
    (case kt_InvalidText_BallsMeet => kit_is)
    (case kt_InvalidTime_BallsMeet => kit_is)
    (case kt_NotABall_BallsMeet => kit_is)
    (case kt_NothingToUndo_BallsMeet => kit_is)
    (case kt_OtherTable_BallsMeet => kit_is)
    (case kt_ShotError_BallsMeet => kit_is)
    (case kt_TooMany_BallsMeet => kit_is)
    (case kv_BallsMeet => kit_is)
    (case x3_BallsMeet => k_is)
    (case x5_BallsMeet => k_is)
    (case x4_TooMany => k_is)
    (case e4_TooMany => k_is)
    (case e1_TooMany => k_is)
    (case e2_TooMany => k_is)
    (case e3_TooMany => k_is)
    (case e5_TooMany => k_is)
    (case xkkInt_TooMany => kit_is)
    (case xkkBool_TooMany => kit_is)
    (case xkkStr_TooMany => kit_is)
    (case xkkTup_TooMany => kit_is)
    (case xkkLst_TooMany => kit_is)
    (case xkkDict_TooMany => kit_is)
    (case en_count_TooMany => k_is)
    (case en_time_TooMany => k_is)
    (case kt_AlwaysTogether_TooMany => kit_is)
    (case kt_BallsMeet_TooMany => kit_is)
    (case kt_InvalidBall_TooMany => kit_is)
    (case kt_InvalidBox_TooMany => kit_is)
    (case kt_InvalidChange_TooMany => kit_is)
    (case kt_InvalidCushion_TooMany => kit_is)
    (case kt_InvalidCushions_TooMany => kit_is)
    (case kt_InvalidIndex_TooMany => kit_is)
    (case kt_InvalidNumber_TooMany => kit_is)
    (case kt_InvalidPockets_TooMany => kit_is)
    (case kt_InvalidShot_TooMany => kit_is)
    (case kt_InvalidShots_TooMany => kit_is)
    (case kt_InvalidSide_TooMany => kit_is)
    (case kt_InvalidSpot_TooMany => kit_is)
    (case kt_InvalidStretch_TooMany => kit_is)
    (case kt_InvalidStretches_TooMany => kit_is)
    (case kt_InvalidTable_TooMany => kit_is)
    (case kt_InvalidText_TooMany => kit_is)
    (case kt_InvalidTime_TooMany => kit_is)
    (case kt_NotABall_TooMany => kit_is)
    (case kt_NothingToUndo_TooMany => kit_is)
    (case kt_OtherTable_TooMany => kit_is)
    (case kt_ShotError_TooMany => kit_is)
    (case kt_TooMany_TooMany => kit_is)
    (case kv_TooMany => kit_is)
    (case x3_TooMany => k_is)
    (case x5_TooMany => k_is)
    (case hn_ => k_is)
    (case ht_ => k_is)
    (case opq_ => k_is)
    (case sup_ => k_is)
    (case top_ => rfl)
    (case i1_BallsMeet => k_is)
    (case lx_BallsMeet => k_is)
    (case cx_BallsMeet => k_is)
    (case lcx_BallsMeet => k_is)
    (case llx_BallsMeet => k_is)
    (case vvx_BallsMeet => rfl)
    (case ffx_BallsMeet => rfl)
    (case t1_BallsMeet => k_is)
    (case ss_BallsMeet => ks_is)
    (case sb_BallsMeet => k_is)
    (case sm_BallsMeet => k_is)
    (case sa_BallsMeet => k_is)
    (case lo_BallsMeet => k_is)
    (case rv_BallsMeet => decide +kernel)
    (case i1_TooMany => k_is)
    (case lx_TooMany => k_is)
    (case cx_TooMany => k_is)
    (case lcx_TooMany => k_is)
    (case llx_TooMany => k_is)
    (case vvx_TooMany => rfl)
    (case ffx_TooMany => rfl)
    (case t1_TooMany => k_is)
    (case ss_TooMany => ks_is)
    (case sb_TooMany => k_is)
    (case sm_TooMany => k_is)
    (case sa_TooMany => k_is)
    (case lo_TooMany => k_is)
    (case rv_TooMany => decide +kernel)
