import PyProof.Rows.All
import Wide.All
import OpenK.AllK
import Wide.FinOn
import PyProof.EqLayable
import PyProof.EqAt
import PyProof.EqKinds
import PyProof.TupleCall
import HandS.ForExc
import HandS.Comp
import HandS.Iter
import HandS.Text
import HandS.Walk
import HandS.Wide
import HandS.IsInst
import HandS.Gcd
import HandS.TupAny
import HandS.Zip
import HandS.Rev
import HandS.ExcIs
import PyProof.Conv_int
import HandS.Dict
import PyProof.ReprReads
import PyProof.CallFns
import HandS.Style
import HandS.EndBits
import KE.KRevSl
import HandS.TupLe
import HandS.Conv
import HandS.SetFor
import KE.KTupSum
import KE.KMathG
import HandS.SortKw
import KE.DatumOrd
import HandS.Strs
import KE.GoesEnum
import KE.GoesZip
import HandS.SortInts
import HandS.Replace
import HandS.StrMore
import PySem.Challenge.RW_cushionshots_k31_texts_of_tables_and_sho
set_option Elab.async false
set_option linter.all false
set_option maxRecDepth 100000
set_option maxHeartbeats 4000000
namespace DL
open PySem
/-- what a slot holds: nothing known | frozen data | a list that nobody else holds | the law's well, with a budget of draws | the script | a caught error, at a -/
inductive S where
  | no | va (d : PyData) | own (ds : List PyData) | well (n : Nat) | scr (ns : List Int) | exc (a : Addr)
  /-- an instance of the class c that nobody else holds, its attributes -/
  | ins (c : Str) (es : List PyData)
abbrev DSt := List S
/-- a frozen instance of the class c: its attributes, a name and a value each -/
abbrev objD (c : Str) (es : List PyData) : PyData := .dict [(.none, .tuple (.str c :: es))]
/-- an attribute -/
def fget (n : Str) : List PyData → Option PyData
  | .tuple [.str m, d] :: r => if n = m then some d else fget n r
  | _ => none
def fput (n : Str) (v : PyData) : List PyData → List PyData
  | .tuple [.str m, d] :: r => if m = n then .tuple [.str m, v] :: r else .tuple [.str m, d] :: fput n v r
  | _ => [.tuple [.str n, v]]
/-- the three numbers of a well that stands for n more draws -/
structure WellOk (n : Nat) (a b c : Int) : Prop where
  a0 : 0 ≤ a
  a1 : a.natAbs < 2 ^ 1100000
  b0 : 0 ≤ b
  b1 : b < 2 ^ 150
  c0 : 0 ≤ c
  c1 : c + n < 2 ^ 64
def sget : DSt → Nat → S
  | [], _ => .no
  | s :: _, 0 => s
  | _ :: r, n + 1 => sget r n
def sset : DSt → Nat → S → DSt
  | [], _, _ => []
  | _ :: r, 0, s => s :: r
  | x :: r, n + 1, s => x :: sset r n s
/-- the slots is forgotten -/
def swipe : DSt → List Nat → DSt
  | sd, [] => sd
  | sd, i :: is => sset (swipe sd is) i .no
/-- the slots is put back from s0 -/
def sback (s0 : DSt) : DSt → List Nat → DSt
  | sd, [] => sd
  | sd, i :: is => sset (sback s0 sd is) i (sget s0 i)
abbrev ME := DSt → (PyData → DSt → Prop) → Prop
abbrev MT := DSt → (Bool → DSt → Prop) → Prop
abbrev MA := DSt → (List PyData → DSt → Prop) → Prop
abbrev MR := DSt → (S → DSt → Prop) → Prop
abbrev MI := DSt → (List PyData → DSt → Prop) → Prop
abbrev MG := PyData → DSt → (DSt → Prop) → Prop
abbrev MGs := List PyData → DSt → (DSt → Prop) → Prop
/-- what is wished of a raise: the class's name, the state -/
abbrev WD := String → DSt → Prop
structure DE where
  nx : DSt → Prop
  rt : S → DSt → Prop
  bk : DSt → Prop := fun _ => False
  ct : DSt → Prop := fun _ => False
abbrev MS := DE → DSt → Prop
/-- a def's promise: no well | with the well as its first argument -/
abbrev PSpec := List PyData → (S → Prop) → (String → Prop) → Prop
abbrev WSpec := Nat → List PyData → (S → Nat → Prop) → Prop
def fz : S → Option PyData
  | .va d => some d
  | .own ds => some (.list ds)
  | _ => none
def mC (d : PyData) : ME := fun sd Q => Q d sd
def mVar (i : Nat) : ME := fun sd Q => match sget sd i with
  | .va d => Q d sd
  | .own ds => Q (.list ds) (sset sd i (.va (.list ds)))
  | _ => False
def mOp2 (f : PyData → PyData → Option PyData) (ma mb : ME) : ME := fun sd Q => ma sd fun a s1 => mb s1 fun b s2 => ∃ r, f a b = some r ∧ Q r s2
def mOp1 (f : PyData → Option PyData) (ma : ME) : ME := fun sd Q => ma sd fun a s1 => ∃ r, f a = some r ∧ Q r s1
def mAnd (ma mb : ME) : ME := fun sd Q => ma sd fun a s1 => ∃ c, a = .bool c ∧ if c = true then mb s1 Q else Q (.bool false) s1
def mOr (ma mb : ME) : ME := fun sd Q => ma sd fun a s1 => ∃ c, a = .bool c ∧ if c = true then Q (.bool true) s1 else mb s1 Q
def mNot (ma : ME) : ME := fun sd Q => ma sd fun a s1 => ∃ c, a = .bool c ∧ Q (.bool (!c)) s1
def mIfE (mt : MT) (ma mb : ME) : ME := fun sd Q => mt sd fun c s1 => if c = true then ma s1 Q else mb s1 Q
/-- a < b < c: f a b, then g b c -/
def mChain (f g : PyData → PyData → Option PyData) (ma mb mc : ME) : ME := fun sd Q => ma sd fun a s1 => mb s1 fun b s2 => ∃ c, f a b = some (.bool c) ∧ if c = true then mc s2 fun d s3 => ∃ r, g b d = some r ∧ Q r s3 else Q (.bool false) s2
def mNil : MA := fun sd Q => Q [] sd
def mCons (me : ME) (ma : MA) : MA := fun sd Q => me sd fun d s1 => ma s1 fun ds s2 => Q (d :: ds) s2
def mTup (ma : MA) : ME := fun sd Q => ma sd fun ds s1 => ds.length ≤ 100000 ∧ Q (.tuple ds) s1
def mLst (ma : MA) : ME := fun sd Q => ma sd fun ds s1 => ds.length ≤ 100000 ∧ Q (.list ds) s1
def mCallB (f : List PyData → Option PyData) (ma : MA) : ME := fun sd Q => ma sd fun ds s1 => ∃ r, f ds = some r ∧ Q r s1
def mDict0 : ME := fun sd Q => Q (.dict []) sd
/-- a slice: parts given or left out -/
def mPart (me : ME) : DSt → (Option Int → DSt → Prop) → Prop := fun sd Q => me sd fun d s1 => ∃ i, d = .int i ∧ Q (some i) s1
def mNoPart : DSt → (Option Int → DSt → Prop) → Prop := fun sd Q => Q none sd
def mSl (f : PyData → Option Int → Option Int → Option PyData) (me : ME) (ml mh : DSt → (Option Int → DSt → Prop) → Prop) : ME :=
  fun sd Q => me sd fun d s1 => ml s1 fun l s2 => mh s2 fun h s3 => ∃ r, f d l h = some r ∧ Q r s3
/-- a call of an own def -/
def mCall (spec : PSpec) (W : WD) (ma : MA) : ME := fun sd Q => ma sd fun ds s1 => spec ds (fun r => ∃ d, fz r = some d ∧ Q d s1) (fun c => W c s1)
/-- .. by keywords: the arguments as they are given, then put into the def's order -/
def mCallK (spec : PSpec) (W : WD) (g : List PyData → List PyData → List PyData) (ma mk : MA) : ME :=
  fun sd Q => ma sd fun ds s1 => mk s1 fun es s2 => spec (g ds es) (fun r => ∃ d, fz r = some d ∧ Q d s2) (fun c => W c s2)
/-- .. with the well in slot i as its first argument -/
def mCallW (spec : WSpec) (i : Nat) (ma : MA) : ME := fun sd Q => (∃ n, sget sd i = .well n) ∧ ma sd fun ds s1 => ∃ n, sget s1 i = .well n ∧ spec n ds fun r n' => ∃ d, fz r = some d ∧ Q d (sset s1 i (.well n'))
/-- len of a list that is still owned -/
def mLenOwn (i : Nat) : ME := fun sd Q => ∃ ds, sget sd i = .own ds ∧ Q (.int (ds.length : Int)) sd
/-- len of the script; an item of it; the well that is made from it -/
def mLenScr (i : Nat) : ME := fun sd Q => ∃ ns, sget sd i = .scr ns ∧ Q (.int (ns.length : Int)) sd
def mT (me : ME) : MT := fun sd Q => me sd fun d s1 => ∃ c, d = .bool c ∧ Q c s1
def mTAnd (t u : MT) : MT := fun sd Q => t sd fun c s1 => if c = true then u s1 Q else Q false s1
def mTOr (t u : MT) : MT := fun sd Q => t sd fun c s1 => if c = true then Q true s1 else u s1 Q
def mTNot (t : MT) : MT := fun sd Q => t sd fun c s1 => Q (!c) s1
def mTYes : MT := fun sd Q => Q true sd
def mrOf (me : ME) : MR := fun sd Q => me sd fun d s1 => Q (.va d) s1
def mrLst (ma : MA) : MR := fun sd Q => ma sd fun ds s1 => ds.length ≤ 100000 ∧ Q (.own ds) s1
def mrCall (spec : PSpec) (W : WD) (ma : MA) : MR := fun sd Q => ma sd fun ds s1 => spec ds (fun r => Q r s1) (fun c => W c s1)
def mgName (i : Nat) : MG := fun d sd Q => Q (sset sd i (.va d))
def mgNil : MGs := fun ds sd Q => ds = [] ∧ Q sd
def mgCons (g : MG) (gs : MGs) : MGs := fun ds sd Q => ∃ d r, ds = d :: r ∧ g d sd fun s1 => gs r s1 Q
def items : PyData → Option (List PyData)
  | .tuple ds => some ds
  | .list ds => some ds
  | _ => none
def mgTup (n : Nat) (gs : MGs) : MG := fun d sd Q => ∃ ds, items d = some ds ∧ ds.length = n ∧ gs ds sd Q
def miSeq (me : ME) : MI := fun sd Q => me sd fun d s1 => ∃ ds, items d = some ds ∧ Q ds s1
def rangeL (lo : Int) (n : Nat) : List PyData := (List.range n).map fun i : Nat => .int (lo + (i : Int))
def miRng1 (ma : MA) : MI := fun sd Q => ma sd fun ds s1 => ∃ j : Int, ds = [.int j] ∧ -(2 ^ 62) ≤ j ∧ j < 2 ^ 62 ∧ Q (rangeL 0 j.toNat) s1
def miRng2 (ma : MA) : MI := fun sd Q => ma sd fun ds s1 => ∃ i j : Int, ds = [.int i, .int j] ∧ (-(2 ^ 62) ≤ i ∧ i < 2 ^ 62 ∧ -(2 ^ 62) ≤ j ∧ j < 2 ^ 62) ∧ Q (rangeL i (j - i).toNat) s1
def signsD (z : Str) : List PyData := z.cps.toList.map fun c => .str ⟨#[c]⟩
def miStr (me : ME) : MI := fun sd Q => me sd fun d s1 => ∃ z, d = .str z ∧ Q (signsD z) s1
def enumL : Nat → List PyData → List PyData
  | _, [] => []
  | k, d :: ds => .tuple [.int (k : Int), d] :: enumL (k + 1) ds
def miEnum (ma : MA) : MI := fun sd Q => ma sd fun ds s1 => ∃ xs, ds = [.list xs] ∧ Q (enumL 0 xs) s1
def zipL : List PyData → List PyData → List PyData
  | x :: xs, y :: ys => .tuple [x, y] :: zipL xs ys
  | _, _ => []
def miZip (ma : MA) : MI := fun sd Q => ma sd fun ds s1 => ∃ xs ys, (ds = [.list xs, .list ys] ∨ ds = [.tuple xs, .tuple ys]) ∧ Q (zipL xs ys) s1
def miRev (me : ME) : MI := fun sd Q => me sd fun d s1 => ∃ ds, items d = some ds ∧ Q ds.reverse s1
def lcL (mg : MG) (mt : MT) (me : ME) (vs : List Nat) (Q : List PyData → DSt → Prop) : List PyData → DSt → List PyData → Prop
  | [], s, acc => Q acc s
  | d :: ds, s, acc => mg d (swipe s vs) fun s1 => mt s1 fun b s2 => if b = true then me s2 fun y s3 => acc.length < 100000 ∧ lcL mg mt me vs Q ds s3 (acc ++ [y]) else lcL mg mt me vs Q ds s2 acc
def unOwn (s : DSt) (vs : List Nat) : Bool := vs.all fun j => match sget s j with
  | .own _ => false
  | .well _ => false
  | .ins _ _ => false
  | _ => true
def mLc (mi : MI) (mg : MG) (mt : MT) (me : ME) (vs : List Nat) : ME := fun sd Q => mi sd fun ds s => unOwn s vs = true ∧ lcL mg mt me vs (fun out s' => Q (.list out) (sback s s' vs)) ds s []
def mrLc (mi : MI) (mg : MG) (mt : MT) (me : ME) (vs : List Nat) : MR := fun sd Q => mi sd fun ds s => unOwn s vs = true ∧ lcL mg mt me vs (fun out s' => Q (.own out) (sback s s' vs)) ds s []
def mNext : MS := fun D sd => D.nx sd
def mBreak : MS := fun D sd => D.bk sd
def mCont : MS := fun D sd => D.ct sd
def mSeq (a b : MS) : MS := fun D sd => a { D with nx := b D } sd
def mAsg (me : ME) (mg : MG) : MS := fun D sd => me sd fun d s1 => mg d s1 D.nx
def mAsgR (i : Nat) (mr : MR) : MS := fun D sd => mr sd fun r s1 => D.nx (sset s1 i r)
/-- a, b = x, y: the values in their order, then the slots -/
def mrs : List MR → DSt → (List S → DSt → Prop) → Prop
  | [], sd, Q => Q [] sd
  | m :: ms, sd, Q => m sd fun r s1 => mrs ms s1 fun rs s2 => Q (r :: rs) s2
def ssets : DSt → List Nat → List S → DSt
  | sd, i :: is, r :: rs => ssets (sset sd i r) is rs
  | sd, _, _ => sd
def mAsgM (is : List Nat) (ms : List MR) : MS := fun D sd => mrs ms sd fun rs s1 => rs.length = is.length ∧ D.nx (ssets s1 is rs)
def mIf (t : MT) (a b : MS) : MS := fun D sd => t sd fun c s1 => if c = true then a D s1 else b D s1
def mRet (mr : MR) : MS := fun D sd => mr sd D.rt
def mRetOwn (i : Nat) : MR := fun sd Q => match sget sd i with
  | .own ds => Q (.own ds) sd
  | .well n => Q (.well n) sd
  | _ => False
def mRetN : MS := fun D sd => D.rt (.va .none) sd
def mDrop (me : ME) : MS := fun D sd => me sd fun _ s1 => D.nx s1
def mApp (i : Nat) (me : ME) : MS := fun D sd => (∃ ds, sget sd i = .own ds) ∧ me sd fun d s1 => ∃ ds, sget s1 i = .own ds ∧ ds.length < 100000 ∧ D.nx (sset s1 i (.own (ds ++ [d])))
def forL (mg : MG) (body : MS) (D : DE) : List PyData → DSt → Prop
  | [], s => D.nx s
  | d :: ds, s => mg d s fun s1 => body { D with nx := forL mg body D ds, ct := forL mg body D ds, bk := D.nx } s1
def mFor (mi : MI) (mg : MG) (body : MS) : MS := fun D sd => mi sd fun ds s => forL mg body D ds s
def whileN (t : MT) (body : MS) (D : DE) : Nat → DSt → Prop
  | 0, _ => False
  | n + 1, s => t s fun b s1 => if b = true then body { D with nx := whileN t body D n, ct := whileN t body D n, bk := D.nx } s1 else D.nx s1
def mWhile (t : MT) (body : MS) : MS := fun D sd => ∃ n, whileN t body D n sd
def mRaise (c : String) (W : WD) : MS := fun _ sd => W c sd
def small (a b : Int) : Bool := decide (a.natAbs.log2 + b.natAbs.log2 < 1000000)
def opAdd : PyData → PyData → Option PyData
  | .int a, .int b => some (.int (a + b))
  | .str a, .str b => if a.length + b.length ≤ 100000 then some (.str (a ++ b)) else none
  | .list a, .list b => if a.length + b.length ≤ 100000 then some (.list (a ++ b)) else none
  | .tuple a, .tuple b => if a.length + b.length ≤ 100000 then some (.tuple (a ++ b)) else none
  | _, _ => none
def opSub : PyData → PyData → Option PyData
  | .int a, .int b => some (.int (a - b))
  | _, _ => none
def opMul : PyData → PyData → Option PyData
  | .int a, .int b => if small a b = true then some (.int (a * b)) else none
  | .list a, .int k => if 0 ≤ k ∧ k ≤ 1000 ∧ a.length ≤ 1000 then some (.list (List.replicate k.toNat a).flatten) else none
  | _, _ => none
def opMod : PyData → PyData → Option PyData
  | .int a, .int b => if 0 < b then some (.int (a % b)) else none
  | _, _ => none
def opFdiv : PyData → PyData → Option PyData
  | .int a, .int b => if 0 < b ∧ b.natAbs.log2 < 9000 then some (.int (a / b)) else none
  | _, _ => none
def cmpI (p : Int → Int → Bool) : PyData → PyData → Option PyData
  | .int a, .int b => some (.bool (p a b))
  | _, _ => none
def opLt := cmpI fun a b => decide (a < b)
def opLe := cmpI fun a b => decide (a ≤ b)
def opGt := cmpI fun a b => decide (b < a)
def opGe := cmpI fun a b => decide (b ≤ a)
def strs? : PyData → PyData → Option (Str × Str)
  | .str x, .str y => some (x, y)
  | _, _ => none
def opEq (a b : PyData) : Option PyData := if (SeqAt.shaped a && SeqAt.shaped b) = true then some (.bool (PyData.eqv a b)) else (strs? a b).map fun p => .bool (decide (p.1 = p.2))
def opNe (a b : PyData) : Option PyData := if (SeqAt.shaped a && SeqAt.shaped b) = true then some (.bool (!PyData.eqv a b)) else (strs? a b).map fun p => .bool (!decide (p.1 = p.2))
def isN : PyData → Bool
  | .none => true
  | _ => false
/-- x is None, x is not None -/
def opIsN2 (a : PyData) : PyData → Option PyData
  | .none => some (.bool (isN a))
  | _ => none
def opNotN2 (a : PyData) : PyData → Option PyData
  | .none => some (.bool (!isN a))
  | _ => none
/-- x is True, where x is a bool -/
def opIsB : PyData → PyData → Option PyData
  | .bool a, .bool b => some (.bool (decide (a = b)))
  | _, _ => none
def opNotB : PyData → PyData → Option PyData
  | .bool a, .bool b => some (.bool (!decide (a = b)))
  | _, _ => none
def opPow : PyData → PyData → Option PyData
  | .int a, .int b => if 0 ≤ b ∧ b ≤ 100 ∧ a.natAbs < 2 ^ 10000 then some (.int (a ^ b.toNat)) else none
  | _, _ => none
def flatD : PyData → Bool
  | .none | .bool _ | .int _ | .str _ => true
  | _ => false
/-- x in a list or a tuple of flat things -/
def opInS (neg : Bool) (a b : PyData) : Option PyData := (items b).bind fun ds => if (flatD a && ds.all flatD) = true then some (.bool (if neg then !ds.any (fun d => PyData.eqv d a) else ds.any fun d => PyData.eqv d a)) else none
/-- .. or one sign in a text -/
def sign? (z : Str) : Option Nat := match z.cps.toList with
  | [c] => some c
  | _ => none
theorem sign_of {z : Str} {c : Nat} (h : sign? z = some c) : z = ⟨#[c]⟩ := by
  unfold sign? at h
  split at h
  · rename_i c' e
    cases h
    obtain ⟨⟨l⟩⟩ := z
    have e' : l = [c] := e
    rw [e']
  · cases h
def opIn : PyData → PyData → Option PyData
  | .str c, .str z => (sign? c).map fun c => .bool (decide (c ∈ z.cps.toList))
  | a, b => opInS false a b
def opNotIn : PyData → PyData → Option PyData
  | .str c, .str z => (sign? c).map fun c => .bool (!decide (c ∈ z.cps.toList))
  | a, b => opInS true a b
def opNeg : PyData → Option PyData
  | .int a => some (.int (-a))
  | _ => none
def ixN (n : Nat) (i : Int) : Option Nat := if 0 ≤ i then (if i < n then some i.toNat else none) else if -(n : Int) ≤ i then some (i + n).toNat else none
def atI {α : Type} (xs : List α) (i : Int) : Option α := (ixN xs.length i).bind fun j => xs[j]?
def opIx : PyData → PyData → Option PyData
  | .list xs, .int i => atI xs i
  | .tuple xs, .int i => atI xs i
  | .str z, .int i => if z.length ≤ 100000 then (atI z.cps.toList i).map fun c => .str ⟨#[c]⟩ else none
  | _, _ => none
def sIx (n d : Nat) : Option Int → Nat
  | .none => d
  | .some v => if v < 0 then (v + (n : Int)).toNat else min v.toNat n
def cutL {α : Type} (xs : List α) (lo hi : Option Int) : List α := (xs.drop (sIx xs.length 0 lo)).take (sIx xs.length xs.length hi - sIx xs.length 0 lo)
def opSl (d : PyData) (lo hi : Option Int) : Option PyData := match d with
  | .list xs => some (.list (cutL xs lo hi))
  | .tuple xs => some (.tuple (cutL xs lo hi))
  | .str z => if z.length ≤ 100000 then some (.str ⟨(cutL z.cps.toList lo hi).toArray⟩) else none
  | _ => none
/-- x[::-1] -/
def opRev : PyData → Option PyData
  | .list xs => some (.list xs.reverse)
  | .tuple xs => some (.tuple xs.reverse)
  | _ => none
def bLen : List PyData → Option PyData
  | [.list xs] => some (.int (xs.length : Int))
  | [.tuple xs] => some (.int (xs.length : Int))
  | [.str z] => if z.length ≤ 100000 then some (.int (z.length : Int)) else none
  | _ => none
def bAbs : List PyData → Option PyData
  | [.int i] => some (.int (if i < 0 then -i else i))
  | _ => none
def bMax : List PyData → Option PyData
  | [.int i, .int j] => some (.int (if j > i then j else i))
  | _ => none
def bMin : List PyData → Option PyData
  | [.int i, .int j] => some (.int (if j < i then j else i))
  | _ => none
def bInt : List PyData → Option PyData
  | [.int i] => some (.int i)
  | _ => none
def bGcd : List PyData → Option PyData
  | [.int i, .int j] => some (.int ((Nat.gcd i.natAbs j.natAbs : Nat) : Int))
  | _ => none
def bools : List PyData → Option (List Bool)
  | [] => some []
  | .bool b :: r => (bools r).map (b :: ·)
  | _ :: _ => none
def bAll : List PyData → Option PyData
  | [.list xs] => (bools xs).map fun bs => .bool (bs.all id)
  | _ => none
def bAny : List PyData → Option PyData
  | [.list xs] => (bools xs).map fun bs => .bool (bs.any id)
  | _ => none
def bList : List PyData → Option PyData
  | [.list xs] => some (.list xs)
  | [.tuple xs] => some (.list xs)
  | _ => none
/-- the kinds that isinstance asks for -/
inductive Ki where | kInt | kBool | kStr | kTup | kLst | kDict
  deriving DecidableEq
def isK : Ki → PyData → Bool
  | .kInt, .int _ => true
  | .kInt, .bool _ => true
  | .kBool, .bool _ => true
  | .kStr, .str _ => true
  | .kTup, .tuple _ => true
  | .kLst, .list _ => true
  | .kDict, .dict ((.none, _) :: _) => false
  | .kDict, .dict _ => true
  | _, _ => false
def bIsi (ks : List Ki) : PyData → Option PyData := fun d => some (.bool (ks.any fun k => isK k d))
def slots0 (n : Nat) (ds : List PyData) : DSt := ds.map S.va ++ List.replicate (n - ds.length) .no
def endP (Q : S → Prop) : DE := { nx := fun _ => Q (.va .none), rt := fun r _ => Q r }
def slotsW (N n : Nat) (ds : List PyData) : DSt := .well n :: slots0 (N - 1) ds
def endW (Q : S → Nat → Prop) : DE := { nx := fun sd => ∃ n, sget sd 0 = .well n ∧ Q (.va .none) n, rt := fun r sd => ∃ n, sget sd 0 = .well n ∧ Q r n }
def endL : DE := { nx := fun _ => False, rt := fun r _ => r = .va (.bool true) }
/-- the well that is made from the script in slot i -/
def mrWell (i : Nat) (me : ME) : MR := fun sd Q => me sd fun d s1 => ∃ ns k, sget s1 i = .scr ns ∧ d = .int k ∧ 0 ≤ k ∧ k < 2 ^ 20 ∧ Q (.well (2 ^ 60)) s1
def wF : WD := fun _ _ => False
end DL
namespace DL
open PySem PySem.Spec PyProof.Rows L2
def keyD : Key → PyData
  | .inl i => .int i
  | .inr x => .str x
def kName : Ki → String
  | .kInt => "int" | .kBool => "bool" | .kStr => "str" | .kTup => "tuple" | .kLst => "list" | .kDict => "dict"
/-- C is the class c of the program, with plain instances -/
structure ObjC (K : PySem.W.Frag) (c : Str) (C : Addr) : Prop where
  ns : PySem.W.nsIn K mainGlobals c = some (some (.ref C))
  cl : Cls K C
  ha : PySem.W.findIn K (.ref C) "__class__" = some (some (.builtin "object.__class__"))
  hn : PySem.W.specialIn K (.builtin "object.__class__") "__get__" = some (some (.builtin "getset_descriptor.__get__"))
  htk : PySem.W.takesIn K (.builtin "object.__class__") = some true
  hm : PySem.W.mroIn K C (.type "object") = some true
  kit : ∀ k : Ki, PySem.W.kitOne K (.ref C) (.type (kName k)) = some false
theorem ObjC.uniq {K : PySem.W.Frag} {c : Str} {C D : Addr} (a : ObjC K c C) (b : ObjC K c D) : C = D := by
  have := a.ns.symm.trans b.ns
  cases this
  rfl
mutual
inductive Rp (K : PySem.W.Frag) (F : Hp) : V → PyData → Prop
  | non : Rp K F .non .none
  | bl (b : Bool) : Rp K F (.bl b) (.bool b)
  | int (i : Int) : Rp K F (.int i) (.int i)
  | str (x : Str) : Rp K F (.str x) (.str x)
  | lst {a : Addr} {xs : List V} {ds : List PyData} : F a = some (.lst xs) → RpA K F xs ds → Rp K F (.ref a) (.list ds)
  | tup {a : Addr} {xs : List V} {ds : List PyData} : SqT K F a xs → RpA K F xs ds → Rp K F (.ref a) (.tuple ds)
  | dct {a : Addr} {kvs : List (Key × V)} {es : List (PyData × PyData)} : F a = some (.dK kvs) → RpD K F kvs es → Rp K F (.ref a) (.dict es)
  | ins {a C dx : Addr} {c : Str} {fs : List (Str × V)} {es : List PyData} : F a = some (.ins C dx fs) → ObjC K c C → RpF K F fs es → Rp K F (.ref a) (.dict [(.none, .tuple (.str c :: es))])
inductive RpF (K : PySem.W.Frag) (F : Hp) : List (Str × V) → List PyData → Prop
  | nil : RpF K F [] []
  | cons {n : Str} {v : V} {fs : List (Str × V)} {d : PyData} {es : List PyData} : Rp K F v d → RpF K F fs es → RpF K F ((n, v) :: fs) (.tuple [.str n, d] :: es)
inductive RpA (K : PySem.W.Frag) (F : Hp) : List V → List PyData → Prop
  | nil : RpA K F [] []
  | cons {v : V} {vs : List V} {d : PyData} {ds : List PyData} : Rp K F v d → RpA K F vs ds → RpA K F (v :: vs) (d :: ds)
inductive RpD (K : PySem.W.Frag) (F : Hp) : List (Key × V) → List (PyData × PyData) → Prop
  | nil : RpD K F [] []
  | cons {k : Key} {v : V} {kvs : List (Key × V)} {d : PyData} {es : List (PyData × PyData)} : Rp K F v d → RpD K F kvs es → RpD K F ((k, v) :: kvs) ((keyD k, d) :: es)
end
theorem same_rd {H H' : Hp} {a : Addr} {u : HO} (e : Same H H') (h : Rd H a u) : Rd H' a u := by
  rcases h with h | ⟨o, h⟩
  · exact .inl (e _ _ h)
  · exact .inr ⟨o, e _ _ h⟩
theorem same_t {K : PySem.W.Frag} {H H' : Hp} {a : Addr} {xs : List V} (e : Same H H') (h : SqT K H a xs) : SqT K H' a xs := by
  rcases h with (h | ⟨o, h⟩) | h
  · exact .inl (.inl (e _ _ h))
  · exact .inl (.inr ⟨o, e _ _ h⟩)
  · exact .inr h
section
variable {K : PySem.W.Frag} {F F' H H' H1 : Hp} {v : V} {vs : List V} {d : PyData} {ds : List PyData}
mutual
theorem Rp.mono (e : Same F F') : ∀ {d : PyData} {v : V}, Rp K F v d → Rp K F' v d
  | .none, _, .non => .non
  | .bool _, _, .bl b => .bl b
  | .int _, _, .int i => .int i
  | .str _, _, .str x => .str x
  | .list _, _, .lst h r => .lst (e _ _ h) (RpA.mono e r)
  | .tuple _, _, .tup h r => .tup (same_t e h) (RpA.mono e r)
  | .dict _, _, .dct h r => .dct (e _ _ h) (RpD.mono e r)
  | .dict _, _, .ins h o r => .ins (e _ _ h) o (RpF.mono e r)
theorem RpF.mono (e : Same F F') : ∀ {es : List PyData} {fs : List (Str × V)}, RpF K F fs es → RpF K F' fs es
  | _, _, .nil => .nil
  | _, _, .cons h r => .cons (Rp.mono e h) (RpF.mono e r)
theorem RpA.mono (e : Same F F') : ∀ {ds : List PyData} {vs : List V}, RpA K F vs ds → RpA K F' vs ds
  | [], _, .nil => .nil
  | _ :: _, _, .cons h r => .cons (Rp.mono e h) (RpA.mono e r)
theorem RpD.mono (e : Same F F') : ∀ {es : List (PyData × PyData)} {kvs : List (Key × V)}, RpD K F kvs es → RpD K F' kvs es
  | [], _, .nil => .nil
  | _ :: _, _, .cons h r => .cons (Rp.mono e h) (RpD.mono e r)
end
mutual
theorem Rp.dp (e : Same F H) : ∀ {d : PyData} {v : V}, d.canLay0 = true → Rp K F v d → Dp K H v d
  | .none, _, _, .non => .non
  | .bool _, _, _, .bl b => .bl b
  | .int _, _, _, .int i => .int i
  | .str _, _, _, .str x => .str x
  | .list _, _, c, .lst h r => .lst (.inl (.inl (e _ _ h))) (RpA.dp e (by simpa [PyData.canLay0] using c) r)
  | .tuple _, _, c, .tup h r => .tup (same_t e h) (RpA.dp e (by simpa [PyData.canLay0] using c) r)
theorem RpA.dp (e : Same F H) : ∀ {ds : List PyData} {vs : List V}, PyData.canLayAll0 ds = true → RpA K F vs ds → DpAll K H vs ds
  | [], _, _, .nil => .nil
  | _ :: _, _, c, .cons h r => .cons (Rp.dp e (by have := c; simp only [PyData.canLayAll0, Bool.and_eq_true] at this; exact this.1) h) (RpA.dp e (by have := c; simp only [PyData.canLayAll0, Bool.and_eq_true] at this; exact this.2) r)
end
theorem RpA.length : ∀ {vs : List V} {ds : List PyData}, RpA K F vs ds → vs.length = ds.length
  | _, _, .nil => rfl
  | _, _, .cons _ r => by simp [RpA.length r]
theorem RpA.get : ∀ {vs : List V} {ds : List PyData} {i : Nat} {d : PyData}, RpA K F vs ds → ds[i]? = some d → ∃ v, vs[i]? = some v ∧ Rp K F v d
  | _, _, _, _, .nil, h => by simp at h
  | _, _, 0, _, .cons h _, e => by simp at e; subst e; exact ⟨_, rfl, h⟩
  | _, _, i + 1, _, .cons _ r, e => by
    obtain ⟨v, h1, h2⟩ := RpA.get (i := i) r (by simpa using e)
    exact ⟨v, by simpa using h1, h2⟩
theorem RpA.append : ∀ {vs ws : List V} {ds es : List PyData}, RpA K F vs ds → RpA K F ws es → RpA K F (vs ++ ws) (ds ++ es)
  | _, _, _, _, .nil, s => s
  | _, _, _, _, .cons h r, s => .cons h (RpA.append r s)
theorem RpA.take : ∀ {vs : List V} {ds : List PyData} (n : Nat), RpA K F vs ds → RpA K F (vs.take n) (ds.take n)
  | _, _, 0, _ => .nil
  | _, _, _ + 1, .nil => .nil
  | _, _, n + 1, .cons h r => .cons h (RpA.take n r)
theorem RpA.drop : ∀ {vs : List V} {ds : List PyData} (n : Nat), RpA K F vs ds → RpA K F (vs.drop n) (ds.drop n)
  | _, _, 0, r => r
  | _, _, _ + 1, .nil => .nil
  | _, _, n + 1, .cons _ r => RpA.drop n r
theorem RpA.snoc (h : RpA K F vs ds) (q : Rp K F v d) : RpA K F (vs ++ [v]) (ds ++ [d]) := h.append (.cons q .nil)
theorem RpA.reverse : ∀ {vs : List V} {ds : List PyData}, RpA K F vs ds → RpA K F vs.reverse ds.reverse
  | _, _, .nil => .nil
  | _, _, .cons h r => by simp only [List.reverse_cons]; exact (RpA.reverse r).snoc h
end
def gv (σ : L2.St) (i : Nat) : Option V := (σ[i]?).join
theorem gv_some {σ : L2.St} {i : Nat} {v : V} : gv σ i = some v ↔ σ[i]? = some (some v) := by
  unfold gv
  cases h : σ[i]? with
  | none => simp
  | some x => simp
theorem gv_set {σ : L2.St} {i : Nat} {x : Option V} (h : i < σ.length) : gv (σ.set i x) i = x := by
  unfold gv; rw [List.getElem?_set_self h]; rfl
theorem gv_set_ne {σ : L2.St} {i j : Nat} {x : Option V} (h : j ≠ i) : gv (σ.set i x) j = gv σ j := by
  unfold gv; rw [List.getElem?_set_ne (Ne.symm h)]
theorem sset_length : ∀ {sd : DSt} {i : Nat} {s : S}, (sset sd i s).length = sd.length
  | [], _, _ => rfl
  | _ :: _, 0, _ => rfl
  | _ :: r, i + 1, s => by simp [sset, sset_length]
theorem sget_sset : ∀ {sd : DSt} {i : Nat} {s : S}, i < sd.length → sget (sset sd i s) i = s
  | [], _, _, h => by simp at h
  | _ :: _, 0, _, _ => rfl
  | _ :: r, i + 1, s, h => by simp only [sset, sget]; exact sget_sset (by simpa using h)
theorem sget_sset_ne : ∀ {sd : DSt} {i j : Nat} {s : S}, j ≠ i → sget (sset sd i s) j = sget sd j
  | [], _, _, _, _ => rfl
  | _ :: _, 0, 0, _, h => absurd rfl h
  | _ :: _, 0, j + 1, _, _ => rfl
  | _ :: _, i + 1, 0, _, _ => rfl
  | _ :: r, i + 1, j + 1, s, h => by simp only [sset, sget]; exact sget_sset_ne (by omega)
theorem sget_out : ∀ {sd : DSt} {i : Nat}, sd.length ≤ i → sget sd i = .no
  | [], _, _ => rfl
  | _ :: _, 0, h => by simp at h
  | _ :: r, i + 1, h => by simp only [sget]; exact sget_out (by simpa using h)
/-- a def's entry: the frozen heap, the heap, the addresses that were handed over to be changed -/
structure Ct where
  F0 : Hp
  H0 : Hp
  B : Addr → Prop
  isW : Bool
def SlotOk (K : PySem.W.Frag) (C : Ct) (F H : Hp) (x : Option V) : S → Prop
  | .no => True
  | .va d => ∃ v, x = some v ∧ Rp K F v d
  | .own ds => ∃ p vs, x = some (.ref p) ∧ H p = some (.lst vs) ∧ F p = none ∧ C.H0 p = none ∧ RpA K F vs ds
  | .scr ns => ∃ p, x = some (.ref p) ∧ SqL K F p (ns.map V.int)
  | .exc a => x = some (.ref a)
  | .ins c es => ∃ p Cc dx fs, x = some (.ref p) ∧ H p = some (.ins Cc dx fs) ∧ F p = none ∧ ((C.isW = true ∧ C.B p) ∨ (C.isW = false ∧ C.H0 p = none)) ∧ ObjC K c Cc ∧ RpF K F fs es
  | .well n => ∃ p a b c, x = some (.ref p) ∧ H p = some (.lst [.int a, .int b, .int c]) ∧ F p = none ∧ ((C.isW = true ∧ C.B p) ∨ (C.isW = false ∧ C.H0 p = none)) ∧ WellOk n a b c
def isOwn : S → Bool
  | .own _ => true
  | .well _ => true
  | .ins _ _ => true
  | _ => false
def Owned (σ : L2.St) (sd : DSt) (a : Addr) : Prop := ∃ i, isOwn (sget sd i) = true ∧ gv σ i = some (.ref a)
structure Rs (K : PySem.W.Frag) (C : Ct) (F H : Hp) (σ : L2.St) (sd : DSt) : Prop where
  len : σ.length = sd.length
  grow : Same C.F0 F
  ext : Same F H
  new : ∀ a o, F a = some o → C.F0 a = some o ∨ C.H0 a = none
  keep : ∀ a o, C.H0 a = some o → ¬ C.B a → H a = some o
  still : ∀ a, H a = none → C.H0 a = none
  slot : ∀ i, SlotOk K C F H (gv σ i) (sget sd i)
  sep : ∀ i j p, i ≠ j → isOwn (sget sd i) = true → isOwn (sget sd j) = true → gv σ i = some (.ref p) → gv σ j ≠ some (.ref p)
/-- what an expression does to the state -/
structure Stp (σ : L2.St) (sd : DSt) (F H F' H' : Hp) (sd' : DSt) : Prop where
  fr : Same F F'
  kp : ∀ a o, H a = some o → ¬ Owned σ sd a → H' a = some o
  ow : ∀ a, Owned σ sd' a → Owned σ sd a
  nw : ∀ a o, F' a = some o → F a = some o ∨ H a = none ∨ Owned σ sd a
  st : ∀ a, H' a = none → H a = none
section
variable {K : PySem.W.Frag} {C : Ct} {F F1 F2 F' H H1 H2 H' : Hp} {σ : L2.St} {sd sd1 sd2 sd' : DSt} {p : Addr} {o : HO}
theorem Stp.refl : Stp σ sd F H F H sd := ⟨Same.refl _, fun _ _ h _ => h, fun _ h => h, fun _ _ h => .inl h, fun _ h => h⟩
theorem Stp.trans (a : Stp σ sd F H F1 H1 sd1) (b : Stp σ sd1 F1 H1 F2 H2 sd2) : Stp σ sd F H F2 H2 sd2 where
  fr := a.fr.trans b.fr
  kp := fun x o h n => b.kp x o (a.kp x o h n) fun z => n (a.ow x z)
  ow := fun x h => a.ow x (b.ow x h)
  nw := fun x o h => by
    rcases b.nw x o h with h | h | h
    · exact a.nw x o h
    · exact .inr (.inl (a.st x h))
    · exact .inr (.inr (a.ow x h))
  st := fun x h => a.st x (b.st x h)
/-- nothing, or one new object, known to all -/
inductive Al (F H : Hp) : Hp → Hp → Prop
  | id : Al F H F H
  | new {p : Addr} {o : HO} (h : H p = none) : Al F H (upd F p o) (upd H p o)
theorem same_new (h : H p = none) : Same H (upd H p o) := fun b x e => by
  rw [upd_ne (ne_of_none e h)]; exact e
theorem SlotOk.grow {x : Option V} {s : S} (e : Same F F') (k : ∀ q o, isOwn s = true → x = some (.ref q) → H q = some o → F q = none → H' q = some o ∧ F' q = none) (h : SlotOk K C F H x s) : SlotOk K C F' H' x s := by
  cases s with
  | no => trivial
  | va d => obtain ⟨v, e1, r⟩ := h; exact ⟨v, e1, r.mono e⟩
  | own ds =>
    obtain ⟨q, vs, e1, e2, e3, e4, r⟩ := h
    obtain ⟨k1, k2⟩ := k q _ rfl e1 e2 e3
    exact ⟨q, vs, e1, k1, k2, e4, r.mono e⟩
  | scr ns => obtain ⟨q, e1, e2⟩ := h; exact ⟨q, e1, e.seq e2⟩
  | exc a => exact h
  | ins c es =>
    obtain ⟨q, Cc, dx, fs, e1, e2, e3, e4, oc, r⟩ := h
    obtain ⟨k1, k2⟩ := k q _ rfl e1 e2 e3
    exact ⟨q, Cc, dx, fs, e1, k1, k2, e4, oc, r.mono e⟩
  | well n =>
    obtain ⟨q, a, b, c, e1, e2, e3, e4, r⟩ := h
    obtain ⟨k1, k2⟩ := k q _ rfl e1 e2 e3
    exact ⟨q, a, b, c, e1, k1, k2, e4, r⟩
theorem Rs.free (R : Rs K C F H σ sd) (h : H p = none) : F p = none := by
  cases e : F p with
  | none => rfl
  | some x => rw [R.ext _ _ e] at h; cases h
theorem Rs.alloc (R : Rs K C F H σ sd) (h : H p = none) : Rs K C (upd F p o) (upd H p o) σ sd where
  len := R.len
  grow := R.grow.trans (same_new (R.free h))
  ext := fun a x e => by
    by_cases z : a = p
    · subst z; rw [upd_same] at e ⊢; exact e
    · rw [upd_ne z] at e ⊢; exact R.ext a x e
  new := fun a x e => by
    by_cases z : a = p
    · subst z; exact .inr (R.still a h)
    · rw [upd_ne z] at e; exact R.new a x e
  keep := fun a x e n => same_new h a x (R.keep a x e n)
  still := fun a e => by
    by_cases z : a = p
    · subst z; exact R.still a h
    · rw [upd_ne z] at e; exact R.still a e
  slot := fun i => (R.slot i).grow (same_new (R.free h)) fun q x _ _ e n => ⟨same_new h q x e, by rw [upd_ne (ne_of_none e h)]; exact n⟩
  sep := R.sep
/-- a new object that nobody will look at -/
theorem Rs.allocH (R : Rs K C F H σ sd) (h : H p = none) : Rs K C F (upd H p o) σ sd where
  len := R.len
  grow := R.grow
  ext := fun a x e => same_new h a x (R.ext a x e)
  new := R.new
  keep := fun a x e n => same_new h a x (R.keep a x e n)
  still := fun a e => by
    by_cases z : a = p
    · subst z; exact R.still a h
    · rw [upd_ne z] at e; exact R.still a e
  slot := fun i => (R.slot i).grow (Same.refl _) fun q x _ _ e n => ⟨same_new h q x e, n⟩
  sep := R.sep
theorem Rs.al (R : Rs K C F H σ sd) (a : Al F H F' H') : Rs K C F' H' σ sd := by
  cases a with
  | id => exact R
  | new h => exact R.alloc h
theorem Stp.al (R : Rs K C F H σ sd) (a : Al F H F' H') : Stp σ sd F H F' H' sd := by
  cases a with
  | id => exact .refl
  | @new p o h =>
    refine ⟨same_new (R.free h), fun x o e _ => same_new h x o e, fun _ h => h, fun x o e => ?_, fun x e => ?_⟩
    · by_cases z : x = p
      · subst z; exact .inr (.inl h)
      · rw [upd_ne z] at e; exact .inl e
    · by_cases z : x = p
      · subst z; exact h
      · rw [upd_ne z] at e; exact e
theorem Rs.lt_of_own (R : Rs K C F H σ sd) {i : Nat} (h : sget sd i ≠ .no) : i < sd.length := by
  apply Classical.byContradiction
  intro z
  exact h (sget_out (by omega))
/-- a slot gets frozen data -/
theorem Rs.setva (R : Rs K C F H σ sd) {i : Nat} {v : V} {d : PyData} (r : Rp K F v d) : Rs K C F H (σ.set i (some v)) (sset sd i (.va d)) where
  len := by rw [List.length_set, sset_length]; exact R.len
  grow := R.grow
  ext := R.ext
  new := R.new
  keep := R.keep
  still := R.still
  slot := fun j => by
    by_cases hj : j = i
    · subst hj
      by_cases hl : j < sd.length
      · rw [sget_sset hl, gv_set (by rw [R.len]; exact hl)]
        exact ⟨v, rfl, r⟩
      · rw [sget_out (by rw [sset_length]; omega)]; trivial
    · rw [sget_sset_ne hj, gv_set_ne hj]; exact R.slot j
  sep := fun j k q hjk o1 o2 e1 => by
    have n1 : j ≠ i := fun z => by
      subst z
      by_cases hl : j < sd.length
      · rw [sget_sset hl] at o1; cases o1
      · rw [sget_out (by rw [sset_length]; omega)] at o1; cases o1
    have n2 : k ≠ i := fun z => by
      subst z
      by_cases hl : k < sd.length
      · rw [sget_sset hl] at o2; cases o2
      · rw [sget_out (by rw [sset_length]; omega)] at o2; cases o2
    rw [sget_sset_ne n1] at o1
    rw [sget_sset_ne n2] at o2
    rw [gv_set_ne n1] at e1
    rw [gv_set_ne n2]
    exact R.sep j k q hjk o1 o2 e1
/-- a slot is forgotten -/
theorem Rs.setno (R : Rs K C F H σ sd) {i : Nat} {x : Option V} : Rs K C F H (σ.set i x) (sset sd i .no) where
  len := by rw [List.length_set, sset_length]; exact R.len
  grow := R.grow
  ext := R.ext
  new := R.new
  keep := R.keep
  still := R.still
  slot := fun j => by
    by_cases hj : j = i
    · subst hj
      by_cases hl : j < sd.length
      · rw [sget_sset hl]; trivial
      · rw [sget_out (by rw [sset_length]; omega)]; trivial
    · rw [sget_sset_ne hj, gv_set_ne hj]; exact R.slot j
  sep := fun j k q hjk o1 o2 e1 => by
    have n1 : j ≠ i := fun z => by
      subst z
      by_cases hl : j < sd.length
      · rw [sget_sset hl] at o1; cases o1
      · rw [sget_out (by rw [sset_length]; omega)] at o1; cases o1
    have n2 : k ≠ i := fun z => by
      subst z
      by_cases hl : k < sd.length
      · rw [sget_sset hl] at o2; cases o2
      · rw [sget_out (by rw [sset_length]; omega)] at o2; cases o2
    rw [sget_sset_ne n1] at o1
    rw [sget_sset_ne n2] at o2
    rw [gv_set_ne n1] at e1
    rw [gv_set_ne n2]
    exact R.sep j k q hjk o1 o2 e1
/-- a result: frozen, or a list (a well) that nobody else holds -/
def RvOk (K : PySem.W.Frag) (C : Ct) (F H : Hp) (v : V) : S → Prop := SlotOk K C F H (some v)
/-- .. and not one of the slots' -/
def Fre (σ : L2.St) (sd : DSt) (v : V) (r : S) : Prop := isOwn r = true → ∀ q, v = .ref q → ¬ Owned σ sd q
theorem Rs.setr (R : Rs K C F H σ sd) {i : Nat} {v : V} {r : S} (h : RvOk K C F H v r) (n : Fre σ sd v r) : Rs K C F H (σ.set i (some v)) (sset sd i r) where
  len := by rw [List.length_set, sset_length]; exact R.len
  grow := R.grow
  ext := R.ext
  new := R.new
  keep := R.keep
  still := R.still
  slot := fun j => by
    by_cases hj : j = i
    · subst hj
      by_cases hl : j < sd.length
      · rw [sget_sset hl, gv_set (by rw [R.len]; exact hl)]
        exact h
      · rw [sget_out (by rw [sset_length]; omega)]; trivial
    · rw [sget_sset_ne hj, gv_set_ne hj]; exact R.slot j
  sep := fun j k q hjk o1 o2 e1 e2 => by
    have at_i : ∀ m, m = i → isOwn (sget (sset sd i r) m) = true → gv (σ.set i (some v)) m = some (.ref q) → isOwn r = true ∧ v = .ref q := fun m z o e => by
      subst z
      by_cases hl : m < sd.length
      · rw [sget_sset hl] at o
        rw [gv_set (by rw [R.len]; exact hl)] at e
        exact ⟨o, Option.some.inj e⟩
      · rw [sget_out (by rw [sset_length]; omega)] at o; cases o
    by_cases hj : j = i
    · obtain ⟨a1, a2⟩ := at_i j hj o1 e1
      have hk : k ≠ i := fun z => hjk (hj.trans z.symm)
      rw [sget_sset_ne hk] at o2
      rw [gv_set_ne hk] at e2
      exact n a1 q a2 ⟨k, o2, e2⟩
    · rw [sget_sset_ne hj] at o1
      rw [gv_set_ne hj] at e1
      by_cases hk : k = i
      · obtain ⟨a1, a2⟩ := at_i k hk o2 e2
        exact n a1 q a2 ⟨j, o1, e1⟩
      · rw [sget_sset_ne hk] at o2
        rw [gv_set_ne hk] at e2
        exact R.sep j k q hjk o1 o2 e1 e2
/-- an owned list is handed to all -/
theorem Rs.freeze (R : Rs K C F H σ sd) {i : Nat} {ds : List PyData} (h : sget sd i = .own ds) :
    ∃ v F', gv σ i = some v ∧ Rs K C F' H σ (sset sd i (.va (.list ds))) ∧ Stp σ sd F H F' H (sset sd i (.va (.list ds))) ∧ Rp K F' v (.list ds) := by
  have hi := R.slot i
  rw [h] at hi
  obtain ⟨p, vs, e1, e2, e3, e4, r⟩ := hi
  have hl : i < sd.length := R.lt_of_own (by rw [h]; intro z; cases z)
  have sF : Same F (upd F p (.lst vs)) := same_new e3
  have rp : Rp K (upd F p (.lst vs)) (.ref p) (.list ds) := .lst upd_same (r.mono sF)
  have own_i : Owned σ sd p := ⟨i, by rw [h]; rfl, e1⟩
  refine ⟨.ref p, upd F p (.lst vs), e1, ?_, ?_, rp⟩
  · refine ⟨by rw [sset_length]; exact R.len, R.grow.trans sF, fun a x e => ?_, fun a x e => ?_, R.keep, R.still, fun j => ?_, fun j k q hjk o1 o2 z1 => ?_⟩
    · by_cases z : a = p
      · subst z; rw [upd_same] at e; cases e; exact e2
      · rw [upd_ne z] at e; exact R.ext a x e
    · by_cases z : a = p
      · subst z; exact .inr e4
      · rw [upd_ne z] at e; exact R.new a x e
    · by_cases hj : j = i
      · subst hj; rw [sget_sset hl, e1]; exact ⟨_, rfl, rp⟩
      · rw [sget_sset_ne hj]
        refine (R.slot j).grow sF fun q x ho eq eh en => ⟨eh, ?_⟩
        have : q ≠ p := fun z => by
          subst z
          exact R.sep i j q (Ne.symm hj) (by rw [h]; rfl) ho e1 eq
        rw [upd_ne this]; exact en
    · have n1 : j ≠ i := fun z => by subst z; rw [sget_sset hl] at o1; cases o1
      have n2 : k ≠ i := fun z => by subst z; rw [sget_sset hl] at o2; cases o2
      rw [sget_sset_ne n1] at o1
      rw [sget_sset_ne n2] at o2
      exact R.sep j k q hjk o1 o2 z1
  · refine ⟨sF, fun a x e _ => e, fun a z => ?_, fun a x e => ?_, fun a e => e⟩
    · obtain ⟨j, o, e⟩ := z
      have n1 : j ≠ i := fun z => by subst z; rw [sget_sset hl] at o; cases o
      rw [sget_sset_ne n1] at o
      exact ⟨j, o, e⟩
    · by_cases z : a = p
      · subst z; exact .inr (.inr own_i)
      · rw [upd_ne z] at e; exact .inl e
end
section
variable (K : PySem.W.Frag) (C : Ct)
def tD (m : ME) : TE := fun σ H Q => ∃ F sd Qd, Rs K C F H σ sd ∧ m sd Qd ∧ ∀ v H' F' d sd', Rs K C F' H' σ sd' → Stp σ sd F H F' H' sd' → Rp K F' v d → Qd d sd' → Q v H'
def tDR (m : MR) : TE := fun σ H Q => ∃ F sd Qd, Rs K C F H σ sd ∧ m sd Qd ∧ ∀ v H' F' r sd', Rs K C F' H' σ sd' → Stp σ sd F H F' H' sd' → RvOk K C F' H' v r → Fre σ sd' v r → (isOwn r = true → ∀ q, v = .ref q → H q = none) → Qd r sd' → Q v H'
def tDT (m : MT) : TT := fun σ H Q => ∃ F sd Qd, Rs K C F H σ sd ∧ m sd Qd ∧ ∀ b H' F' sd', Rs K C F' H' σ sd' → Stp σ sd F H F' H' sd' → Qd b sd' → Q b H'
def tDA (m : MA) : TA := fun σ H Q => ∃ F sd Qd, Rs K C F H σ sd ∧ m sd Qd ∧ ∀ vs H' F' ds sd', Rs K C F' H' σ sd' → Stp σ sd F H F' H' sd' → RpA K F' vs ds → Qd ds sd' → Q vs H'
def tDG (m : MG) : TG := fun v σ H Q => ∃ F sd d Qd, Rs K C F H σ sd ∧ Rp K F v d ∧ m d sd Qd ∧ ∀ σ' sd', Rs K C F H σ' sd' → Qd sd' → Q σ' H
def tDGs (m : MGs) : TGs := fun vs σ H Q => ∃ F sd ds Qd, Rs K C F H σ sd ∧ RpA K F vs ds ∧ m ds sd Qd ∧ ∀ σ' sd', Rs K C F H σ' sd' → Qd sd' → Q σ' H
/-- what is wished of a raise -/
def wD (CN : String → Option Addr) (W : WD) : WX := fun cls d σ H => ∃ c a F sd, CN c = some a ∧ cls = .ref a ∧ d = none ∧ Rs K C F H σ sd ∧ W c sd
/-- what follows, from the frozen heap F0 on: the readings of D are those of Dd -/
structure EndOk (F0 : Hp) (Dd : DE) (D : Ends) : Prop where
  nx : ∀ F H σ sd, Same F0 F → Rs K C F H σ sd → Dd.nx sd → D.nx σ H
  rt : ∀ F H σ sd v r, Same F0 F → Rs K C F H σ sd → RvOk K C F H v r → (isOwn r = true → ∀ q, v = .ref q → C.H0 q = none) → Dd.rt r sd → D.rt v H
  bk : ∀ F H σ sd, Same F0 F → Rs K C F H σ sd → Dd.bk sd → D.bk σ H
  ct : ∀ F H σ sd, Same F0 F → Rs K C F H σ sd → Dd.ct sd → D.ct σ H
def tDS (m : MS) : TS := fun D σ H => ∃ F sd Dd, Rs K C F H σ sd ∧ EndOk K C F Dd D ∧ m Dd sd
/-- an iterator that gives the data ds, one by one -/
structure Wk (J : It) (F0 : Hp) (ds : List PyData) : Prop where
  ex : ∃ (G : Hp → Prop) (Y : Nat → Hp → V → Hp → Prop), Walk J ds.length G Y ∧ (∀ H, Same F0 H → G H) ∧
    ∀ i H x H' F, i < ds.length → Same F0 F → Same F H → Y i H x H' → ∃ F' d, Al F H F' H' ∧ ds[i]? = some d ∧ Rp K F' x d
def tDI (m : MI) : TI := fun σ H R => ∃ F sd Qd, Rs K C F H σ sd ∧ m sd Qd ∧ ∀ J H' F' ds sd', Rs K C F' H' σ sd' → Stp σ sd F H F' H' sd' → Wk K J F' ds → Qd ds sd' → R J H'
end
theorem EndOk.mono {K : PySem.W.Frag} {C : Ct} {F F' : Hp} {Dd : DE} {D : Ends} (E : EndOk K C F Dd D) (s : Same F F') : EndOk K C F' Dd D :=
  ⟨fun F1 H σ sd e => E.nx F1 H σ sd (s.trans e), fun F1 H σ sd v r e => E.rt F1 H σ sd v r (s.trans e), fun F1 H σ sd e => E.bk F1 H σ sd (s.trans e), fun F1 H σ sd e => E.ct F1 H σ sd (s.trans e)⟩
end DL
namespace DL
open PySem PySem.Spec PyProof.Rows L2
section
variable {X : Cx}
theorem pe_imp {e : Expr} {t t' : TE} (h : PE X e t) (i : ∀ σ H Q, t' σ H Q → t σ H Q) : PE X e t' := ⟨fun pins s σ H Q I q => h.run pins s σ H Q I (i _ _ _ q)⟩
theorem pt_imp {e : Expr} {t t' : TT} (h : PT X e t) (i : ∀ σ H Q, t' σ H Q → t σ H Q) : PT X e t' := ⟨fun pins s σ H Q I q => h.run pins s σ H Q I (i _ _ _ q)⟩
theorem pw_imp {e : Expr} {t t' : TT} (h : PW X e t) (i : ∀ σ H Q, t' σ H Q → t σ H Q) : PW X e t' := ⟨fun wh pins s σ H Q I q => h.run wh pins s σ H Q I (i _ _ _ q)⟩
theorem pa_imp {e : List Expr} {t t' : TA} (h : PA X e t) (i : ∀ σ H Q, t' σ H Q → t σ H Q) : PA X e t' := ⟨fun pos pins s σ H Q I q => h.run pos pins s σ H Q I (i _ _ _ q)⟩
theorem pk_imp {e : List Keyword} {t t' : TA} (h : PK X e t) (i : ∀ σ H Q, t' σ H Q → t σ H Q) : PK X e t' := ⟨fun pos pins s σ H Q I q => h.run pos pins s σ H Q I (i _ _ _ q)⟩
theorem pg_imp {e : Expr} {t t' : TG} (h : PG X e t) (i : ∀ v σ H Q, t' v σ H Q → t v σ H Q) : PG X e t' := ⟨fun pins s σ H v u Q I r q => h.run pins s σ H v u Q I r (i _ _ _ _ q)⟩
theorem pgs_imp {e : List Expr} {t t' : TGs} (h : PGs X e t) (i : ∀ v σ H Q, t' v σ H Q → t v σ H Q) : PGs X e t' := ⟨fun pins s σ H v u Q I r q => h.run pins s σ H v u Q I r (i _ _ _ _ q)⟩
theorem pi_imp {tg e : Expr} {t t' : TI} (h : PI X tg e t) (i : ∀ σ H Q, t' σ H Q → t σ H Q) : PI X tg e t' := ⟨fun pins s σ H Q I q => h.run pins s σ H Q I (i _ _ _ q)⟩
theorem ps_imp {e : Stmt} {t t' : TS} (h : PS X e t) (i : ∀ D σ H, t' D σ H → t D σ H) : PS X e t' := ⟨fun pins s σ H D I q => h.run pins s σ H D I (i _ _ _ q)⟩
theorem pss_imp {e : List Stmt} {t t' : TS} (h : PSs X e t) (i : ∀ D σ H, t' D σ H → t D σ H) : PSs X e t' := ⟨fun pins s σ H D I q => h.run pins s σ H D I (i _ _ _ q)⟩
theorem pg_or {e : Expr} {t t' : TG} (h : PG X e t) (h' : PG X e t') : PG X e (fun v σ H Q => t v σ H Q ∨ t' v σ H Q) :=
  ⟨fun pins s σ H v u Q I r q => q.elim (h.run pins s σ H v u Q I r) (h'.run pins s σ H v u Q I r)⟩
end
section
variable {K : PySem.W.Frag} {C : Ct} {F F' H H' : Hp} {σ : L2.St} {sd sd' : DSt} {X : Cx}
theorem td_var {i : Nat} : ∀ σ H Q, tD K C (mVar i) σ H Q → tVar i σ H Q := by
  rintro σ H Q ⟨F, sd, Qd, R, h, k⟩
  unfold mVar at h
  have hs := R.slot i
  cases e : sget sd i with
  | no => rw [e] at h; exact h.elim
  | va d =>
    rw [e] at h hs
    obtain ⟨v, e1, r⟩ := hs
    exact ⟨v, gv_some.mp e1, k v H F d sd R .refl r h⟩
  | own ds =>
    rw [e] at h
    obtain ⟨v, F', e1, R', S, r⟩ := R.freeze e
    exact ⟨v, gv_some.mp e1, k v H F' _ _ R' S r h⟩
  | well n => rw [e] at h; exact h.elim
  | scr n => rw [e] at h; exact h.elim
  | exc n => rw [e] at h; exact h.elim
  | ins c es => rw [e] at h; exact h.elim
theorem pd_var {i : Nat} {x : Str} {pos : Pos} (hN : X.N[i]? = some x) (hv : Vis X.env.scope x) (hd : (x == ("__debug__" : Str)) = false := by decide) (hcd : (x == ("__classdict__" : Str)) = false := by decide) :
    PE X (.Name x pos) (tD X.K C (mVar i)) := pe_imp (pe_var hN hv hd hcd) td_var
theorem td_c {v : V} {d : PyData} (r : ∀ F, Rp K F v d) : ∀ σ H Q, tD K C (mC d) σ H Q → tC v σ H Q := by
  rintro σ H Q ⟨F, sd, Qd, R, h, k⟩
  exact k v H F d sd R .refl (r F) h
theorem pd_int {i : Int} {j} {pos : Pos} : PE X (.Constant (.int i) j pos) (tD X.K C (mC (.int i))) := pe_imp pe_int (td_c fun _ => .int i)
theorem pd_bl {b : Bool} {j} {pos : Pos} : PE X (.Constant (.bool b) j pos) (tD X.K C (mC (.bool b))) := pe_imp pe_bl (td_c fun _ => .bl b)
theorem pd_non {j} {pos : Pos} : PE X (.Constant .none j pos) (tD X.K C (mC .none)) := pe_imp pe_non (td_c fun _ => .non)
theorem pd_str {x : Str} {j} {pos : Pos} : PE X (.Constant (.str x) j pos) (tD X.K C (mC (.str x))) := pe_imp pe_str (td_c fun _ => .str x)
/-- a module's constant -/
theorem pd_glob {x : Str} {v : V} {u : Value} {d : PyData} {pos : Pos} (hm : X.mg x = some u) (r : RelV v u) (q : ∀ F, Rp X.K F v d) (hg : Gl X x := by rfl) (hd : (x == ("__debug__" : Str)) = false := by decide) :
    PE X (.Name x pos) (tD X.K C (mC d)) := pe_imp (pe_glob hg hm r hd) (td_c q)
/-- what r asks of two values, told by f on data -/
def RL2 (K : PySem.W.Frag) (r : R2) (f : PyData → PyData → Option PyData) : Prop :=
  ∀ (F H : Hp) (x y : V) (a b z : PyData) (Q : VK), Same F H → (∀ p, H p = none → F p = none) → Rp K F x a → Rp K F y b → f a b = some z → (∀ v F' H', Al F H F' H' → Rp K F' v z → Q v H') → r x y H Q
theorem td_op2 {r : R2} {f : PyData → PyData → Option PyData} {ma mb : ME} (L : RL2 K r f) : ∀ σ H Q, tD K C (mOp2 f ma mb) σ H Q → tOp r (tD K C ma) (tD K C mb) σ H Q := by
  rintro σ H Q ⟨F, sd, Qd, R, h, k⟩
  refine ⟨F, sd, _, R, h, fun x H1 F1 a sd1 R1 S1 rx h1 => ⟨F1, sd1, _, R1, h1, fun y H2 F2 b sd2 R2 S2 ry h2 => ?_⟩⟩
  obtain ⟨z, e, q⟩ := h2
  exact L F2 H2 x y a b z Q R2.ext (fun p => R2.free) (rx.mono S2.fr) ry e fun v F' H' al rz => k v H' F' z sd2 (R2.al al) ((S1.trans S2).trans (.al R2 al)) rz q
theorem pd_op {op} {r : R2} {f : PyData → PyData → Option PyData} {ma mb : ME} {a b : Expr} {pos : Pos} (ho : OpR X (binaryOp op) r) (L : RL2 X.K r f) (ha : PE X a (tD X.K C ma)) (hb : PE X b (tD X.K C mb)) :
    PE X (.BinOp a op b pos) (tD X.K C (mOp2 f ma mb)) := pe_imp (pe_op ho ha hb) (td_op2 L)
theorem pd_cmp {op} {r : R2} {f : PyData → PyData → Option PyData} {ma mb : ME} {a b : Expr} {pos : Pos} (ho : OpR X (compareOp op) r) (L : RL2 X.K r f) (ha : PE X a (tD X.K C ma)) (hb : PE X b (tD X.K C mb)) (hm : behindInMarks op b = false) :
    PE X (.Compare a [op] [b] pos) (tD X.K C (mOp2 f ma mb)) := pe_imp (pe_cmpR ho ha hb hm) (td_op2 L)
theorem td_test {te : TE} {m : ME} (h : ∀ σ H Q, tD K C m σ H Q → te σ H Q) : ∀ σ H Q, tDT K C (mT m) σ H Q → tTest te σ H Q := by
  rintro σ H Q ⟨F, sd, Qd, R, h1, k⟩
  refine h σ H _ ⟨F, sd, _, R, h1, fun v H' F' d sd' R' S r q => ?_⟩
  obtain ⟨c, rfl, q⟩ := q
  cases r
  exact ⟨c, rfl, k c H' F' sd' R' S q⟩
theorem td_tB {te : TE} {m : ME} (h : ∀ σ H Q, tD K C m σ H Q → te σ H Q) : ∀ σ H Q, tDT K C (mT m) σ H Q → tB te σ H Q := by
  rintro σ H Q ⟨F, sd, Qd, R, h1, k⟩
  refine h σ H _ ⟨F, sd, _, R, h1, fun v H' F' d sd' R' S r q => ?_⟩
  obtain ⟨c, rfl, q⟩ := q
  cases r
  exact ⟨c, rfl, k c H' F' sd' R' S q⟩
theorem pdt_cmp {op} {r : R2} {f : PyData → PyData → Option PyData} {ma mb : ME} {a b : Expr} {pos : Pos} (ho : OpR X (compareOp op) r) (L : RL2 X.K r f) (ha : PE X a (tD X.K C ma)) (hb : PE X b (tD X.K C mb)) (hm : behindInMarks op b = false) :
    PT X (.Compare a [op] [b] pos) (tDT X.K C (mT (mOp2 f ma mb))) := pt_imp (pt_cmpR ho ha hb hm) (td_test (td_op2 L))
theorem pdt_val {e : Expr} {m : ME} (h : PE X e (tD X.K C m)) (he : ∀ whole, isTrue e X.env whole = (do let v ← whole; standAt e.pos; holding [v] (truthy v)) := by intro _; rfl) : PT X e (tDT X.K C (mT m)) :=
  pt_imp (pt_val h he) (td_tB fun _ _ _ q => q)
theorem pdt_not {e : Expr} {t : MT} {pos : Pos} (h : PT X e (tDT X.K C t)) : PT X (.UnaryOp .Not e pos) (tDT X.K C (mTNot t)) := pt_imp (pt_not h) (by
  rintro σ H Q ⟨F, sd, Qd, R, h1, k⟩
  exact ⟨F, sd, _, R, h1, fun b H' F' sd' R' S q => k (!b) H' F' sd' R' S q⟩)
theorem pdw_and1 {a : Expr} {t : MT} {pos : Pos} (h : PT X a (tDT X.K C t)) : PW X (.BoolOp .And [a] pos) (tDT X.K C t) := pw_and1 h
theorem pdw_or1 {a : Expr} {t : MT} {pos : Pos} (h : PT X a (tDT X.K C t)) : PW X (.BoolOp .Or [a] pos) (tDT X.K C t) := pw_or1 h
theorem pdw_and {a b : Expr} {rest : List Expr} {t u : MT} {pos : Pos} (ha : PT X a (tDT X.K C t)) (hb : PW X (.BoolOp .And (b :: rest) pos) (tDT X.K C u)) : PW X (.BoolOp .And (a :: b :: rest) pos) (tDT X.K C (mTAnd t u)) := pw_imp (pw_and ha hb) (by
  rintro σ H Q ⟨F, sd, Qd, R, h1, k⟩
  refine ⟨F, sd, _, R, h1, fun b H' F' sd' R' S q => ?_⟩
  cases b with
  | true => exact ⟨F', sd', Qd, R', q, fun b2 H2 F2 sd2 R2 S2 q2 => k b2 H2 F2 sd2 R2 (S.trans S2) q2⟩
  | false => exact k false H' F' sd' R' S q)
theorem pdw_or {a b : Expr} {rest : List Expr} {t u : MT} {pos : Pos} (ha : PT X a (tDT X.K C t)) (hb : PW X (.BoolOp .Or (b :: rest) pos) (tDT X.K C u)) : PW X (.BoolOp .Or (a :: b :: rest) pos) (tDT X.K C (mTOr t u)) := pw_imp (pw_or ha hb) (by
  rintro σ H Q ⟨F, sd, Qd, R, h1, k⟩
  refine ⟨F, sd, _, R, h1, fun b H' F' sd' R' S q => ?_⟩
  cases b with
  | true => exact k true H' F' sd' R' S q
  | false => exact ⟨F', sd', Qd, R', q, fun b2 H2 F2 sd2 R2 S2 q2 => k b2 H2 F2 sd2 R2 (S.trans S2) q2⟩)
theorem pd_and {a b : Expr} {rest : List Expr} {ma mb : ME} {pos : Pos} (ha : PE X a (tD X.K C ma)) (hb : PE X (.BoolOp .And (b :: rest) pos) (tD X.K C mb)) : PE X (.BoolOp .And (a :: b :: rest) pos) (tD X.K C (mAnd ma mb)) := pe_imp (pe_and ha hb) (by
  rintro σ H Q ⟨F, sd, Qd, R, h1, k⟩
  refine ⟨F, sd, _, R, h1, fun v H' F' d sd' R' S r q => ?_⟩
  obtain ⟨c, rfl, q⟩ := q
  cases r
  refine ⟨c, rfl, ?_⟩
  cases c with
  | true => exact ⟨F', sd', Qd, R', q, fun b2 H2 F2 d2 sd2 R2 S2 r2 q2 => k b2 H2 F2 d2 sd2 R2 (S.trans S2) r2 q2⟩
  | false => exact k (.bl false) H' F' _ sd' R' S (.bl false) q)
theorem pd_or {a b : Expr} {rest : List Expr} {ma mb : ME} {pos : Pos} (ha : PE X a (tD X.K C ma)) (hb : PE X (.BoolOp .Or (b :: rest) pos) (tD X.K C mb)) : PE X (.BoolOp .Or (a :: b :: rest) pos) (tD X.K C (mOr ma mb)) := pe_imp (pe_or ha hb) (by
  rintro σ H Q ⟨F, sd, Qd, R, h1, k⟩
  refine ⟨F, sd, _, R, h1, fun v H' F' d sd' R' S r q => ?_⟩
  obtain ⟨c, rfl, q⟩ := q
  cases r
  refine ⟨c, rfl, ?_⟩
  cases c with
  | true => exact k (.bl true) H' F' _ sd' R' S (.bl true) q
  | false => exact ⟨F', sd', Qd, R', q, fun b2 H2 F2 d2 sd2 R2 S2 r2 q2 => k b2 H2 F2 d2 sd2 R2 (S.trans S2) r2 q2⟩)
theorem pd_not {a : Expr} {ma : ME} {pos : Pos} (ha : PE X a (tD X.K C ma)) : PE X (.UnaryOp .Not a pos) (tD X.K C (mNot ma)) := pe_imp (pe_not ha) (by
  rintro σ H Q ⟨F, sd, Qd, R, h1, k⟩
  refine ⟨F, sd, _, R, h1, fun v H' F' d sd' R' S r q => ?_⟩
  obtain ⟨c, rfl, q⟩ := q
  cases r
  exact ⟨c, rfl, k (.bl (!c)) H' F' _ sd' R' S (.bl _) q⟩)
theorem pd_one {op} {a : Expr} {m : ME} {pos : Pos} (h : PE X a (tD X.K C m)) : PE X (.BoolOp op [a] pos) (tD X.K C m) := pe_one h
theorem pd_ifE {c a b : Expr} {t : MT} {ma mb : ME} {pos : Pos} (hc : PT X c (tDT X.K C t)) (ha : PE X a (tD X.K C ma)) (hb : PE X b (tD X.K C mb)) : PE X (.IfExp c a b pos) (tD X.K C (mIfE t ma mb)) := pe_imp (pe_ifExp hc ha hb) (by
  rintro σ H Q ⟨F, sd, Qd, R, h1, k⟩
  refine ⟨F, sd, _, R, h1, fun b H' F' sd' R' S q => ?_⟩
  cases b with
  | true => exact ⟨F', sd', Qd, R', q, fun b2 H2 F2 d2 sd2 R2 S2 r2 q2 => k b2 H2 F2 d2 sd2 R2 (S.trans S2) r2 q2⟩
  | false => exact ⟨F', sd', Qd, R', q, fun b2 H2 F2 d2 sd2 R2 S2 r2 q2 => k b2 H2 F2 d2 sd2 R2 (S.trans S2) r2 q2⟩)
theorem pd_chain {op op'} {r r' : R2} {f g : PyData → PyData → Option PyData} {a b c : Expr} {ma mb mc : ME} {pos : Pos} (ho : OpR X (compareOp op) r) (ho' : OpR X (compareOp op') r') (L : RL2 X.K r f) (L' : RL2 X.K r' g)
    (ha : PE X a (tD X.K C ma)) (hb : PE X b (tD X.K C mb)) (hc : PE X c (tD X.K C mc)) (hu : ∀ {a b : PyData} {z : PyData}, f a b = some z → ∃ k, z = .bool k) (t : PE X (.Compare a [op, op'] [b, c] pos) (tChain r r' (tD X.K C ma) (tD X.K C mb) (tD X.K C mc))) :
    PE X (.Compare a [op, op'] [b, c] pos) (tD X.K C (mChain f g ma mb mc)) := pe_imp t (by
  rintro σ H Q ⟨F, sd, Qd, R, h, k⟩
  refine ⟨F, sd, _, R, h, fun x H1 F1 a sd1 R1 S1 rx h1 => ⟨F1, sd1, _, R1, h1, fun y H2 F2 b sd2 R2 S2 ry h2 => ?_⟩⟩
  obtain ⟨cc, e, q⟩ := h2
  refine L F2 H2 x y a b (.bool cc) _ R2.ext (fun p => R2.free) (rx.mono S2.fr) ry e fun v F' H' al rz => ?_
  cases rz
  refine ⟨cc, rfl, ?_⟩
  have S' := (S1.trans S2).trans (.al R2 al)
  cases cc with
  | true =>
    refine ⟨F', sd2, _, R2.al al, q, fun w H3 F3 d sd3 R3 S3 rw_ h3 => ?_⟩
    obtain ⟨z2, e2, q2⟩ := h3
    refine L' F3 H3 y w b d z2 _ R3.ext (fun p => R3.free) (ry.mono ((Stp.al R2 al).fr.trans S3.fr)) rw_ e2 fun v F4 H4 al2 rz2 => k v H4 F4 z2 sd3 (R3.al al2) ((S'.trans S3).trans (.al R3 al2)) rz2 q2
  | false => exact k (.bl false) H' F' _ sd2 (R2.al al) S' (.bl false) q)
/-- one place -/
def RL1 (K : PySem.W.Frag) (r : V → Hp → VK → Prop) (f : PyData → Option PyData) : Prop :=
  ∀ (F H : Hp) (x : V) (a z : PyData) (Q : VK), Same F H → (∀ p, H p = none → F p = none) → Rp K F x a → f a = some z → (∀ v F' H', Al F H F' H' → Rp K F' v z → Q v H') → r x H Q
theorem pd_un {op} {r : V → Hp → VK → Prop} {f : PyData → Option PyData} {ma : ME} {a : Expr} {pos : Pos} (ho : UnR X (unaryOp op) r) (L : RL1 X.K r f) (ha : PE X a (tD X.K C ma)) : PE X (.UnaryOp op a pos) (tD X.K C (mOp1 f ma)) := pe_imp (pe_un ho ha) (by
  rintro σ H Q ⟨F, sd, Qd, R, h, k⟩
  refine ⟨F, sd, _, R, h, fun x H1 F1 a sd1 R1 S1 rx h1 => ?_⟩
  obtain ⟨z, e, q⟩ := h1
  exact L F1 H1 x a z Q R1.ext (fun p => R1.free) rx e fun v F' H' al rz => k v H' F' z sd1 (R1.al al) (S1.trans (.al R1 al)) rz q)
theorem pd_ix {a b : Expr} {r : R2} {f : PyData → PyData → Option PyData} {ma mb : ME} {pos : Pos} (hr : IxR X r) (L : RL2 X.K r f) (ha : PE X a (tD X.K C ma)) (hb : PE X b (tD X.K C mb)) (hs : PlainIx b := by exact fun _ _ => rfl) :
    PE X (.Subscript a b pos) (tD X.K C (mOp2 f ma mb)) := pe_imp (pe_ix hr ha hb hs) (td_op2 L)
theorem pda_nil : PA X [] (tDA X.K C mNil) := pa_imp pa_nil (by
  rintro σ H Q ⟨F, sd, Qd, R, h, k⟩
  exact k [] H F [] sd R .refl .nil h)
theorem td_cons {me : ME} {ma : MA} : ∀ σ H Q, tDA K C (mCons me ma) σ H Q → tCons (tD K C me) (tDA K C ma) σ H Q := by
  rintro σ H Q ⟨F, sd, Qd, R, h, k⟩
  exact ⟨F, sd, _, R, h, fun x H1 F1 a sd1 R1 S1 rx h1 => ⟨F1, sd1, _, R1, h1, fun ys H2 F2 ds sd2 R2 S2 ry h2 => k (x :: ys) H2 F2 (a :: ds) sd2 R2 (S1.trans S2) (.cons (rx.mono S2.fr) ry) h2⟩⟩
theorem pda_cons {e : Expr} {es : List Expr} {me : ME} {ma : MA} (he : PE X e (tD X.K C me)) (hr : PA X es (tDA X.K C ma)) (hs : starEach (e :: es) X.env = (false, eval e X.env) :: starEach es X.env := by rfl) : PA X (e :: es) (tDA X.K C (mCons me ma)) :=
  pa_imp (pa_cons he hr hs) td_cons
theorem pdk_nil : PK X [] (tDA X.K C mNil) := pk_imp pk_nil (by
  rintro σ H Q ⟨F, sd, Qd, R, h, k⟩
  exact k [] H F [] sd R .refl .nil h)
theorem pdk_cons {nm : Option Str} {e : Expr} {kpos : Pos} {es : List Keyword} {me : ME} {ma : MA} (he : PE X e (tD X.K C me)) (hr : PK X es (tDA X.K C ma)) : PK X (⟨nm, e, kpos⟩ :: es) (tDA X.K C (mCons me ma)) :=
  pk_imp (pk_cons he hr) td_cons
theorem pd_tup {es : List Expr} {x1} {ma : MA} {pos : Pos} (h : PA X es (tDA X.K C ma)) : PE X (.Tuple es x1 pos) (tD X.K C (mTup ma)) := pe_imp (pe_tup h) (by
  rintro σ H Q ⟨F, sd, Qd, R, h, k⟩
  refine ⟨F, sd, _, R, h, fun vs H1 F1 ds sd1 R1 S1 rs q => ⟨?_, fun p hp => ?_⟩⟩
  · rw [rs.length]; exact Nat.le_trans q.1 (by decide)
  · exact k (.ref p) _ (upd F1 p (.tup vs)) _ sd1 (R1.al (.new hp)) (S1.trans (.al R1 (.new hp))) (.tup (.inl (.inl upd_same)) (rs.mono (same_new (R1.free hp)))) q.2)
theorem td_lst {ma : MA} : ∀ σ H Q, tDR K C (mrLst ma) σ H Q → tLst (tDA K C ma) σ H Q := by
  rintro σ H Q ⟨F, sd, Qd, R, h, k⟩
  refine ⟨F, sd, _, R, h, fun vs H1 F1 ds sd1 R1 S1 rs q => ⟨?_, fun p hp => ?_⟩⟩
  · rw [rs.length]; exact Nat.le_trans q.1 (by decide)
  · have R2 := R1.allocH (o := .lst vs) hp
    refine k (.ref p) _ F1 (.own ds) sd1 R2 (S1.trans ⟨Same.refl _, fun a o e _ => same_new hp a o e, fun _ z => z, fun _ _ e => .inl e, fun a e => ?_⟩) ⟨p, vs, rfl, upd_same, R1.free hp, R1.still p hp, rs⟩ (fun _ q' e => ?_) (fun _ q' e => ?_) q.2
    · by_cases z : a = p
      · subst z; exact hp
      · rw [upd_ne z] at e; exact e
    · cases e
      rintro ⟨i, o, e⟩
      have hs := R1.slot i
      cases es : sget sd1 i with
      | no => rw [es] at o; cases o
      | va d => rw [es] at o; cases o
      | scr d => rw [es] at o; cases o
      | exc d => rw [es] at o; cases o
      | ins c fs => rw [es] at hs; obtain ⟨q2, _, _, _, e1, e2, _⟩ := hs; rw [e] at e1; cases e1; rw [hp] at e2; cases e2
      | own ds' => rw [es] at hs; obtain ⟨q2, vs2, e1, e2, _⟩ := hs; rw [e] at e1; cases e1; rw [hp] at e2; cases e2
      | well n => rw [es] at hs; obtain ⟨q2, _, _, _, e1, e2, _⟩ := hs; rw [e] at e1; cases e1; rw [hp] at e2; cases e2
    · cases e
      have := S1.st p hp
      exact this
theorem td_lstV {ma : MA} : ∀ σ H Q, tD K C (mLst ma) σ H Q → tLst (tDA K C ma) σ H Q := by
  rintro σ H Q ⟨F, sd, Qd, R, h, k⟩
  refine ⟨F, sd, _, R, h, fun vs H1 F1 ds sd1 R1 S1 rs q => ⟨?_, fun p hp => ?_⟩⟩
  · rw [rs.length]; exact Nat.le_trans q.1 (by decide)
  · exact k (.ref p) _ (upd F1 p (.lst vs)) _ sd1 (R1.al (.new hp)) (S1.trans (.al R1 (.new hp))) (.lst upd_same (rs.mono (same_new (R1.free hp)))) q.2
theorem pd_lst {es : List Expr} {ma : MA} {pos : Pos} (h : PA X es (tDA X.K C ma)) : PE X (.List es pos) (tD X.K C (mLst ma)) := pe_imp (pe_lst h) td_lstV
theorem pdr_lst {es : List Expr} {ma : MA} {pos : Pos} (h : PA X es (tDA X.K C ma)) : PE X (.List es pos) (tDR X.K C (mrLst ma)) := pe_imp (pe_lst h) td_lst
theorem pdr_of {e : Expr} {m : ME} (h : PE X e (tD X.K C m)) : PE X e (tDR X.K C (mrOf m)) := pe_imp h (by
  rintro σ H Q ⟨F, sd, Qd, R, h, k⟩
  exact ⟨F, sd, _, R, h, fun v H' F' d sd' R' S r q => k v H' F' (.va d) sd' R' S ⟨v, rfl, r⟩ (fun z => nomatch z) (fun z => nomatch z) q⟩)
def RLC (K : PySem.W.Frag) (r : List V → Hp → VK → Prop) (f : List PyData → Option PyData) : Prop :=
  ∀ (F H : Hp) (xs : List V) (as : List PyData) (z : PyData) (Q : VK), Same F H → (∀ p, H p = none → F p = none) → RpA K F xs as → f as = some z → (∀ v F' H', Al F H F' H' → Rp K F' v z → Q v H') → r xs H Q
theorem td_cb {r : List V → Hp → VK → Prop} {f : List PyData → Option PyData} {ma : MA} (L : RLC K r f) : ∀ σ H Q, tD K C (mCallB f ma) σ H Q → tCB r (tDA K C ma) σ H Q := by
  rintro σ H Q ⟨F, sd, Qd, R, h, k⟩
  refine ⟨F, sd, _, R, h, fun xs H1 F1 as sd1 R1 S1 rx h1 => ?_⟩
  obtain ⟨z, e, q⟩ := h1
  exact L F1 H1 xs as z Q R1.ext (fun p => R1.free) rx e fun v F' H' al rz => k v H' F' z sd1 (R1.al al) (S1.trans (.al R1 al)) rz q
theorem pd_callB {id : String} {x : Str} {p pos : Pos} {e : Expr} {es : List Expr} {r : List V → Hp → VK → Prop} {f : List PyData → Option PyData} {ma : MA} (hc : CallR X (.builtin id) r) (L : RLC X.K r f) (hm : X.mg x = none) (hv : bootBuiltins x = some (.builtin id))
    (ha : PA X (e :: es) (tDA X.K C ma)) (hg : Gl X x := by rfl) (hn : x ≠ "__name__" := by decide) (hdb : (x == ("__debug__" : Str)) = false := by decide)
    (he : starEach (e :: es) X.env = (false, eval e X.env) :: starEach es X.env := by rfl) (hpl : (backTo pos (starEach es X.env)).any (·.1) = false := by rfl) : PE X (.Call (.Name x p) (e :: es) [] pos) (tD X.K C (mCallB f ma)) :=
  pe_imp (pe_callB hc hg hm hv ha hn hdb he hpl) (td_cb L)
theorem pd_callTy {T : String} {x : Str} {p pos : Pos} {e : Expr} {es : List Expr} {r : List V → Hp → VK → Prop} {f : List PyData → Option PyData} {ma : MA} (hc : CallR X (.type T) r) (L : RLC X.K r f) (hm : X.mg x = none) (hv : bootBuiltins x = some (.type T))
    (ha : PA X (e :: es) (tDA X.K C ma)) (hg : Gl X x := by rfl) (hn : x ≠ "__name__" := by decide) (hdb : (x == ("__debug__" : Str)) = false := by decide)
    (he : starEach (e :: es) X.env = (false, eval e X.env) :: starEach es X.env := by rfl) (hpl : (backTo pos (starEach es X.env)).any (·.1) = false := by rfl) : PE X (.Call (.Name x p) (e :: es) [] pos) (tD X.K C (mCallB f ma)) :=
  pe_imp (pe_callTy hc hg hm hv ha hn hdb he hpl) (td_cb L)
/-- a builtin that is a module's name (math.gcd) -/
theorem pd_slice {e : Expr} {lo hi : Option Expr} {p2 pos : Pos} {r : V → Option Int → Option Int → Hp → VK → Prop} {f : PyData → Option Int → Option Int → Option PyData} {me : ME} {ml mh : DSt → (Option Int → DSt → Prop) → Prop} {tl th : TO}
    (L : ∀ (F H : Hp) (x : V) (a z : PyData) (lo hi : Option Int) (Q : VK), Same F H → (∀ p, H p = none → F p = none) → Rp X.K F x a → f a lo hi = some z → (∀ v F' H', Al F H F' H' → Rp X.K F' v z → Q v H') → r x lo hi H Q)
    (hl : ∀ σ H Q F sd Qd, Rs X.K C F H σ sd → ml sd Qd → (∀ o H' F' sd', Rs X.K C F' H' σ sd' → Stp σ sd F H F' H' sd' → Qd o sd' → Q o H') → tl σ H Q)
    (hh : ∀ σ H Q F sd Qd, Rs X.K C F H σ sd → mh sd Qd → (∀ o H' F' sd', Rs X.K C F' H' σ sd' → Stp σ sd F H F' H' sd' → Qd o sd' → Q o H') → th σ H Q)
    (t : PE X (.Subscript e (.Slice lo hi none p2) pos) (tSl r (tD X.K C me) tl th)) : PE X (.Subscript e (.Slice lo hi none p2) pos) (tD X.K C (mSl f me ml mh)) := pe_imp t (by
  rintro σ H Q ⟨F, sd, Qd, R, h, k⟩
  refine ⟨F, sd, _, R, h, fun x H1 F1 a sd1 R1 S1 rx h1 => ?_⟩
  refine hl σ H1 _ F1 sd1 _ R1 h1 fun l H2 F2 sd2 R2 S2 h2 => ?_
  refine hh σ H2 _ F2 sd2 _ R2 h2 fun u H3 F3 sd3 R3 S3 h3 => ?_
  obtain ⟨z, e, q⟩ := h3
  exact L F3 H3 x a z l u Q R3.ext (fun p => R3.free) (rx.mono (S2.fr.trans S3.fr)) e fun v F' H' al rz => k v H' F' z sd3 (R3.al al) (((S1.trans S2).trans S3).trans (.al R3 al)) rz q)
end
end DL
namespace DL
open PySem PySem.Spec PyProof.Rows L2
theorem opR_or {X : Cx} {f : Value → Value → Sem Value} {r r' : R2} (h : OpR X f r) (h' : OpR X f r') : OpR X f (fun x y H Q => r x y H Q ∨ r' x y H Q) :=
  fun pins s σ H x y v u Q I rx ry q => q.elim (h pins s σ H x y v u Q I rx ry) (h' pins s σ H x y v u Q I rx ry)
theorem callR_or {X : Cx} {f : Value} {r r' : List V → Hp → VK → Prop} (h : CallR X f r) (h' : CallR X f r') : CallR X f (fun xs H Q => r xs H Q ∨ r' xs H Q) :=
  fun pins s σ H xs us Q I rx q => q.elim (h pins s σ H xs us Q I rx) (h' pins s σ H xs us Q I rx)
theorem slR_or {X : Cx} {r r' : V → Option Int → Option Int → Hp → VK → Prop} (h : SlR X r) (h' : SlR X r') : SlR X (fun x lo hi H Q => r x lo hi H Q ∨ r' x lo hi H Q) := SlR.or h h'
theorem line_of {n : Nat} (h : n ≤ 100000) : n ≤ sizeLine := Nat.le_trans h (by decide)
theorem line_lt {n : Nat} (h : n < 100000) : n < sizeLine := Nat.lt_of_lt_of_le h (by decide)
section
variable {K : PySem.W.Frag} {X : Cx}
abbrev rAdd (K : PySem.W.Frag) : R2 := fun x y H Q => (((rI0 fun i j => V.int (i + j)) x y H Q ∨ (∃ i j, x = .str i ∧ y = .str j ∧ i.length + j.length ≤ sizeLine ∧ Q (.str (i ++ j)) H)) ∨ rCat x y H Q) ∨ rCatA K x y H Q
theorem or_add : OpR X (binaryOp .Add) (rAdd X.K) := opR_or (opR_or (opR_or op_add op_add_str) op_cat) op_catA
theorem rl_add : RL2 K (rAdd K) opAdd := by
  intro F H x y a b z Q e _ rx ry h k
  unfold opAdd at h
  split at h
  · cases rx; cases ry; cases h
    exact .inl (.inl (.inl ⟨_, _, rfl, rfl, k _ F H .id (.int _)⟩))
  · cases rx; cases ry
    split at h
    · cases h
      rename_i hl
      exact .inl (.inl (.inr ⟨_, _, rfl, rfl, line_of hl, k _ F H .id (.str _)⟩))
    · cases h
  · split at h
    · rename_i hl
      cases h
      cases rx with
      | lst h1 r1 =>
        cases ry with
        | lst h2 r2 =>
          refine .inl (.inr ⟨_, _, _, _, rfl, rfl, e _ _ h1, e _ _ h2, ?_, fun p hp => ?_⟩)
          · rw [r1.length, r2.length]; exact line_of hl
          · have hF : F p = none := by
              cases q : F p with
              | none => rfl
              | some o => rw [e _ _ q] at hp; cases hp
            exact k _ _ _ (.new hp) (.lst upd_same ((r1.append r2).mono (same_new hF)))
    · cases h
  · split at h
    · rename_i hl
      cases h
      cases rx with
      | tup h1 r1 =>
        cases ry with
        | tup h2 r2 =>
          refine .inr ⟨_, _, _, _, rfl, rfl, same_t e h1, same_t e h2, ?_, fun z => ?_, fun z1 z2 => ?_, fun z1 z2 p hp => ?_⟩
          · rw [r1.length, r2.length]; exact line_of hl
          · subst z
            cases r1
            exact k _ F H .id (.tup h2 r2)
          · subst z2
            cases r2
            rw [List.append_nil] at k
            exact k _ F H .id (.tup h1 r1)
          · have hF : F p = none := by
              cases q : F p with
              | none => rfl
              | some o => rw [e _ _ q] at hp; cases hp
            exact k _ _ _ (.new hp) (.tup (.inl (.inl upd_same)) ((r1.append r2).mono (same_new hF)))
    · cases h
  · cases h
theorem free_of {F H : Hp} {p : Addr} (e : Same F H) (hp : H p = none) : F p = none := by
  cases q : F p with
  | none => rfl
  | some o => rw [e _ _ q] at hp; cases hp
theorem rl_sub : RL2 K (rI0 fun i j => V.int (i - j)) opSub := by
  intro F H x y a b z Q e _ rx ry h k
  unfold opSub at h
  split at h
  · cases rx; cases ry; cases h
    exact ⟨_, _, rfl, rfl, k _ F H .id (.int _)⟩
  · cases h
abbrev rMul : R2 := fun x y H Q => rI CMulW (fun i j => V.int (i * j)) x y H Q ∨ rRep x y H Q
theorem or_mul : OpR X (binaryOp .Mult) rMul := opR_or op_mulW op_rep
theorem rpA_rep {F : Hp} {vs : List V} {ds : List PyData} (r : RpA K F vs ds) : ∀ n : Nat, RpA K F (List.replicate n vs).flatten (List.replicate n ds).flatten
  | 0 => .nil
  | n + 1 => by
    rw [List.replicate_succ, List.replicate_succ, List.flatten_cons, List.flatten_cons]
    exact r.append (rpA_rep r n)
theorem rl_mul : RL2 K rMul opMul := by
  intro F H x y a b z Q e _ rx ry h k
  unfold opMul at h
  split at h
  · cases rx; cases ry
    split at h
    · rename_i hs
      cases h
      exact .inl ⟨_, _, rfl, rfl, (by unfold CMulW; exact of_decide_eq_true hs), k _ F H .id (.int _)⟩
    · cases h
  · rename_i a' k'
    split at h
    · rename_i hs
      cases h
      cases ry
      cases rx with
      | lst h1 r1 =>
        refine .inr ⟨_, _, _, rfl, rfl, e _ _ h1, by omega, by omega, ?_, fun p hp => ?_⟩
        · rw [r1.length]
          have h1 : a'.length * k'.toNat ≤ 1000 * 1000 := Nat.mul_le_mul hs.2.2 (by omega)
          exact Nat.le_trans h1 (by decide)
        · exact k _ _ _ (.new hp) (.lst upd_same ((rpA_rep r1 _).mono (same_new (free_of e hp))))
    · cases h
  · cases h
theorem rl_mod : RL2 K (rI (fun _ j => 0 < j) fun i j => V.int (i % j)) opMod := by
  intro F H x y a b z Q e _ rx ry h k
  unfold opMod at h
  split at h
  · cases rx; cases ry
    split at h
    · rename_i hs
      cases h
      exact ⟨_, _, rfl, rfl, hs, k _ F H .id (.int _)⟩
    · cases h
  · cases h
theorem rl_fdiv : RL2 K (rI CDivW fun i j => V.int (i / j)) opFdiv := by
  intro F H x y a b z Q e _ rx ry h k
  unfold opFdiv at h
  split at h
  · cases rx; cases ry
    split at h
    · rename_i hs
      cases h
      exact ⟨_, _, rfl, rfl, hs, k _ F H .id (.int _)⟩
    · cases h
  · cases h
/-- ** by a small exponent -/
def CPowW (i j : Int) : Prop := 0 ≤ j ∧ j ≤ 100 ∧ i.natAbs < 2 ^ 10000
theorem op_powW : OpR X (binaryOp .Pow) (rI CPowW fun i j => .int (i ^ j.toNat)) := by
  intro pins s σ H x y v u Q I rx ry h
  obtain ⟨i, j, rfl, rfl, hc, q⟩ := h
  obtain ⟨t, rfl⟩ := rx
  obtain ⟨t', rfl⟩ := ry
  refine PyProof.Rows.pow_int hc.1 ?_ ⟨.int _, H, I.tok _, ⟨_, rfl⟩, q⟩
  have hb : Builtin.Int.intBits i ≤ 10000 := by
    unfold Builtin.Int.intBits
    split
    · exact Nat.zero_le _
    · have := PySem.Flt.log2_lt_of (by decide : 0 < 10000) hc.2.2
      omega
  have h1 := hc.1
  have h2 := hc.2.1
  have h3 : (Builtin.Int.intBits i : Int) ≤ 10000 := by exact_mod_cast hb
  have h4 : (Builtin.Int.intBits i : Int) * j ≤ 10000 * 100 := Int.mul_le_mul h3 h2 h1 (by decide)
  have h5 : (10000 * 100 : Int) ≤ 2 ^ 27 := by decide
  omega
theorem rl_pow : RL2 K (rI CPowW fun i j => V.int (i ^ j.toNat)) opPow := by
  intro F H x y a b z Q e _ rx ry h k
  unfold opPow at h
  split at h
  · cases rx; cases ry
    split at h
    · rename_i hs
      cases h
      exact ⟨_, _, rfl, rfl, hs, k _ F H .id (.int _)⟩
    · cases h
  · cases h
theorem rl_cmpI {p : Int → Int → Bool} : RL2 K (rI0 fun i j => V.bl (p i j)) (cmpI p) := by
  intro F H x y a b z Q e _ rx ry h k
  unfold cmpI at h
  split at h
  · cases rx; cases ry; cases h
    exact ⟨_, _, rfl, rfl, k _ F H .id (.bl _)⟩
  · cases h
theorem strs_of {a b : PyData} {p : Str × Str} (h : strs? a b = some p) : a = .str p.1 ∧ b = .str p.2 := by
  unfold strs? at h
  split at h
  · cases h; exact ⟨rfl, rfl⟩
  · cases h
theorem or_eqD (hu : X.A.units + 64 < cLine) : OpR X (compareOp .Eq) (fun x y H Q => rEqD X.K x y H Q ∨ rEq x y H Q) := opR_or (op_eqD hu) op_eq
theorem or_neD (hu : X.A.units + 64 < cLine) : OpR X (compareOp .NotEq) (fun x y H Q => rNeD X.K x y H Q ∨ rNe x y H Q) := opR_or (op_neD hu) op_ne
theorem dec_v {x y : Str} : decide (V.str x = V.str y) = decide (x = y) := by
  by_cases h : x = y <;> simp [h]
theorem rl_eq : RL2 K (fun x y H Q => rEqD K x y H Q ∨ rEq x y H Q) opEq := by
  intro F H x y a b z Q e _ rx ry h k
  unfold opEq at h
  split at h
  · rename_i hs
    cases h
    rw [Bool.and_eq_true] at hs
    exact .inl ⟨a, b, rx.dp e (SeqAt.canLay_of_shaped hs.1), ry.dp e (SeqAt.canLay_of_shaped hs.2), hs.1, hs.2, k _ F H .id (.bl _)⟩
  · obtain ⟨p, hp, h⟩ := Option.map_eq_some_iff.mp h
    obtain ⟨rfl, rfl⟩ := strs_of hp
    cases h
    cases rx; cases ry
    refine .inr ⟨rfl, ?_⟩
    rw [dec_v]
    exact k _ F H .id (.bl _)
theorem rl_ne : RL2 K (fun x y H Q => rNeD K x y H Q ∨ rNe x y H Q) opNe := by
  intro F H x y a b z Q e _ rx ry h k
  unfold opNe at h
  split at h
  · rename_i hs
    cases h
    rw [Bool.and_eq_true] at hs
    exact .inl ⟨a, b, rx.dp e (SeqAt.canLay_of_shaped hs.1), ry.dp e (SeqAt.canLay_of_shaped hs.2), hs.1, hs.2, k _ F H .id (.bl _)⟩
  · obtain ⟨p, hp, h⟩ := Option.map_eq_some_iff.mp h
    obtain ⟨rfl, rfl⟩ := strs_of hp
    cases h
    cases rx; cases ry
    refine .inr ⟨rfl, ?_⟩
    rw [dec_v]
    exact k _ F H .id (.bl _)
theorem isN_of {F : Hp} {x : V} {a : PyData} (r : Rp K F x a) : decide (x = .non) = isN a := by
  cases r <;> rfl
abbrev rIsNone : R2 := fun x y H Q => y = .non ∧ Q (.bl (decide (x = .non))) H
abbrev rNotNone : R2 := fun x y H Q => y = .non ∧ Q (.bl (!decide (x = .non))) H
theorem rl_isN : RL2 K rIsNone opIsN2 := by
  intro F H x y a b z Q e _ rx ry h k
  unfold opIsN2 at h
  split at h
  · cases ry; cases h
    refine ⟨rfl, ?_⟩
    rw [isN_of rx]
    exact k _ F H .id (.bl _)
  · cases h
theorem rl_notN : RL2 K rNotNone opNotN2 := by
  intro F H x y a b z Q e _ rx ry h k
  unfold opNotN2 at h
  split at h
  · cases ry; cases h
    refine ⟨rfl, ?_⟩
    rw [isN_of rx]
    exact k _ F H .id (.bl _)
  · cases h
theorem rl_isB : RL2 K (fun x y H Q => ∃ a b, x = V.bl a ∧ y = V.bl b ∧ Q (.bl (decide (a = b))) H) opIsB := by
  intro F H x y a b z Q e _ rx ry h k
  unfold opIsB at h
  split at h
  · cases rx; cases ry; cases h
    exact ⟨_, _, rfl, rfl, k _ F H .id (.bl _)⟩
  · cases h
theorem rl_notB : RL2 K (fun x y H Q => ∃ a b, x = V.bl a ∧ y = V.bl b ∧ Q (.bl (!decide (a = b))) H) opNotB := by
  intro F H x y a b z Q e _ rx ry h k
  unfold opNotB at h
  split at h
  · cases rx; cases ry; cases h
    exact ⟨_, _, rfl, rfl, k _ F H .id (.bl _)⟩
  · cases h
theorem rl_neg : RL1 K (rU fun i => V.int (-i)) opNeg := by
  intro F H x a z Q e _ rx h k
  unfold opNeg at h
  split at h
  · cases rx; cases h
    exact ⟨_, rfl, k _ F H .id (.int _)⟩
  · cases h
theorem atI_rpA {F : Hp} {vs : List V} {ds : List PyData} {i : Int} {d : PyData} (r : RpA K F vs ds) (h : DL.atI ds i = some d) : ∃ v, L2.atI vs i = some v ∧ Rp K F v d := by
  unfold DL.atI at h
  unfold L2.atI
  rw [r.length]
  show ∃ v, ((DL.ixN ds.length i).bind fun j => vs[j]?) = some v ∧ _
  cases e : DL.ixN ds.length i with
  | none => rw [e] at h; cases h
  | some j => rw [e] at h; exact r.get h
theorem rl_ix : RL2 K (rIx K) opIx := by
  intro F H x y a b z Q e _ rx ry h k
  unfold opIx at h
  split at h
  · cases ry
    cases rx with
    | lst h1 r1 =>
      obtain ⟨v, e1, r⟩ := atI_rpA r1 h
      exact .inl ⟨_, _, _, v, rfl, rfl, .inl (.inl (e _ _ h1)), e1, k v F H .id r⟩
  · cases ry
    cases rx with
    | tup h1 r1 =>
      obtain ⟨v, e1, r⟩ := atI_rpA r1 h
      exact .inr (.inl ⟨_, _, _, v, rfl, rfl, same_t e h1, e1, k v F H .id r⟩)
  · cases ry; cases rx
    split at h
    · rename_i z' i' hl
      cases e1 : DL.atI z'.cps.toList i' with
      | none => rw [e1] at h; cases h
      | some c =>
        rw [e1] at h
        cases h
        exact .inr (.inr ⟨_, _, c, rfl, rfl, line_of hl, e1, k _ F H .id (.str _)⟩)
    · cases h
  · cases h
theorem eqV_rp {F : Hp} {x y : V} {a b : PyData} (rx : Rp K F x a) (ry : Rp K F y b) (ha : flatD a = true) (hb : flatD b = true) : eqV x y = PyData.eqv a b := by
  cases rx <;> first | (cases ha; done) | (cases ry <;> first | (cases hb; done) | (simp only [eqV, PyData.eqv]))
theorem flatV_rp {F : Hp} {x : V} {a : PyData} (rx : Rp K F x a) (ha : flatD a = true) : flatV x = true := by
  cases rx <;> first | rfl | (cases ha; done)
theorem inV_rpA {F : Hp} {x : V} {a : PyData} (rx : Rp K F x a) (ha : flatD a = true) : ∀ {vs : List V} {ds : List PyData}, RpA K F vs ds → ds.all flatD = true → inV x vs = ds.any (fun d => PyData.eqv d a) ∧ vs.all flatV = true
  | _, _, .nil, _ => ⟨rfl, rfl⟩
  | v :: vs, d :: ds, .cons h r, hf => by
    rw [List.all_cons, Bool.and_eq_true] at hf
    obtain ⟨i1, i2⟩ := inV_rpA rx ha r hf.2
    refine ⟨?_, ?_⟩
    · show (eqV v x || inV x vs) = _
      rw [List.any_cons, eqV_rp h rx hf.1 ha, i1]
    · rw [List.all_cons, flatV_rp h hf.1, i2]; rfl
theorem rl_inG {neg : Bool} : RL2 K (rIn K neg) (opInS neg) := by
  intro F H x y a b z Q e _ rx ry h k
  unfold opInS at h
  cases hb : items b with
  | none => rw [hb] at h; cases h
  | some ds =>
    rw [hb] at h
    simp only [Option.bind_some] at h
    split at h
    · rename_i hs
      cases h
      rw [Bool.and_eq_true] at hs
      cases ry with
      | lst h1 r1 =>
        cases hb
        obtain ⟨i1, i2⟩ := inV_rpA rx hs.1 r1 hs.2
        refine ⟨_, _, rfl, .inl (.inl (.inl (e _ _ h1))), flatV_rp rx hs.1, i2, ?_⟩
        rw [i1]
        cases neg <;> exact k _ F H .id (.bl _)
      | tup h1 r1 =>
        cases hb
        obtain ⟨i1, i2⟩ := inV_rpA rx hs.1 r1 hs.2
        refine ⟨_, _, rfl, .inr (same_t e h1), flatV_rp rx hs.1, i2, ?_⟩
        rw [i1]
        cases neg <;> exact k _ F H .id (.bl _)
      | _ => cases hb
    · cases h
abbrev rInX (K : PySem.W.Frag) : R2 := fun x y H Q => rIn K false x y H Q ∨ (∃ (c : Nat) (z : Str), x = .str ⟨#[c]⟩ ∧ y = .str z ∧ Q (.bl (decide (c ∈ z.cps.toList))) H)
abbrev rNotInX (K : PySem.W.Frag) : R2 := fun x y H Q => rIn K true x y H Q ∨ (∃ (c : Nat) (z : Str), x = .str ⟨#[c]⟩ ∧ y = .str z ∧ Q (.bl (!decide (c ∈ z.cps.toList))) H)
theorem or_in : OpR X (compareOp .In) (rInX X.K) := opR_or op_in_seq op_in_sign
theorem or_notIn : OpR X (compareOp .NotIn) (rNotInX X.K) := opR_or op_notIn_seq op_notIn_sign
theorem rl_in : RL2 K (rInX K) opIn := by
  intro F H x y a b z Q e f rx ry h k
  unfold opIn at h
  split at h
  · cases rx; cases ry
    rename_i w1 w2
    cases hc : sign? w1 with
    | none => rw [hc] at h; cases h
    | some c =>
      rw [hc] at h
      cases h
      exact .inr ⟨c, w2, by rw [sign_of hc], rfl, k _ F H .id (.bl _)⟩
  · exact .inl (rl_inG F H x y a b z Q e f rx ry h k)
theorem rl_notIn : RL2 K (rNotInX K) opNotIn := by
  intro F H x y a b z Q e f rx ry h k
  unfold opNotIn at h
  split at h
  · cases rx; cases ry
    rename_i w1 w2
    cases hc : sign? w1 with
    | none => rw [hc] at h; cases h
    | some c =>
      rw [hc] at h
      cases h
      exact .inr ⟨c, w2, by rw [sign_of hc], rfl, k _ F H .id (.bl _)⟩
  · exact .inl (rl_inG F H x y a b z Q e f rx ry h k)
end
end DL
namespace DL
open PySem PySem.Spec PyProof.Rows L2
section
variable {K : PySem.W.Frag} {X : Cx} {C : Ct}
theorem rpA1 {F : Hp} {xs : List V} {d : PyData} (r : RpA K F xs [d]) : ∃ x, xs = [x] ∧ Rp K F x d := by
  cases r with
  | cons h t => cases t; exact ⟨_, rfl, h⟩
theorem rpA2 {F : Hp} {xs : List V} {d e : PyData} (r : RpA K F xs [d, e]) : ∃ x y, xs = [x, y] ∧ Rp K F x d ∧ Rp K F y e := by
  cases r with
  | cons h t => obtain ⟨y, rfl, g⟩ := rpA1 t; exact ⟨_, y, rfl, h, g⟩
abbrev rLenX (K : PySem.W.Frag) : List V → Hp → VK → Prop := fun xs H Q => (∃ p ys, xs = [V.ref p] ∧ (SqL K H p ys ∨ SqT K H p ys) ∧ Q (.int ys.length) H) ∨ (∃ z, xs = [V.str z] ∧ z.length ≤ sizeLine ∧ Q (.int z.length) H)
theorem cr_len : CallR X (.builtin "len") (rLenX X.K) := callR_or call_len_seq call_len_str
theorem rc_len : RLC K (rLenX K) bLen := by
  intro F H xs as z Q e _ rx h k
  unfold bLen at h
  split at h
  · obtain ⟨x, rfl, r⟩ := rpA1 rx
    cases h
    cases r with
    | lst h1 r1 =>
      refine .inl ⟨_, _, rfl, .inl (.inl (.inl (e _ _ h1))), ?_⟩
      rw [r1.length]
      exact k _ F H .id (.int _)
  · obtain ⟨x, rfl, r⟩ := rpA1 rx
    cases h
    cases r with
    | tup h1 r1 =>
      refine .inl ⟨_, _, rfl, .inr (same_t e h1), ?_⟩
      rw [r1.length]
      exact k _ F H .id (.int _)
  · obtain ⟨x, rfl, r⟩ := rpA1 rx
    cases r
    split at h
    · rename_i hl
      cases h
      exact .inr ⟨_, rfl, line_of hl, k _ F H .id (.int _)⟩
    · cases h
  · cases h
theorem rc_abs : RLC K (fun xs H Q => ∃ i, xs = [V.int i] ∧ Q (.int (if i < 0 then -i else i)) H) bAbs := by
  intro F H xs as z Q e _ rx h k
  unfold bAbs at h
  split at h
  · obtain ⟨x, rfl, r⟩ := rpA1 rx
    cases h
    cases r
    exact ⟨_, rfl, k _ F H .id (.int _)⟩
  · cases h
theorem rc_max : RLC K (fun xs H Q => ∃ i j, xs = [V.int i, V.int j] ∧ Q (.int (if j > i then j else i)) H) bMax := by
  intro F H xs as z Q e _ rx h k
  unfold bMax at h
  split at h
  · obtain ⟨x, y, rfl, r1, r2⟩ := rpA2 rx
    cases h
    cases r1; cases r2
    exact ⟨_, _, rfl, k _ F H .id (.int _)⟩
  · cases h
theorem rc_min : RLC K (fun xs H Q => ∃ i j, xs = [V.int i, V.int j] ∧ Q (.int (if j < i then j else i)) H) bMin := by
  intro F H xs as z Q e _ rx h k
  unfold bMin at h
  split at h
  · obtain ⟨x, y, rfl, r1, r2⟩ := rpA2 rx
    cases h
    cases r1; cases r2
    exact ⟨_, _, rfl, k _ F H .id (.int _)⟩
  · cases h
theorem cr_int : CallR X (.type "int") (fun xs H Q => ∃ i, xs = [V.int i] ∧ Q (.int i) H) := by
  intro pins s σ H xs us Q I r h
  obtain ⟨i, rfl, q⟩ := h
  obtain ⟨u, rfl, t, rfl⟩ := vals1 r
  exact call_int_int ⟨.int i, H, I, ⟨_, rfl⟩, q⟩
theorem rc_int : RLC K (fun xs H Q => ∃ i, xs = [V.int i] ∧ Q (.int i) H) bInt := by
  intro F H xs as z Q e _ rx h k
  unfold bInt at h
  split at h
  · obtain ⟨x, rfl, r⟩ := rpA1 rx
    cases h
    cases r
    exact ⟨_, rfl, k _ F H .id (.int _)⟩
  · cases h
theorem rc_gcd : RLC K rGcd bGcd := by
  intro F H xs as z Q e _ rx h k
  unfold bGcd at h
  split at h
  · obtain ⟨x, y, rfl, r1, r2⟩ := rpA2 rx
    cases h
    cases r1; cases r2
    exact ⟨_, _, rfl, k _ F H .id (.int _)⟩
  · cases h
theorem bools_rp {F : Hp} : ∀ {ds : List PyData} {vs : List V} {bs : List Bool}, RpA K F vs ds → bools ds = some bs → vs = bs.map V.bl
  | [], _, _, .nil, h => by cases h; rfl
  | .bool b :: r, _, _, .cons h1 h2, h => by
    unfold bools at h
    cases e : bools r with
    | none => rw [e] at h; cases h
    | some bs' =>
      rw [e] at h
      cases h
      cases h1
      rw [bools_rp h2 e]; rfl
  | .none :: _, _, _, _, h => by cases h
  | .int _ :: _, _, _, _, h => by cases h
  | .str _ :: _, _, _, _, h => by cases h
  | .list _ :: _, _, _, _, h => by cases h
  | .tuple _ :: _, _, _, _, h => by cases h
  | .dict _ :: _, _, _, _, h => by cases h
theorem rc_all : RLC K (rAll K) bAll := by
  intro F H xs as z Q e _ rx h k
  unfold bAll at h
  split at h
  · obtain ⟨x, rfl, r⟩ := rpA1 rx
    rename_i ds
    cases eb : bools ds with
    | none => rw [eb] at h; cases h
    | some bs =>
      rw [eb] at h
      cases h
      cases r with
      | lst h1 r1 =>
        have := bools_rp r1 eb
        subst this
        exact ⟨_, bs, rfl, .inl (.inl (e _ _ h1)), k _ F H .id (.bl _)⟩
  · cases h
theorem rc_any : RLC K (rAny K) bAny := by
  intro F H xs as z Q e _ rx h k
  unfold bAny at h
  split at h
  · obtain ⟨x, rfl, r⟩ := rpA1 rx
    rename_i ds
    cases eb : bools ds with
    | none => rw [eb] at h; cases h
    | some bs =>
      rw [eb] at h
      cases h
      cases r with
      | lst h1 r1 =>
        have := bools_rp r1 eb
        subst this
        exact ⟨_, bs, rfl, .inl (.inl (e _ _ h1)), k _ F H .id (.bl _)⟩
  · cases h
theorem rc_list : RLC K (fun xs H Q => ∃ p ys, xs = [V.ref p] ∧ (SqL K H p ys ∨ SqT K H p ys) ∧ ∀ l, H l = none → Q (.ref l) (upd H l (.lst ys))) bList := by
  intro F H xs as z Q e f rx h k
  unfold bList at h
  split at h
  · obtain ⟨x, rfl, r⟩ := rpA1 rx
    cases h
    cases r with
    | lst h1 r1 => exact ⟨_, _, rfl, .inl (.inl (.inl (e _ _ h1))), fun l hl => k _ _ _ (.new hl) (.lst upd_same (r1.mono (same_new (f l hl))))⟩
  · obtain ⟨x, rfl, r⟩ := rpA1 rx
    cases h
    cases r with
    | tup h1 r1 => exact ⟨_, _, rfl, .inr (same_t e h1), fun l hl => k _ _ _ (.new hl) (.lst upd_same (r1.mono (same_new (f l hl))))⟩
  · cases h
theorem pd_gcd {x : Str} {p pos : Pos} {e : Expr} {es : List Expr} {ma : MA} (hm : X.mg x = some (.builtin "math.gcd")) (ha : PA X (e :: es) (tDA X.K C ma)) (hg : Gl X x := by rfl) (hdb : (x == ("__debug__" : Str)) = false := by decide)
    (he : starEach (e :: es) X.env = (false, eval e X.env) :: starEach es X.env := by rfl) (hpl : (backTo pos (starEach es X.env)).any (·.1) = false := by rfl) : PE X (.Call (.Name x p) (e :: es) [] pos) (tD X.K C (mCallB bGcd ma)) :=
  pe_imp (pe_callBfun cr_gcd hg hm ha hdb he hpl) (td_cb rc_gcd)
theorem kMeta (k : Ki) : bootBuiltins (Str.ofString (kName k)) = some (.type (kName k)) := by cases k <;> decide +kernel
def tyD : PyData → String
  | .none => "NoneType" | .bool _ => "bool" | .int _ => "int" | .str _ => "str" | .list _ => "list" | .tuple _ => "tuple" | .dict _ => "dict"
theorem kit_d (k : Ki) (d : PyData) (h : ∀ x y, d ≠ .dict ((.none, x) :: y)) : PySem.W.kitOne K (.type (tyD d)) (.type (kName k)) = some (isK k d) := by
  cases d with
  | dict es =>
    have e : isK k (.dict es) = isK k (.dict []) := by
      cases k <;> try rfl
      cases es with
      | nil => rfl
      | cons p r =>
        obtain ⟨a, b⟩ := p
        cases a <;> first | rfl | exact absurd rfl (h _ _)
    rw [e]
    cases k <;> first | exact kit_ty (r := true) (by simp only [tyD, kName]; decide +kernel) | exact kit_ty (r := false) (by simp only [tyD, kName]; decide +kernel)
  | _ => cases k <;> first | exact kit_ty (r := true) (by simp only [tyD, kName]; decide +kernel) | exact kit_ty (r := false) (by simp only [tyD, kName]; decide +kernel)
theorem rpD_key {F : Hp} {kvs : List (Key × V)} {es : List (PyData × PyData)} {x : PyData} {y : List (PyData × PyData)} (r : RpD K F kvs es) (z : es = (.none, x) :: y) : False := by
  cases r with
  | nil => cases z
  | @cons k' _ _ _ _ _ _ =>
    have := congrArg Prod.fst (List.cons.inj z).1
    cases k' <;> cases this
/-- a value's type, and what isinstance says of it -/
theorem ty_rp {F H : Hp} {x : V} {d : PyData} (e : Same F H) (r : Rp K F x d) : ∃ t, TyX K H x t ∧ ∀ k : Ki, PySem.W.kitOne K t (.type (kName k)) = some (isK k d) := by
  cases r with
  | non => exact ⟨_, .base .non, fun k => kit_d k .none (fun _ _ => nofun)⟩
  | bl b => exact ⟨_, .base (.bl b), fun k => kit_d k (.bool b) (fun _ _ => nofun)⟩
  | int i => exact ⟨_, .base (.int i), fun k => kit_d k (.int i) (fun _ _ => nofun)⟩
  | str z => exact ⟨_, .base (.str z), fun k => kit_d k (.str z) (fun _ _ => nofun)⟩
  | lst h _ => exact ⟨_, .base (.lst (e _ _ h)), fun k => kit_d k (.list _) (fun _ _ => nofun)⟩
  | tup h _ =>
    rcases h with (h | ⟨o, h⟩) | ⟨o, its, n, h, c, _⟩
    · exact ⟨_, .base (.tup (e _ _ h)), fun k => kit_d k (.tuple _) (fun _ _ => nofun)⟩
    · exact ⟨_, .fTuple (e _ _ h), fun k => kit_d k (.tuple _) (fun _ _ => nofun)⟩
    · exact ⟨_, .kTuple h c, fun k => kit_d k (.tuple _) (fun _ _ => nofun)⟩
  | dct h rd => exact ⟨_, .base (.dK (e _ _ h)), fun k => kit_d k (.dict _) (fun x y z => by
      have z := PyData.dict.inj z
      exact rpD_key rd z)⟩
  | ins h o _ => exact ⟨_, .base (.ins (e _ _ h) o.cl o.ha o.hn o.htk o.hm), fun k => (o.kit k).trans (by cases k <;> rfl)⟩
theorem kitAny_d (d : PyData) {t : Value} (ht : ∀ k : Ki, PySem.W.kitOne K t (.type (kName k)) = some (isK k d)) : ∀ ks : List Ki, PySem.W.kitAny K t (ks.map fun k => .type (kName k)) = some (ks.any fun k => isK k d)
  | [] => kitAny_nil
  | k :: ks => by
    refine kitAny_cons (ht k) (fun h => ?_) (fun h => ?_)
    · rw [List.any_cons, h, Bool.false_or]; exact kitAny_d d ht ks
    · rw [List.any_cons, h, Bool.true_or]
theorem pd_isi1 {p p2 pos : Pos} {e : Expr} {m : ME} {T : Str} (k : Ki) (hm : X.mg "isinstance" = none) (hT : X.mg T = none) (he : PE X e (tD X.K C m)) (hv : bootBuiltins T = some (.type (kName k)) := by decide +kernel)
    (hgI : Gl X "isinstance" := by rfl) (hgT : Gl X T := by rfl) (hn : T ≠ "__name__" := by decide) (hdb : (T == ("__debug__" : Str)) = false := by decide) (hpl : (backTo pos (starEach [.Name T p2] X.env)).any (·.1) = false := by rfl)
    (hs : starEach (e :: [.Name T p2]) X.env = (false, eval e X.env) :: starEach [.Name T p2] X.env := by rfl) :
    PE X (.Call (.Name "isinstance" p) [e, .Name T p2] [] pos) (tD X.K C (mOp1 (bIsi [k]) m)) :=
  pe_imp (pe_callB call_isi hgI hm (by decide +kernel) (pa_cons he (pa_cons (pe_bltn (v := .ty (kName k)) hgT hT hv rfl hn hdb) pa_nil) hs) (by decide) (by decide) hs hpl) (by
    rintro σ H Q ⟨F, sd, Qd, R, h, kk⟩
    refine ⟨F, sd, _, R, h, fun x H1 F1 a sd1 R1 S1 rx h1 => ?_⟩
    obtain ⟨z, ez, q⟩ := h1
    cases ez
    obtain ⟨t, t1, t2⟩ := ty_rp R1.ext rx
    refine ⟨x, .ty (kName k), t, .type (kName k), [k].any fun k => isK k a, rfl, .ty _, t1, ?_, kk (.bl _) H1 F1 _ sd1 R1 S1 (.bl _) q⟩
    rw [t2]
    show some (isK k a) = some (isK k a || false)
    rw [Bool.or_false])
theorem vals_ki : ∀ ks : List Ki, Paired ClsV (ks.map fun k => V.ty (kName k)) (ks.map fun k => Value.type (kName k))
  | [] => .nil
  | _ :: ks => .cons (.ty _) (vals_ki ks)
/-- isinstance(x, (T1, T2, ..)) -/
theorem pd_isiT {p pos : Pos} {e tupE : Expr} {m : ME} (ks : List Ki) (hm : X.mg "isinstance" = none) (he : PE X e (tD X.K C m)) (ht : PE X tupE (fun σ H Q => ∀ q, H q = none → Q (.ref q) (upd H q (.tup (ks.map fun k => V.ty (kName k))))))
    (hgI : Gl X "isinstance" := by rfl) (hpl : (backTo pos (starEach [tupE] X.env)).any (·.1) = false := by rfl)
    (hs : starEach (e :: [tupE]) X.env = (false, eval e X.env) :: starEach [tupE] X.env := by rfl) (hs2 : starEach (tupE :: []) X.env = (false, eval tupE X.env) :: starEach [] X.env := by rfl) :
    PE X (.Call (.Name "isinstance" p) [e, tupE] [] pos) (tD X.K C (mOp1 (bIsi ks) m)) :=
  pe_imp (pe_callB call_isiT hgI hm (by decide +kernel) (pa_cons he (pa_cons ht pa_nil hs2) hs) (by decide) (by decide) hs hpl) (by
    rintro σ H Q ⟨F, sd, Qd, R, h, kk⟩
    refine ⟨F, sd, _, R, h, fun x H1 F1 a sd1 R1 S1 rx h1 => fun q hq => ?_⟩
    obtain ⟨z, ez, qq⟩ := h1
    cases ez
    have R2 := R1.allocH (o := .tup (ks.map fun k => V.ty (kName k))) hq
    obtain ⟨t, t1, t2⟩ := ty_rp (fun b o e => same_new hq b o (R1.ext b o e)) rx
    refine ⟨x, q, _, t, _, _, rfl, upd_same, vals_ki ks, t1, kitAny_d a t2 ks, ?_⟩
    refine kk (.bl _) _ F1 _ sd1 R2 (S1.trans ⟨Same.refl _, fun b o e _ => same_new hq b o e, fun _ z => z, fun _ _ z => .inl z, fun b e => ?_⟩) (.bl _) qq
    by_cases zb : b = q
    · subst zb; exact hq
    · rw [upd_ne zb] at e; exact e)
theorem pe_types {es : List Expr} {x1} {pos : Pos} {vs : List V} (h : PA X es (fun _ H Q => Q vs H)) (hl : vs.length ≤ 100) : PE X (.Tuple es x1 pos) (fun σ H Q => ∀ q, H q = none → Q (.ref q) (upd H q (.tup vs))) :=
  pe_imp (pe_tup h) fun σ H Q q => ⟨Nat.le_trans hl (by decide), q⟩
theorem pa_types {es : List Expr} {T : Str} {p2 : Pos} {vs : List V} (k : Ki) (hT : X.mg T = none) (h : PA X es (fun _ H Q => Q vs H)) (hv : bootBuiltins T = some (.type (kName k)) := by decide +kernel) (hgT : Gl X T := by rfl) (hn : T ≠ "__name__" := by decide)
    (hdb : (T == ("__debug__" : Str)) = false := by decide) (hs : starEach (.Name T p2 :: es) X.env = (false, eval (.Name T p2) X.env) :: starEach es X.env := by rfl) : PA X (.Name T p2 :: es) (fun _ H Q => Q (V.ty (kName k) :: vs) H) :=
  pa_imp (pa_cons (pe_bltn (v := .ty (kName k)) hgT hT hv rfl hn hdb) h hs) fun σ H Q q => q
theorem pa_types0 : PA X [] (fun _ H Q => Q [] H) := pa_imp pa_nil fun σ H Q q => q
theorem cut_rpA {F : Hp} {vs : List V} {ds : List PyData} (r : RpA K F vs ds) (lo hi : Option Int) : RpA K F (cutV vs lo hi) (cutL ds lo hi) := by
  have e : ∀ o n d, HT.sIx n d o = DL.sIx n d o := fun o n d => by cases o <;> rfl
  unfold cutV cutL
  rw [r.length, e, e]
  exact (r.drop _).take _
abbrev rSlX (K : PySem.W.Frag) : V → Option Int → Option Int → Hp → VK → Prop := fun x lo hi H Q => (rSlL K x lo hi H Q ∨ rSlA K x lo hi H Q) ∨ rSlS x lo hi H Q
theorem sl_any : SlR X (rSlX X.K) := slR_or (slR_or sl_list sl_tupA) sl_str
theorem whole_cut {α : Type} (xs : List α) (lo hi : Option Int) (h : DL.sIx xs.length 0 lo = 0 ∧ DL.sIx xs.length xs.length hi = xs.length) : cutL xs lo hi = xs := by
  unfold cutL
  rw [h.1, h.2]
  simp
theorem rl_sl : ∀ (F H : Hp) (x : V) (a z : PyData) (lo hi : Option Int) (Q : VK), Same F H → (∀ p, H p = none → F p = none) → Rp K F x a → opSl a lo hi = some z → (∀ v F' H', Al F H F' H' → Rp K F' v z → Q v H') → rSlX K x lo hi H Q := by
  intro F H x a z lo hi Q e f rx h k
  have es : ∀ o n d, HT.sIx n d o = DL.sIx n d o := fun o n d => by cases o <;> rfl
  unfold opSl at h
  split at h
  · cases h
    cases rx with
    | lst h1 r1 => exact .inl (.inl ⟨_, _, rfl, .inl (.inl (e _ _ h1)), fun p hp => k _ _ _ (.new hp) (.lst upd_same ((cut_rpA r1 lo hi).mono (same_new (f p hp))))⟩)
  · cases h
    cases rx with
    | @tup a' xs ds h1 r1 =>
      refine .inl (.inr ⟨_, _, rfl, same_t e h1, fun hw => ?_, fun _ p hp => k _ _ _ (.new hp) (.tup (.inl (.inl upd_same)) ((cut_rpA r1 lo hi).mono (same_new (f p hp))))⟩)
      rw [r1.length, es, es] at hw
      rw [whole_cut _ lo hi hw] at k
      exact k _ F H .id (.tup h1 r1)
  · split at h
    · rename_i z' hl
      cases h
      cases rx
      refine .inr ⟨_, rfl, line_of hl, ?_⟩
      have : cutS z' lo hi = ⟨(cutL z'.cps.toList lo hi).toArray⟩ := by
        unfold cutS cutL
        rw [es, es]
        have : z'.cps.toList.length = z'.length := by simp [Str.length]
        rw [this]
      rw [this]
      exact k _ F H .id (.str _)
    · cases h
  · cases h
theorem hpart {me : ME} : ∀ σ H Q F sd Qd, Rs K C F H σ sd → mPart me sd Qd → (∀ o H' F' sd', Rs K C F' H' σ sd' → Stp σ sd F H F' H' sd' → Qd o sd' → Q o H') → tPart (tD K C me) σ H Q := by
  intro σ H Q F sd Qd R h k
  refine ⟨F, sd, _, R, h, fun v H' F' d sd' R' S r q => ?_⟩
  obtain ⟨i, rfl, q⟩ := q
  cases r
  exact ⟨i, rfl, k (some i) H' F' sd' R' S q⟩
theorem hnopart : ∀ σ H Q F sd Qd, Rs K C F H σ sd → mNoPart sd Qd → (∀ o H' F' sd', Rs K C F' H' σ sd' → Stp σ sd F H F' H' sd' → Qd o sd' → Q o H') → tNoPart σ H Q :=
  fun σ H Q F sd Qd R h k => k none H F sd R .refl h
/-- x[a:b] -/
theorem pd_sl2 {e lo hi : Expr} {p2 pos : Pos} {me ml mh : ME} (he : PE X e (tD X.K C me)) (hl : PE X lo (tD X.K C ml)) (hh : PE X hi (tD X.K C mh)) : PE X (.Subscript e (.Slice (some lo) (some hi) none p2) pos) (tD X.K C (mSl opSl me (mPart ml) (mPart mh))) :=
  pd_slice rl_sl hpart hpart (pe_slice sl_any he (po_some hl) (po_some hh))
theorem pd_slA {e lo : Expr} {p2 pos : Pos} {me ml : ME} (he : PE X e (tD X.K C me)) (hl : PE X lo (tD X.K C ml)) : PE X (.Subscript e (.Slice (some lo) none none p2) pos) (tD X.K C (mSl opSl me (mPart ml) mNoPart)) :=
  pd_slice rl_sl hpart hnopart (pe_slice sl_any he (po_some hl) po_none)
theorem pd_slB {e hi : Expr} {p2 pos : Pos} {me mh : ME} (he : PE X e (tD X.K C me)) (hh : PE X hi (tD X.K C mh)) : PE X (.Subscript e (.Slice none (some hi) none p2) pos) (tD X.K C (mSl opSl me mNoPart (mPart mh))) :=
  pd_slice rl_sl hnopart hpart (pe_slice sl_any he po_none (po_some hh))
end
end DL
namespace DL
open PySem PySem.Spec PyProof.Rows L2
section
variable {K : PySem.W.Frag} {X : Cx} {C : Ct}
theorem pdg_name {i : Nat} {x : Str} {pos : Pos} (hN : X.N.Nodup) (hi : X.N[i]? = some x) (hx : Loc X.env.scope x) (hf : X.fn x = true ∨ X.env.scope.names.lookup x = some .local := by first | exact .inl rfl | exact .inr rfl) :
    PG X (.Name x pos) (tDG X.K C (mgName i)) := pg_imp (pg_name hN hi hx hf) (by
  rintro v σ H Q ⟨F, sd, d, Qd, R, r, h, k⟩
  exact k _ _ (R.setva r) h)
theorem pdgs_nil : PGs X [] (tDGs X.K C mgNil) := pgs_imp pgs_nil (by
  rintro v σ H Q ⟨F, sd, ds, Qd, R, r, h, k⟩
  obtain ⟨e, h⟩ := h
  subst e
  cases r
  exact ⟨rfl, k _ _ R h⟩)
theorem pdgs_cons {e : Expr} {es : List Expr} {g : MG} {gs : MGs} (h1 : PG X e (tDG X.K C g)) (h2 : PGs X es (tDGs X.K C gs)) (t : PGs X (e :: es) (gCons (tDG X.K C g) (tDGs X.K C gs))) : PGs X (e :: es) (tDGs X.K C (mgCons g gs)) := pgs_imp t (by
  rintro v σ H Q ⟨F, sd, ds, Qd, R, r, h, k⟩
  obtain ⟨d, rest, e, h⟩ := h
  subst e
  cases r with
  | cons r1 r2 => exact ⟨_, _, rfl, F, sd, d, _, R, r1, h, fun σ' sd' R' q => ⟨F, sd', rest, Qd, R', r2, q, k⟩⟩)
theorem td_tup {n : Nat} {gs : MGs} : ∀ v σ H Q, tDG K C (mgTup n gs) v σ H Q → (gTup K n (tDGs K C gs) v σ H Q ∨ gLst K n (tDGs K C gs) v σ H Q) := by
  rintro v σ H Q ⟨F, sd, d, Qd, R, r, h, k⟩
  obtain ⟨ds, hd, hl, h⟩ := h
  cases r with
  | tup h1 r1 =>
    cases hd
    exact .inl ⟨_, _, rfl, same_t R.ext h1, by rw [r1.length]; exact hl, F, sd, _, Qd, R, r1, h, k⟩
  | lst h1 r1 =>
    cases hd
    exact .inr ⟨_, _, rfl, .inl (.inl (R.ext _ _ h1)), by rw [r1.length]; exact hl, F, sd, _, Qd, R, r1, h, k⟩
  | _ => cases hd
theorem pdg_tup {es : List Expr} {kk : Nat} {pos : Pos} {gs : MGs} {n : Nat} (hc : X.calm = true) (h : PGs X es (tDGs X.K C gs)) (hn : (assignEach es X.env).length = n := by rfl) (hst : (assignEach es X.env).findIdx? (·.1) = none := by rfl) :
    PG X (.Tuple es kk pos) (tDG X.K C (mgTup n gs)) := pg_imp (pg_or (pg_tup hc h hn hst) (pg_lst hc h hn hst)) td_tup
theorem rpA_at {F : Hp} {vs : List V} {ds : List PyData} {i : Nat} {x : V} (r : RpA K F vs ds) (h : vs[i]? = some x) : ∃ d, ds[i]? = some d ∧ Rp K F x d := by
  have hl := (List.getElem?_eq_some_iff.mp h).1
  rw [r.length] at hl
  obtain ⟨v, e, q⟩ := r.get (i := i) (d := ds[i]) (by simp [hl])
  rw [h] at e; cases e
  exact ⟨_, by simp [hl], q⟩
theorem wk_list {a : Addr} {xs : List V} {F : Hp} {ds : List PyData} (h : SqL K F a xs) (r : RpA K F xs ds) : Wk K (Itl K a) F ds := by
  refine ⟨_, _, r.length ▸ walk_list, fun H e => e.seq h, fun i H x H' F' hi e1 e2 y => ?_⟩
  obtain ⟨rfl, y⟩ := y
  obtain ⟨d, hd, q⟩ := rpA_at r y
  exact ⟨F', d, .id, hd, q.mono e1⟩
theorem wk_tup {a : Addr} {xs : List V} {F : Hp} {ds : List PyData} (h : SqT K F a xs) (r : RpA K F xs ds) : Wk K (Itt K a) F ds := by
  refine ⟨_, _, r.length ▸ walk_tup, fun H e => same_t e h, fun i H x H' F' hi e1 e2 y => ?_⟩
  obtain ⟨rfl, y⟩ := y
  obtain ⟨d, hd, q⟩ := rpA_at r y
  exact ⟨F', d, .id, hd, q.mono e1⟩
theorem pi_or {tg e : Expr} {t t' : TI} (h : PI X tg e t) (h' : PI X tg e t') : PI X tg e (fun σ H R => t σ H R ∨ t' σ H R) :=
  ⟨fun pins s σ H R I q => q.elim (h.run pins s σ H R I) (h'.run pins s σ H R I)⟩
/-- over a value that is a list or a tuple: the reading chooses when the value is there -/
def iSeq (K : PySem.W.Frag) (te : TE) : TI := fun σ H R => te σ H fun x H1 => ∃ a, x = .ref a ∧ (((∃ xs, SqL K H1 a xs) ∧ R (Itl K a) H1) ∨ ((∃ xs, SqT K H1 a xs) ∧ R (Itt K a) H1))
theorem pi_seq {tg l : Expr} {tl : TE} (hl : PE X l tl) : PI X tg l (iSeq X.K tl) := by
  refine ⟨fun pins s σ H R I h => thn (hl.run pins s σ H _ I h) fun v s1 hv => ?_⟩
  obtain ⟨x, H1, I1, r1, a, rfl, hq⟩ := hv
  cases r1
  have fresh : FpOk X pins H1 s1.heap.objs.size := I1.fpOk (Nat.le_refl _) (I1.hok.fresh (Nat.le_refl _))
  rcases hq with ⟨⟨xs, hq⟩, q⟩ | ⟨⟨xs, hq⟩, q⟩
  · obtain ⟨its, rv, p, hz⟩ := I1.list hq
    refine wpAny_pyIter_list p.isList ⟨_, [s1.heap.objs.size], _, _, H1, rfl, I1.kept (t' := s1.toks) fun _ _ e => Heap.get?_push_of_some _ e, turn_list a _, ?_, fun b hb => ?_, q⟩
    · exact ⟨_, Heap.get?_push_size _ rfl, rfl, rfl⟩
    · rw [List.mem_singleton.mp hb]; exact fresh
  · obtain ⟨its, rv, p, hz⟩ := I1.tuple hq
    refine wpAny_pyIter_tuple (show s1.heap.IsTuple a its.toArray from p) ⟨_, [s1.heap.objs.size], _, _, H1, rfl, I1.kept (t' := s1.toks) fun _ _ e => Heap.get?_push_of_some _ e, turn_tuple a _, ?_, fun b hb => ?_, q⟩
    · exact ⟨_, Heap.get?_push_size _ rfl, rfl, rfl⟩
    · rw [List.mem_singleton.mp hb]; exact fresh
theorem pdi_seq {tg e : Expr} {m : ME} (h : PE X e (tD X.K C m)) : PI X tg e (tDI X.K C (miSeq m)) := pi_imp (pi_seq h) (by
  rintro σ H R0 ⟨F, sd, Qd, R, h, k⟩
  refine ⟨F, sd, _, R, h, fun x H1 F1 a sd1 R1 S1 rx h1 => ?_⟩
  obtain ⟨ds, hd, q⟩ := h1
  cases rx with
  | tup h2 r2 => cases hd; exact ⟨_, rfl, .inr ⟨⟨_, same_t R1.ext h2⟩, k _ H1 F1 _ sd1 R1 S1 (wk_tup h2 r2) q⟩⟩
  | lst h2 r2 => cases hd; exact ⟨_, rfl, .inl ⟨⟨_, .inl (.inl (R1.ext _ _ h2))⟩, k _ H1 F1 _ sd1 R1 S1 (wk_list (.inl (.inl h2)) r2) q⟩⟩
  | _ => cases hd)
theorem wk_range {F : Hp} {lo : Int} {n : Nat} : Wk K (Itr lo n) F (rangeL lo n) := by
  have hl : (rangeL lo n).length = n := by simp [rangeL]
  refine ⟨fun _ => True, YFn fun i => .int (lo + i), by rw [hl]; exact walk_range, fun _ _ => trivial, fun i H x H' F' hi e1 e2 y => ?_⟩
  obtain ⟨rfl, rfl⟩ := y
  refine ⟨F', _, .id, ?_, .int _⟩
  unfold rangeL
  rw [List.getElem?_map, List.getElem?_range (by rw [hl] at hi; exact hi)]
  rfl
theorem pdi_range1 {tg a : Expr} {p pos : Pos} {m : MA} (hm : X.mg "range" = none) (h : PA X [a] (tDA X.K C m)) (hg : Gl X "range" := by rfl) (t : PI X tg (.Call (.Name "range" p) [a] [] pos) (iRng1 (tDA X.K C m))) : PI X tg (.Call (.Name "range" p) [a] [] pos) (tDI X.K C (miRng1 m)) := pi_imp t (by
  rintro σ H R0 ⟨F, sd, Qd, R, h, k⟩
  refine ⟨F, sd, _, R, h, fun vs H1 F1 ds sd1 R1 S1 rs q => ?_⟩
  obtain ⟨j, rfl, l1, l2, q⟩ := q
  obtain ⟨x, rfl, r⟩ := rpA1 rs
  cases r
  exact ⟨j, rfl, l1, l2, k _ H1 F1 _ sd1 R1 S1 wk_range q⟩)
theorem pdi_range2 {tg a b : Expr} {p pos : Pos} {m : MA} (hm : X.mg "range" = none) (h : PA X [a, b] (tDA X.K C m)) (hg : Gl X "range" := by rfl) (t : PI X tg (.Call (.Name "range" p) [a, b] [] pos) (iRng2 (tDA X.K C m))) : PI X tg (.Call (.Name "range" p) [a, b] [] pos) (tDI X.K C (miRng2 m)) := pi_imp t (by
  rintro σ H R0 ⟨F, sd, Qd, R, h, k⟩
  refine ⟨F, sd, _, R, h, fun vs H1 F1 ds sd1 R1 S1 rs q => ?_⟩
  obtain ⟨i, j, rfl, l, q⟩ := q
  obtain ⟨x, y, rfl, r, r'⟩ := rpA2 rs
  cases r; cases r'
  exact ⟨i, j, rfl, l, k _ H1 F1 _ sd1 R1 S1 wk_range q⟩)
theorem pdi_str {tg e : Expr} {m : ME} (h : PE X e (tD X.K C m)) : PI X tg e (tDI X.K C (miStr m)) := pi_imp (pi_str h) (by
  rintro σ H R0 ⟨F, sd, Qd, R, h, k⟩
  refine ⟨F, sd, _, R, h, fun x H1 F1 a sd1 R1 S1 rx h1 => ?_⟩
  obtain ⟨z, rfl, q⟩ := h1
  cases rx
  refine ⟨z, rfl, k _ H1 F1 _ sd1 R1 S1 ?_ q⟩
  have hl : (signsD z).length = z.cps.size := by simp [signsD]
  refine ⟨fun _ => True, fun i H v H' => H' = H ∧ ∃ c, z.cps[i]? = some c ∧ v = .str ⟨#[c]⟩, by rw [hl]; exact walk_str, fun _ _ => trivial, fun i H x H' F' hi e1 e2 y => ?_⟩
  obtain ⟨rfl, c, hc, rfl⟩ := y
  refine ⟨F', _, .id, ?_, .str _⟩
  unfold signsD
  rw [List.getElem?_map, Array.getElem?_toList, hc]
  rfl)
theorem enumL_get : ∀ (ds : List PyData) (k i : Nat), (enumL k ds)[i]? = ds[i]?.map fun d => .tuple [.int ((k + i : Nat) : Int), d]
  | [], _, _ => rfl
  | d :: ds, k, 0 => rfl
  | d :: ds, k, i + 1 => by
    show (enumL (k + 1) ds)[i]? = _
    rw [enumL_get ds (k + 1) i, show k + 1 + i = k + (i + 1) by omega]
    rfl
theorem pair_al {F H H' : Hp} {T : Addr} {x y : V} {d e : PyData} (hT : H T = none) (e2 : Same F H) (hH : H' = upd H T (.tup [x, y])) (r1 : Rp K F x d) (r2 : Rp K F y e) : ∃ F', Al F H F' H' ∧ Rp K F' (.ref T) (.tuple [d, e]) := by
  subst hH
  have s := same_new (o := .tup [x, y]) (free_of e2 hT)
  exact ⟨_, .new hT, .tup (.inl (.inl upd_same)) (.cons (r1.mono s) (.cons (r2.mono s) .nil))⟩
theorem pdi_enum {elts : List Expr} {kk : Nat} {tpos : Pos} {e : Expr} {p pos : Pos} {m : MA} (t : PI X (.Tuple elts kk tpos) (.Call (.Name "enumerate" p) [e] [] pos) (iEnum X.K (tDA X.K C m))) :
    PI X (.Tuple elts kk tpos) (.Call (.Name "enumerate" p) [e] [] pos) (tDI X.K C (miEnum m)) := pi_imp t (by
  rintro σ H R0 ⟨F, sd, Qd, R, h, k⟩
  refine ⟨F, sd, _, R, h, fun vs H1 F1 ds sd1 R1 S1 rs q => ?_⟩
  obtain ⟨xs, rfl, q⟩ := q
  obtain ⟨x, rfl, r⟩ := rpA1 rs
  cases r with
  | @lst a ys _ h2 r2 =>
    refine ⟨_, _, rfl, .inl (.inl (R1.ext _ _ h2)), k _ H1 F1 _ sd1 R1 S1 ?_ q⟩
    have hl : (enumL 0 xs).length = ys.length := by
      rw [r2.length]
      have : ∀ (l : List PyData) n, (enumL n l).length = l.length := fun l => by
        induction l with
        | nil => intro _; rfl
        | cons d l ih => intro n; simp [enumL, ih]
      exact this xs 0
    refine ⟨fun H => SqL X.K H a ys, YPair (fun i => some (.int (i : Nat))) (fun i => ys[i]?), by rw [hl]; exact walk_enum, fun H e => .inl (.inl (e _ _ h2)), fun i H x H' F' hi e1 e2 y => ?_⟩
    obtain ⟨T, x1, x2, rfl, hT, hH, y1, y2⟩ := y
    cases y1
    obtain ⟨d, hd, rd⟩ := rpA_at r2 y2
    obtain ⟨F2, al, rr⟩ := pair_al hT e2 hH (.int (i : Int)) (rd.mono e1)
    refine ⟨F2, _, al, ?_, rr⟩
    rw [enumL_get, hd]
    simp)
theorem zipL_get : ∀ (xs ys : List PyData) (i : Nat) {x y : PyData}, xs[i]? = some x → ys[i]? = some y → (zipL xs ys)[i]? = some (.tuple [x, y])
  | x :: xs, y :: ys, 0, _, _, h1, h2 => by cases h1; cases h2; rfl
  | x :: xs, y :: ys, i + 1, _, _, h1, h2 => zipL_get xs ys i h1 h2
  | [], _, _, _, _, h1, _ => by simp at h1
  | _ :: _, [], _, _, _, _, h2 => by simp at h2
theorem zipL_len : ∀ (xs ys : List PyData), (zipL xs ys).length = min xs.length ys.length
  | x :: xs, y :: ys => by simp [zipL, zipL_len xs ys]
  | [], _ => by simp [zipL]
  | _ :: _, [] => by simp [zipL]
theorem walk_zipT {a b : Addr} {xs ys : List V} : Walk (RZ.ItzT K a b) (min xs.length ys.length) (fun H => SqT K H a xs ∧ SqT K H b ys) (YPair (fun i => xs[i]?) (fun i => ys[i]?)) := by
  refine ⟨fun i _ hi q => ?_, fun _ q => ⟨xs, ys, q.1, q.2, by omega⟩, fun i H v H' _ q y => ?_⟩
  · exact ⟨xs, ys, xs[i]'(by omega), ys[i]'(by omega), q.1, q.2, by simp [show i < xs.length by omega], by simp [show i < ys.length by omega]⟩
  · obtain ⟨T, x, z, h1, h2, h3, h4, h5⟩ := y
    exact ⟨T, x, z, h1, h2, h3, h4 xs q.1, h5 ys q.2⟩
theorem wk_pairs {J : It} {F : Hp} {xs ys : List V} {ds es : List PyData} {G : Hp → Prop} (hG : ∀ H, Same F H → G H) (w : Walk J (min xs.length ys.length) G (YPair (fun i => xs[i]?) (fun i => ys[i]?))) (r1 : RpA K F xs ds) (r2 : RpA K F ys es) : Wk K J F (zipL ds es) := by
  have hl : (zipL ds es).length = min xs.length ys.length := by rw [zipL_len, r1.length, r2.length]
  refine ⟨G, YPair (fun i => xs[i]?) (fun i => ys[i]?), by rw [hl]; exact w, hG, fun i H x H' F' hi e1 e2 y => ?_⟩
  obtain ⟨T, x1, x2, rfl, hT, hH, y1, y2⟩ := y
  obtain ⟨d, hd, rd⟩ := rpA_at r1 y1
  obtain ⟨e, he, re⟩ := rpA_at r2 y2
  obtain ⟨F2, al, rr⟩ := pair_al hT e2 hH (rd.mono e1) (re.mono e1)
  exact ⟨F2, _, al, zipL_get ds es i hd he, rr⟩
theorem pdi_zip {elts : List Expr} {kk : Nat} {tpos : Pos} {e e2 : Expr} {p pos : Pos} {m : MA} (t : PI X (.Tuple elts kk tpos) (.Call (.Name "zip" p) [e, e2] [] pos) (RZ.iZipA X.K (tDA X.K C m))) :
    PI X (.Tuple elts kk tpos) (.Call (.Name "zip" p) [e, e2] [] pos) (tDI X.K C (miZip m)) := pi_imp t (by
  rintro σ H R0 ⟨F, sd, Qd, R, h, k⟩
  refine ⟨F, sd, _, R, h, fun vs H1 F1 ds sd1 R1 S1 rs q => ?_⟩
  obtain ⟨xs, ys, hd, q⟩ := q
  rcases hd with rfl | rfl
  · obtain ⟨x, y, rfl, r, r'⟩ := rpA2 rs
    cases r with
    | lst h2 r2 =>
      cases r' with
      | lst h3 r3 => exact ⟨_, _, _, _, rfl, .inl ⟨.inl (.inl (R1.ext _ _ h2)), .inl (.inl (R1.ext _ _ h3)), k _ H1 F1 _ sd1 R1 S1 (wk_pairs (fun H e => ⟨.inl (.inl (e _ _ h2)), .inl (.inl (e _ _ h3))⟩) (walk_zip rfl) r2 r3) q⟩⟩
  · obtain ⟨x, y, rfl, r, r'⟩ := rpA2 rs
    cases r with
    | tup h2 r2 =>
      cases r' with
      | tup h3 r3 => exact ⟨_, _, _, _, rfl, .inr ⟨same_t R1.ext h2, same_t R1.ext h3, k _ H1 F1 _ sd1 R1 S1 (wk_pairs (fun H e => ⟨same_t e h2, same_t e h3⟩) walk_zipT r2 r3) q⟩⟩)
theorem pds_nil : PSs X [] (tDS X.K C mNext) := pss_imp pss_nil (by
  rintro D σ H ⟨F, sd, Dd, R, E, h⟩
  exact E.nx F H σ sd (Same.refl _) R h)
theorem pds_cons {st : Stmt} {rest : List Stmt} {a b : MS} (h1 : PS X st (tDS X.K C a)) (h2 : PSs X rest (tDS X.K C b)) : PSs X (st :: rest) (tDS X.K C (mSeq a b)) := pss_imp (pss_cons h1 h2) (by
  rintro D σ H ⟨F, sd, Dd, R, E, h⟩
  exact ⟨F, sd, { Dd with nx := b Dd }, R, ⟨fun F1 H1 σ1 sd1 e R1 q => ⟨F1, sd1, Dd, R1, E.mono e, q⟩, E.rt, E.bk, E.ct⟩, h⟩)
theorem pds_one {st : Stmt} {a : MS} (h : PS X st (tDS X.K C a)) : PSs X [st] (tDS X.K C a) := pss_one h
theorem pds_pass {pos : Pos} : PS X (.Pass pos) (tDS X.K C mNext) := ps_imp ps_pass (by
  rintro D σ H ⟨F, sd, Dd, R, E, h⟩
  exact E.nx F H σ sd (Same.refl _) R h)
theorem pds_break {pos : Pos} : PS X (.Break pos) (tDS X.K C mBreak) := ps_imp ps_break (by
  rintro D σ H ⟨F, sd, Dd, R, E, h⟩
  exact E.bk F H σ sd (Same.refl _) R h)
theorem pds_cont {pos : Pos} : PS X (.Continue pos) (tDS X.K C mCont) := ps_imp ps_continue (by
  rintro D σ H ⟨F, sd, Dd, R, E, h⟩
  exact E.ct F H σ sd (Same.refl _) R h)
theorem td_asg {me : ME} {mg : MG} : ∀ D σ H, tDS K C (mAsg me mg) D σ H → tAsg (tD K C me) (tDG K C mg) D σ H := by
  rintro D σ H ⟨F, sd, Dd, R, E, h⟩
  exact ⟨F, sd, _, R, h, fun v H1 F1 d sd1 R1 S1 r q => ⟨F1, sd1, d, Dd.nx, R1, r, q, fun σ2 sd2 R2 q2 => E.nx F1 H1 σ2 sd2 S1.fr R2 q2⟩⟩
theorem pds_asg {tg e : Expr} {pos : Pos} {me : ME} {mg : MG} (t : PS X (.Assign [tg] e pos) (tAsg (tD X.K C me) (tDG X.K C mg))) : PS X (.Assign [tg] e pos) (tDS X.K C (mAsg me mg)) := ps_imp t td_asg
theorem td_asgR {i : Nat} {mr : MR} : ∀ D σ H, tDS K C (mAsgR i mr) D σ H → tAsg (tDR K C mr) (gName i) D σ H := by
  rintro D σ H ⟨F, sd, Dd, R, E, h⟩
  exact ⟨F, sd, _, R, h, fun v H1 F1 r sd1 R1 S1 rv fre new q => E.nx F1 H1 _ _ S1.fr (R1.setr rv fre) q⟩
theorem pds_asgR {tg e : Expr} {pos : Pos} {i : Nat} {mr : MR} (t : PS X (.Assign [tg] e pos) (tAsg (tDR X.K C mr) (gName i))) : PS X (.Assign [tg] e pos) (tDS X.K C (mAsgR i mr)) := ps_imp t td_asgR
theorem pds_if {c : Expr} {a b : List Stmt} {t : MT} {ma mb : MS} {pos : Pos} (hc : PT X c (tDT X.K C t)) (ha : PSs X a (tDS X.K C ma)) (hb : PSs X b (tDS X.K C mb)) : PS X (.If c a b pos) (tDS X.K C (mIf t ma mb)) := ps_imp (ps_if hc ha hb) (by
  rintro D σ H ⟨F, sd, Dd, R, E, h⟩
  refine ⟨F, sd, _, R, h, fun b H1 F1 sd1 R1 S1 q => ?_⟩
  cases b with
  | true => exact ⟨F1, sd1, Dd, R1, E.mono S1.fr, q⟩
  | false => exact ⟨F1, sd1, Dd, R1, E.mono S1.fr, q⟩)
theorem pds_ret {e : Expr} {mr : MR} {pos : Pos} (he : PE X e (tDR X.K C mr)) : PS X (.Return (some e) pos) (tDS X.K C (mRet mr)) := ps_imp (ps_ret he) (by
  rintro D σ H ⟨F, sd, Dd, R, E, h⟩
  exact ⟨F, sd, _, R, h, fun v H1 F1 r sd1 R1 S1 rv fre new q => E.rt F1 H1 σ sd1 v r S1.fr R1 rv (fun o q' e => R.still q' (new o q' e)) q⟩)
theorem pds_retN {pos : Pos} : PS X (.Return none pos) (tDS X.K C mRetN) := ps_imp ps_retN (by
  rintro D σ H ⟨F, sd, Dd, R, E, h⟩
  exact E.rt F H σ sd .non (.va .none) (Same.refl _) R ⟨_, rfl, .non⟩ (fun z => nomatch z) h)
theorem pds_drop {e : Expr} {me : ME} {pos : Pos} (he : PE X e (tD X.K C me)) (hs : swapsWith e none pos.line X.env = pure false := by rfl) : PS X (.Expr e pos) (tDS X.K C (mDrop me)) := ps_imp (ps_expr he hs) (by
  rintro D σ H ⟨F, sd, Dd, R, E, h⟩
  exact ⟨F, sd, _, R, h, fun v H1 F1 d sd1 R1 S1 r q => E.nx F1 H1 σ sd1 S1.fr R1 q⟩)
theorem pds_doc {x j pos pos'} : PS X (.Expr (.Constant (.str x) j pos) pos') (tDS X.K C mNext) := ps_imp ps_doc (by
  rintro D σ H ⟨F, sd, Dd, R, E, h⟩
  exact E.nx F H σ sd (Same.refl _) R h)
theorem Rs.setOwn {F H : Hp} {σ : L2.St} {sd : DSt} (R : Rs K C F H σ sd) {i : Nat} {ds ds' : List PyData} {p : Addr} {vs' : List V} (h : sget sd i = .own ds) (e : gv σ i = some (.ref p)) (r : RpA K F vs' ds') : Rs K C F (upd H p (.lst vs')) σ (sset sd i (.own ds')) := by
  have hi := R.slot i
  rw [h] at hi
  obtain ⟨p', vs, e1, e2, e3, e4, r0⟩ := hi
  rw [e] at e1; cases e1
  have hl : i < sd.length := R.lt_of_own (by rw [h]; intro z; cases z)
  have other : ∀ j q, j ≠ i → isOwn (sget sd j) = true → gv σ j = some (.ref q) → q ≠ p := fun j q hj ho eq z => by
    subst z
    exact R.sep i j q (Ne.symm hj) (by rw [h]; rfl) ho e eq
  refine ⟨by rw [sset_length]; exact R.len, R.grow, fun a x q => ?_, R.new, fun a x q n => ?_, fun a q => ?_, fun j => ?_, fun j k q hjk o1 o2 z1 => ?_⟩
  · have : a ≠ p := fun z => by subst z; rw [e3] at q; cases q
    rw [upd_ne this]; exact R.ext a x q
  · have : a ≠ p := fun z => by subst z; rw [e4] at q; cases q
    rw [upd_ne this]; exact R.keep a x q n
  · by_cases z : a = p
    · subst z; exact e4
    · rw [upd_ne z] at q; exact R.still a q
  · by_cases hj : j = i
    · subst hj; rw [sget_sset hl]; exact ⟨p, vs', e, upd_same, e3, e4, r⟩
    · rw [sget_sset_ne hj]
      exact (R.slot j).grow (Same.refl _) fun q x ho eq eh en => ⟨by rw [upd_ne (other j q hj ho eq)]; exact eh, en⟩
  · have own_of : ∀ m, isOwn (sget (sset sd i (.own ds')) m) = true → isOwn (sget sd m) = true := fun m o => by
      by_cases hm : m = i
      · subst hm; rw [h]; rfl
      · rw [sget_sset_ne hm] at o; exact o
    exact R.sep j k q hjk (own_of j o1) (own_of k o2) z1
/-- x.append(e), x a slot that owns its list -/
theorem pds_app {i : Nat} {x : Str} {p apos cpos pos : Pos} {e : Expr} {me : ME}
    (t : PS X (.Expr (.Call (.Attribute (.Name x p) "append" apos) [e] [] cpos) pos) (tDrop (tBM X.K "list" rAppend (tVar i) (tCons (tD X.K C me) tNil)))) :
    PS X (.Expr (.Call (.Attribute (.Name x p) "append" apos) [e] [] cpos) pos) (tDS X.K C (mApp i me)) := ps_imp t (by
  rintro D σ H ⟨F, sd, Dd, R, E, ⟨ds0, h0⟩, h⟩
  have hi := R.slot i
  rw [h0] at hi
  obtain ⟨q, vs, e1, e2, e3, e4, r⟩ := hi
  refine ⟨.ref q, gv_some.mp e1, .inl ⟨rfl, vs, .inl (.inl e2)⟩, F, sd, _, R, h, fun v H1 F1 d sd1 R1 S1 rv hh => ?_⟩
  obtain ⟨ds, h1, hlen, hnx⟩ := hh
  have hi1 := R1.slot i
  rw [h1] at hi1
  obtain ⟨q', vs1, z1, z2, z3, z4, r1⟩ := hi1
  rw [e1] at z1; cases z1
  refine ⟨q, vs1, v, rfl, rfl, z2, by rw [r1.length]; exact line_lt hlen, ?_⟩
  exact E.nx F1 _ σ _ S1.fr (R1.setOwn h1 e1 (r1.snoc rv)) hnx)
theorem drop_get {α : Type} {l : List α} {i : Nat} {d : α} (h : l[i]? = some d) : l.drop i = d :: l.drop (i + 1) := by
  have hi := (List.getElem?_eq_some_iff.mp h).1
  rw [List.drop_eq_getElem_cons hi, (List.getElem?_eq_some_iff.mp h).2]
theorem td_for {mi : MI} {mg : MG} {body : MS} : ∀ D σ H, tDS K C (mFor mi mg body) D σ H → tFor (tDI K C mi) (tDG K C mg) (tDS K C body) D σ H := by
  rintro D σ H ⟨F, sd, Dd, R, E, h⟩
  refine ⟨F, sd, _, R, h, fun J H1 F1 ds sd1 R1 S1 W h1 => ?_⟩
  obtain ⟨G, Y, w, hG, hY⟩ := W.ex
  refine for_it w (fun i σ' H' => ∃ F' sd', Rs K C F' H' σ' sd' ∧ Same F1 F' ∧ forL mg body Dd (ds.drop i) sd') ⟨F1, sd1, R1, Same.refl _, h1⟩ (fun i σ' H' _ ⟨F', sd', R', e, _⟩ => hG H' (e.trans R'.ext)) (fun i x σ' H' H'' hi ⟨F', sd', R', e, q⟩ y => ?_) (fun σ' H' ⟨F', sd', R', e, q⟩ => ?_)
  · obtain ⟨F2, d, al, hd, rd⟩ := hY i H' x H'' F' hi e R'.ext y
    rw [drop_get hd] at q
    have s2 : Same F1 F2 := e.trans (Stp.al R' al).fr
    refine ⟨F2, sd', d, _, R'.al al, rd, q, fun σ2 sd2 R2 q2 => ⟨F2, sd2, _, R2, ?_, q2⟩⟩
    exact ⟨fun F3 H3 σ3 sd3 e3 R3 q3 => ⟨F3, sd3, R3, s2.trans e3, q3⟩, (E.mono (S1.fr.trans s2)).rt, fun F3 H3 σ3 sd3 e3 R3 q3 => E.nx F3 H3 σ3 sd3 ((S1.fr.trans s2).trans e3) R3 q3, fun F3 H3 σ3 sd3 e3 R3 q3 => ⟨F3, sd3, R3, s2.trans e3, q3⟩⟩
  · rw [List.drop_length] at q
    exact E.nx F' H' σ' sd' (S1.fr.trans e) R' q
theorem pds_for {tg iter : Expr} {body : List Stmt} {pos : Pos} {mi : MI} {mg : MG} {mb : MS} (t : PS X (.For tg iter body [] pos) (tFor (tDI X.K C mi) (tDG X.K C mg) (tDS X.K C mb))) : PS X (.For tg iter body [] pos) (tDS X.K C (mFor mi mg mb)) := ps_imp t td_for
theorem td_while {mt : MT} {body : MS} : ∀ D σ H, tDS K C (mWhile mt body) D σ H → tWhile (tDT K C mt) (tDS K C body) D σ H := by
  rintro D σ H ⟨F, sd, Dd, R, E, n, h⟩
  refine ⟨fun m σ' H' => ∃ F' sd', Rs K C F' H' σ' sd' ∧ Same F F' ∧ whileN mt body Dd m sd', ⟨n, F, sd, R, Same.refl _, h⟩, fun m σ' H' hw => ?_⟩
  obtain ⟨F', sd', R', e, q⟩ := hw
  cases m with
  | zero => exact q.elim
  | succ m =>
    refine ⟨F', sd', _, R', q, fun b H1 F1 sd1 R1 S1 q1 => ?_⟩
    have s1 := e.trans S1.fr
    cases b with
    | true =>
      refine ⟨fun σ2 H2 => ∃ F2 sd2, Rs K C F2 H2 σ2 sd2 ∧ Same F F2 ∧ whileN mt body Dd m sd2, fun σ2 H2 z => ⟨m, Nat.lt_succ_self m, z⟩, F1, sd1, _, R1, ?_, q1⟩
      exact ⟨fun F3 H3 σ3 sd3 e3 R3 q3 => ⟨F3, sd3, R3, s1.trans e3, q3⟩, (E.mono s1).rt, fun F3 H3 σ3 sd3 e3 R3 q3 => E.nx F3 H3 σ3 sd3 (s1.trans e3) R3 q3, fun F3 H3 σ3 sd3 e3 R3 q3 => ⟨F3, sd3, R3, s1.trans e3, q3⟩⟩
    | false => exact E.nx F1 H1 σ' sd1 s1 R1 q1
theorem pds_while {c : Expr} {body : List Stmt} {pos : Pos} {mt : MT} {mb : MS} (t : PS X (.While c body [] pos) (tWhile (tDT X.K C mt) (tDS X.K C mb))) : PS X (.While c body [] pos) (tDS X.K C (mWhile mt mb)) := ps_imp t td_while
end
end DL
namespace DL
open PySem PySem.Spec PyProof.Rows L2
section
variable {K : PySem.W.Frag} {X : Cx} {C : Ct}
theorem rs_wipe {F H : Hp} {σ : L2.St} {sd : DSt} (R : Rs K C F H σ sd) : ∀ vs : List Nat, Rs K C F H (wipe σ vs) (swipe sd vs)
  | [] => R
  | v :: vs => (rs_wipe R vs).setno
theorem sget_swipe : ∀ {sd : DSt} {vs : List Nat} {i : Nat}, i ∉ vs → sget (swipe sd vs) i = sget sd i
  | _, [], _, _ => rfl
  | sd, v :: vs, i, h => by
    show sget (sset (swipe sd vs) v .no) i = _
    rw [sget_sset_ne (fun z => h (by simp [z]))]
    exact sget_swipe fun z => h (by simp [z])
theorem sget_sback : ∀ {s0 sd : DSt} {vs : List Nat} {i : Nat}, i ∉ vs → sget (sback s0 sd vs) i = sget sd i
  | _, _, [], _, _ => rfl
  | s0, sd, v :: vs, i, h => by
    show sget (sset (sback s0 sd vs) v _) i = _
    rw [sget_sset_ne (fun z => h (by simp [z]))]
    exact sget_sback fun z => h (by simp [z])
theorem sback_length : ∀ {s0 sd : DSt} {vs : List Nat}, (sback s0 sd vs).length = sd.length
  | _, _, [] => rfl
  | s0, sd, v :: vs => by show (sset (sback s0 sd vs) v _).length = _; rw [sset_length]; exact sback_length
theorem swipe_length : ∀ {sd : DSt} {vs : List Nat}, (swipe sd vs).length = sd.length
  | _, [] => rfl
  | sd, v :: vs => by show (sset (swipe sd vs) v _).length = _; rw [sset_length]; exact swipe_length
theorem gv_wipe : ∀ {σ : L2.St} {vs : List Nat} {i : Nat}, i ∉ vs → gv (wipe σ vs) i = gv σ i
  | _, [], _, _ => rfl
  | σ, v :: vs, i, h => by
    show gv ((wipe σ vs).set v none) i = _
    rw [gv_set_ne (fun z => h (by simp [z]))]
    exact gv_wipe fun z => h (by simp [z])
theorem sget_sback_in : ∀ {s0 sd : DSt} {vs : List Nat} {i : Nat}, i ∈ vs → sd.length = s0.length → sget (sback s0 sd vs) i = sget s0 i
  | s0, sd, v :: vs, i, h, hl => by
    show sget (sset (sback s0 sd vs) v (sget s0 v)) i = _
    by_cases hv : i = v
    · subst hv
      by_cases hi : i < s0.length
      · rw [sget_sset (by rw [sback_length, hl]; exact hi)]
      · rw [sget_out (by rw [sset_length, sback_length, hl]; omega), sget_out (by omega)]
    · rw [sget_sset_ne hv]
      exact sget_sback_in (by simpa [hv] using h) hl
theorem unOwn_of {s : DSt} {vs : List Nat} (h : unOwn s vs = true) {j : Nat} (hj : j ∈ vs) : isOwn (sget s j) = false := by
  unfold unOwn at h
  have := List.all_eq_true.mp h j hj
  cases e : sget s j <;> rw [e] at this <;> first | rfl | cases this
/-- targets within a comprehension: only its own slots change -/
def tDGv (K : PySem.W.Frag) (C : Ct) (vs : List Nat) (m : MG) : TG := fun v σ H Q => ∃ F sd d Qd, Rs K C F H σ sd ∧ Rp K F v d ∧ m d sd Qd ∧ ∀ σ' sd', Rs K C F H σ' sd' → wipe σ' vs = wipe σ vs → (∀ a, Owned σ' sd' a → Owned σ sd a) → Qd sd' → Q σ' H
def tDGsv (K : PySem.W.Frag) (C : Ct) (vs : List Nat) (m : MGs) : TGs := fun v σ H Q => ∃ F sd d Qd, Rs K C F H σ sd ∧ RpA K F v d ∧ m d sd Qd ∧ ∀ σ' sd', Rs K C F H σ' sd' → wipe σ' vs = wipe σ vs → (∀ a, Owned σ' sd' a → Owned σ sd a) → Qd sd' → Q σ' H
theorem wipe_set {σ : L2.St} {x : Option V} : ∀ {vs : List Nat} {i : Nat}, i ∈ vs → wipe (σ.set i x) vs = wipe σ vs
  | v :: vs, i, h => by
    show (wipe (σ.set i x) vs).set v none = (wipe σ vs).set v none
    by_cases hi : i ∈ vs
    · rw [wipe_set hi]
    · have hv : i = v := by simpa [hi] using h
      subst hv
      have comm : ∀ (ws : List Nat), i ∉ ws → wipe (σ.set i x) ws = (wipe σ ws).set i x := by
        intro ws
        induction ws with
        | nil => intro _; rfl
        | cons w ws ih =>
          intro hn
          show (wipe (σ.set i x) ws).set w none = ((wipe σ ws).set w none).set i x
          rw [ih (fun z => hn (by simp [z])), List.set_comm _ _ (show i ≠ w from fun z => hn (by simp [z]))]
      rw [comm vs hi, List.set_set]
theorem pdgv_name {vs : List Nat} {i : Nat} {x : Str} {pos : Pos} (hv : i ∈ vs) (h : PG X (.Name x pos) (gName i)) : PG X (.Name x pos) (tDGv X.K C vs (mgName i)) := pg_imp h (by
  rintro v σ H Q ⟨F, sd, d, Qd, R, r, h, k⟩
  refine k _ _ (R.setva r) (wipe_set hv) (fun a ⟨j, o, e⟩ => ?_) h
  by_cases hj : j = i
  · subst hj
    by_cases hl : j < sd.length
    · rw [sget_sset hl] at o; cases o
    · rw [sget_out (by rw [sset_length]; omega)] at o; cases o
  · rw [sget_sset_ne hj] at o; rw [gv_set_ne hj] at e; exact ⟨j, o, e⟩)
theorem pdgsv_nil {vs : List Nat} : PGs X [] (tDGsv X.K C vs mgNil) := pgs_imp pgs_nil (by
  rintro v σ H Q ⟨F, sd, ds, Qd, R, r, h, k⟩
  obtain ⟨e, h⟩ := h
  subst e
  cases r
  exact ⟨rfl, k _ _ R rfl (fun _ h => h) h⟩)
theorem pdgsv_cons {vs : List Nat} {e : Expr} {es : List Expr} {g : MG} {gs : MGs} (t : PGs X (e :: es) (gCons (tDGv X.K C vs g) (tDGsv X.K C vs gs))) : PGs X (e :: es) (tDGsv X.K C vs (mgCons g gs)) := pgs_imp t (by
  rintro v σ H Q ⟨F, sd, ds, Qd, R, r, h, k⟩
  obtain ⟨d, rest, e, h⟩ := h
  subst e
  cases r with
  | cons r1 r2 => exact ⟨_, _, rfl, F, sd, d, _, R, r1, h, fun σ' sd' R' w o q => ⟨F, sd', rest, Qd, R', r2, q, fun σ2 sd2 R2 w2 o2 q2 => k σ2 sd2 R2 (w2.trans w) (fun a z => o a (o2 a z)) q2⟩⟩)
theorem pdgv_tup {vs : List Nat} {es : List Expr} {kk : Nat} {pos : Pos} {gs : MGs} {n : Nat} (hc : X.calm = true) (h : PGs X es (tDGsv X.K C vs gs)) (hn : (assignEach es X.env).length = n := by rfl) (hst : (assignEach es X.env).findIdx? (·.1) = none := by rfl) :
    PG X (.Tuple es kk pos) (tDGv X.K C vs (mgTup n gs)) := pg_imp (pg_or (pg_tup hc h hn hst) (pg_lst hc h hn hst)) (by
  rintro v σ H Q ⟨F, sd, d, Qd, R, r, h, k⟩
  obtain ⟨ds, hd, hl, h⟩ := h
  cases r with
  | tup h1 r1 =>
    cases hd
    exact .inl ⟨_, _, rfl, same_t R.ext h1, by rw [r1.length]; exact hl, F, sd, _, Qd, R, r1, h, k⟩
  | lst h1 r1 =>
    cases hd
    exact .inr ⟨_, _, rfl, .inl (.inl (R.ext _ _ h1)), by rw [r1.length]; exact hl, F, sd, _, Qd, R, r1, h, k⟩
  | _ => cases hd)
theorem wipe_comm {σ : L2.St} {x : Option V} {i : Nat} : ∀ (ws : List Nat), i ∉ ws → wipe (σ.set i x) ws = (wipe σ ws).set i x
  | [], _ => rfl
  | w :: ws, hn => by
    show (wipe (σ.set i x) ws).set w none = ((wipe σ ws).set w none).set i x
    rw [wipe_comm ws (fun z => hn (by simp [z])), List.set_comm _ _ (show i ≠ w from fun z => hn (by simp [z]))]
theorem wipe_wipe {σ : L2.St} : ∀ vs : List Nat, wipe (wipe σ vs) vs = wipe σ vs
  | [] => rfl
  | v :: vs => by
    show (wipe ((wipe σ vs).set v none) vs).set v none = (wipe σ vs).set v none
    by_cases hv : v ∈ vs
    · rw [wipe_set hv, wipe_wipe vs]
    · rw [wipe_comm vs hv, wipe_wipe vs, List.set_set]
/-- an object that nobody knows is written -/
theorem Rs.updH {F H : Hp} {σ : L2.St} {sd : DSt} {p : Addr} {o : HO} (R : Rs K C F H σ sd) (hF : F p = none) (ho : ¬ Owned σ sd p) (h0 : C.H0 p = none) : Rs K C F (upd H p o) σ sd where
  len := R.len
  grow := R.grow
  ext := fun a x e => by
    have : a ≠ p := fun z => by subst z; rw [hF] at e; cases e
    rw [upd_ne this]; exact R.ext a x e
  new := R.new
  keep := fun a x e n => by
    have : a ≠ p := fun z => by subst z; rw [h0] at e; cases e
    rw [upd_ne this]; exact R.keep a x e n
  still := fun a e => by
    by_cases z : a = p
    · subst z; exact h0
    · rw [upd_ne z] at e; exact R.still a e
  slot := fun i => (R.slot i).grow (Same.refl _) fun q x o2 e eh en => by
    have : q ≠ p := fun z => by subst z; exact ho ⟨i, o2, e⟩
    exact ⟨by rw [upd_ne this]; exact eh, en⟩
  sep := R.sep
theorem owned_at {F H : Hp} {σ : L2.St} {sd : DSt} {p : Addr} (R : Rs K C F H σ sd) (o : Owned σ sd p) : ∃ x, H p = some x := by
  obtain ⟨i, o, e⟩ := o
  have hs := R.slot i
  cases es : sget sd i with
  | no => rw [es] at o; cases o
  | va d => rw [es] at o; cases o
  | scr d => rw [es] at o; cases o
  | exc d => rw [es] at o; cases o
  | ins c fs => rw [es] at hs; obtain ⟨q2, _, _, _, e1, e2, _⟩ := hs; rw [e] at e1; cases e1; exact ⟨_, e2⟩
  | own ds' => rw [es] at hs; obtain ⟨q2, vs2, e1, e2, _⟩ := hs; rw [e] at e1; cases e1; exact ⟨_, e2⟩
  | well n => rw [es] at hs; obtain ⟨q2, _, _, _, e1, e2, _⟩ := hs; rw [e] at e1; cases e1; exact ⟨_, e2⟩
theorem owned_wipe {σ : L2.St} {sd : DSt} {vs : List Nat} {a : Addr} (h : Owned (wipe σ vs) (swipe sd vs) a) : Owned σ sd a := by
  obtain ⟨i, o, e⟩ := h
  by_cases hi : i ∈ vs
  · have : ∀ (ws : List Nat), i ∈ ws → sget (swipe sd ws) i = .no := by
      intro ws
      induction ws with
      | nil => intro h; simp at h
      | cons w ws ih =>
        intro h
        show sget (sset (swipe sd ws) w .no) i = .no
        by_cases hw : i = w
        · subst hw
          by_cases hl : i < sd.length
          · rw [sget_sset (by rw [swipe_length]; exact hl)]
          · rw [sget_out (by rw [sset_length, swipe_length]; omega)]
        · rw [sget_sset_ne hw]; exact ih (by simpa [hw] using h)
    rw [this vs hi] at o; cases o
  · rw [sget_swipe hi] at o
    rw [gv_wipe hi] at e
    exact ⟨i, o, e⟩
/-- the end of a comprehension: its slots as they were ahead of it -/
theorem rs_back {F1 H1 F H : Hp} {σ : L2.St} {s1 s : DSt} {vs : List Nat} (R1 : Rs K C F1 H1 σ s1) (hu : unOwn s1 vs = true) (R : Rs K C F H (wipe σ vs) (swipe s vs)) (e : Same F1 F) : Rs K C F H σ (sback s1 s vs) ∧ ∀ a, Owned σ (sback s1 s vs) a → Owned (wipe σ vs) (swipe s vs) a := by
  have hl : s.length = s1.length := by
    have a := R.len
    have b := R1.len
    rw [wipe_length, swipe_length] at a
    omega
  have own : ∀ j, isOwn (sget (sback s1 s vs) j) = true → j ∉ vs := fun j o hj => by
    rw [sget_sback_in hj hl, unOwn_of hu hj] at o; cases o
  refine ⟨⟨by rw [sback_length, hl]; exact R1.len, R.grow, R.ext, R.new, R.keep, R.still, fun j => ?_, fun j k q hjk o1 o2 z1 => ?_⟩, fun a ⟨j, o, ev⟩ => ?_⟩
  · by_cases hj : j ∈ vs
    · rw [sget_sback_in hj hl]
      have := R1.slot j
      have no := unOwn_of hu hj
      exact this.grow e fun q o ho _ _ _ => by rw [no] at ho; cases ho
    · rw [sget_sback hj]
      have := R.slot j
      rw [sget_swipe hj, gv_wipe hj] at this
      exact this
  · have n1 := own j o1
    have n2 := own k o2
    rw [sget_sback n1] at o1
    rw [sget_sback n2] at o2
    have := R.sep j k q hjk (by rw [sget_swipe n1]; exact o1) (by rw [sget_swipe n2]; exact o2) (by rw [gv_wipe n1]; exact z1)
    rw [gv_wipe n2] at this
    exact this
  · have n1 := own j o
    rw [sget_sback n1] at o
    exact ⟨j, by rw [sget_swipe n1]; exact o, by rw [gv_wipe n1]; exact ev⟩
/-- one turn's beginning: the new list at Dl holds what acc tells -/
structure LcSt (K : PySem.W.Frag) (C : Ct) (σ : L2.St) (s1 : DSt) (F1 H1 : Hp) (vs : List Nat) (Dl : Addr) (F' H' : Hp) (s : DSt) (acc : List PyData) : Prop where
  R : Rs K C F' H' (wipe σ vs) (swipe s vs)
  fr : Same F1 F'
  kp : ∀ a o, H1 a = some o → ¬ Owned σ s1 a → H' a = some o
  ow : ∀ a, Owned (wipe σ vs) (swipe s vs) a → Owned σ s1 a
  nw : ∀ a o, F' a = some o → F1 a = some o ∨ H1 a = none ∨ Owned σ s1 a
  st : ∀ a, H' a = none → H1 a = none
  dl : ∃ vacc, H' Dl = some (.lst vacc) ∧ RpA K F' vacc acc
  df : F' Dl = none
theorem lc_end {σ : L2.St} {s1 s : DSt} {F1 H1 F' H' : Hp} {vs : List Nat} {Dl : Addr} {acc : List PyData} (R1 : Rs K C F1 H1 σ s1) (hu : unOwn s1 vs = true) (hD : H1 Dl = none) (L : LcSt K C σ s1 F1 H1 vs Dl F' H' s acc) :
    ∃ vacc, H' Dl = some (.lst vacc) ∧ RpA K F' vacc acc ∧ F' Dl = none ∧ C.H0 Dl = none ∧ Rs K C F' H' σ (sback s1 s vs) ∧ Stp σ s1 F1 H1 F' H' (sback s1 s vs) ∧ ¬ Owned σ (sback s1 s vs) Dl := by
  obtain ⟨vacc, h1, h2⟩ := L.dl
  obtain ⟨Rb, ob⟩ := rs_back R1 hu L.R L.fr
  refine ⟨vacc, h1, h2, L.df, R1.still _ hD, Rb, ⟨L.fr, L.kp, fun a z => L.ow a (ob a z), L.nw, L.st⟩, fun z => ?_⟩
  obtain ⟨x, e⟩ := owned_at R1 (L.ow _ (ob _ z))
  rw [hD] at e; cases e
theorem lc_turn {σ σ2 : L2.St} {s1 s s2 : DSt} {F1 H1 F' H' F2 H2 F3 H3 : Hp} {vs : List Nat} {Dl : Addr} {acc : List PyData} (R1 : Rs K C F1 H1 σ s1) (hD : H1 Dl = none) (L : LcSt K C σ s1 F1 H1 vs Dl F' H' s acc) (al : Al F' H' F2 H2)
    {s0 : DSt} (hw : wipe σ2 vs = wipe σ vs) (ho : ∀ a, Owned σ2 s0 a → Owned (wipe σ vs) (swipe s vs) a) (R3 : Rs K C F3 H3 σ2 s2) (S3 : Stp σ2 s0 F2 H2 F3 H3 s2) : LcSt K C σ s1 F1 H1 vs Dl F3 H3 s2 acc ∧ ¬ Owned (wipe σ vs) (swipe s2 vs) Dl ∧ C.H0 Dl = none := by
  have A := Stp.al L.R al
  have ow3 : ∀ a, Owned (wipe σ vs) (swipe s2 vs) a → Owned σ s1 a := fun a z => by
    rw [← hw] at z
    exact L.ow a (ho a (S3.ow a (owned_wipe z)))
  have nD : ¬ Owned σ s1 Dl := fun z => by
    obtain ⟨x, e⟩ := owned_at R1 z
    rw [hD] at e; cases e
  obtain ⟨vacc, h1, h2⟩ := L.dl
  have h12 : H2 Dl = some (.lst vacc) := A.kp _ _ h1 fun z => nD (L.ow _ z)
  have nD0 : ¬ Owned σ2 s0 Dl := fun z => nD (L.ow _ (ho _ z))
  refine ⟨⟨by rw [← hw]; exact rs_wipe R3 vs, (L.fr.trans A.fr).trans S3.fr, fun a o e n => S3.kp a o (A.kp a o (L.kp a o e n) fun z => n (L.ow a z)) fun z => n (L.ow a (ho a z)), ow3, fun a o e => ?_, fun a e => L.st a (A.st a (S3.st a e)), ⟨vacc, S3.kp _ _ h12 nD0, (h2.mono A.fr).mono S3.fr⟩, ?_⟩, fun z => nD (ow3 _ z), R1.still _ hD⟩
  · rcases S3.nw a o e with e | e | e
    · rcases A.nw a o e with e | e | e
      · exact L.nw a o e
      · exact .inr (.inl (L.st a e))
      · exact .inr (.inr (L.ow a e))
    · exact .inr (.inl (L.st a (A.st a e)))
    · exact .inr (.inr (L.ow a (ho a e)))
  · cases e : F3 Dl with
    | none => rfl
    | some o =>
      rcases S3.nw _ o e with e | e | e
      · rcases A.nw _ o e with e | e | e
        · rw [L.df] at e; cases e
        · rw [h1] at e; cases e
        · exact (nD (L.ow _ e)).elim
      · rw [h12] at e; cases e
      · exact (nD0 e).elim
theorem td_lc {mi : MI} {mg : MG} {mt : MT} {me : ME} {vs : List Nat} {σ : L2.St} {H : Hp} {Q : VK} {F : Hp} {sd : DSt} {P : List PyData → DSt → Prop} (R : Rs K C F H σ sd) (h : mi sd fun ds s => unOwn s vs = true ∧ lcL mg mt me vs (fun out s' => P out (sback s s' vs)) ds s [])
    (k : ∀ Dl H' F' out vout sd', Rs K C F' H' σ sd' → Stp σ sd F H F' H' sd' → H' Dl = some (.lst vout) → RpA K F' vout out → F' Dl = none → C.H0 Dl = none → ¬ Owned σ sd' Dl → H Dl = none → P out sd' → Q (.ref Dl) H') : tLc (tDI K C mi) (tDGv K C vs mg) (tDT K C mt) (tD K C me) vs σ H Q := by
  refine ⟨F, sd, _, R, h, fun J H1 F1 ds s1 R1 S1 W h1 => fun Dl hD => ?_⟩
  obtain ⟨hu, h1⟩ := h1
  obtain ⟨G, Y, w, hG, hY⟩ := W.ex
  have nD : ¬ Owned σ s1 Dl := fun z => by
    obtain ⟨x, e⟩ := owned_at R1 z
    rw [hD] at e; cases e
  refine lc_it w (fun i H' => ∃ F' s acc, LcSt K C σ s1 F1 H1 vs Dl F' H' s acc ∧ lcL mg mt me vs (fun out s' => P out (sback s1 s' vs)) (ds.drop i) s acc) ⟨F1, s1, [], ?_, h1⟩ (fun i H' _ ⟨F', s, acc, L, _⟩ => hG H' (L.fr.trans L.R.ext)) (fun i x H' H'' hi ⟨F', s, acc, L, q⟩ y => ?_) (fun H' ⟨F', s, acc, L, q⟩ => ?_)
  · refine ⟨rs_wipe (R1.allocH hD) vs, Same.refl _, fun a o e _ => same_new hD a o e, fun a z => owned_wipe z, fun a o e => .inl e, fun a e => ?_, ⟨[], upd_same, .nil⟩, R1.free hD⟩
    by_cases z : a = Dl
    · subst z; exact hD
    · rw [upd_ne z] at e; exact e
  · obtain ⟨F2, d, al, hd, rd⟩ := hY i H' x H'' F' hi L.fr L.R.ext y
    rw [drop_get hd] at q
    refine ⟨F2, swipe s vs, d, _, L.R.al al, rd, q, fun σ2 s2 R2 hw ho q2 => ⟨by rw [hw, wipe_wipe], F2, s2, _, R2, q2, fun b H3 F3 s3 R3 S3 q3 => ?_⟩⟩
    rw [wipe_wipe] at hw
    cases b with
    | true =>
      refine ⟨F3, s3, _, R3, q3, fun y H4 F4 dy s4 R4 S4 ry q4 => ?_⟩
      obtain ⟨L4, no4, h04⟩ := lc_turn R1 hD L al hw ho R4 (S3.trans S4)
      obtain ⟨vacc, e1, e2⟩ := L4.dl
      refine ⟨vacc, e1, by rw [e2.length]; exact line_lt q4.1, F4, s4, acc ++ [dy], ⟨L4.R.updH L4.df no4 h04, L4.fr, fun a o e n => ?_, L4.ow, L4.nw, fun a e => ?_, ⟨_, upd_same, e2.snoc ry⟩, L4.df⟩, q4.2⟩
      · have : a ≠ Dl := fun z => by subst z; rw [hD] at e; cases e
        rw [upd_ne this]; exact L4.kp a o e n
      · by_cases z : a = Dl
        · subst z; exact hD
        · rw [upd_ne z] at e; exact L4.st a e
    | false =>
      obtain ⟨L4, _, _⟩ := lc_turn R1 hD L al hw ho R3 S3
      exact ⟨F3, s3, acc, L4, q3⟩
  · rw [List.drop_length] at q
    obtain ⟨vacc, a1, a2, a3, a4, a5, a6, a7⟩ := lc_end R1 hu hD L
    exact k Dl H' F' acc vacc _ a5 (S1.trans a6) a1 a2 a3 a4 a7 (S1.st _ hD) q
end
end DL
namespace DL
open PySem PySem.Spec PyProof.Rows L2
/-- room for k calls, and nothing is being shown -/
structure RoomG (k : Nat) (A : Around) : Prop where
  r : Room k A
  g : A.guards = some []
theorem RoomG.mono {j k : Nat} {A : Around} (h : RoomG k A) (hj : j ≤ k) : RoomG j A := ⟨h.r.mono hj, h.g⟩
theorem RoomG.deeper {k : Nat} {A : Around} (h : RoomG (k + 1) A) (env : Env) : RoomG k (A.deeper env) := ⟨h.r.deeper env, h.g⟩
structure FnG (P : Program) (w : World) (K : PySem.W.Frag) (mg : Str → Option Value) (base : Heap) (k : Nat) (f : Addr) (fd : FuncData) (ps : List Str) (sp : Sp) : Prop where
  len : ∀ vs H Q E, sp vs H Q E → vs.length = ps.length
  run : ∀ {A : Around} {outer : List Env} {s : Shared} {H : Hp} {args : Args} {us : List Value} {vs : List V} {Q : VK} {E : XK}, RoomG k A → Env0 P w K mg base A outer s H → BindsTo s fd args (ps.zip us) → Vals vs us → sp vs H Q E →
    codeAny (model P w) A (.call (.ref f) args) (CR (L2.CX P w) outer P w H s Q E) s
theorem FnG.of {P : Program} {w : World} {K : PySem.W.Frag} {mg : Str → Option Value} {base : Heap} {k : Nat} {f : Addr} {fd : FuncData} {ps : List Str} {sp : Sp} (F : FnOk P w K mg base (L2.CX P w) k f fd ps sp) : FnG P w K mg base k f fd ps sp :=
  ⟨F.len, fun hr e b r h => F.run _ _ _ _ _ _ _ _ _ hr.r e b r h⟩
section
variable {P : Program} {w : World} {K : PySem.W.Frag} {mg : Str → Option Value} {base : Heap} {k : Nat}
/-- a def's promise from its body -/
theorem fun_okG {x qual : Str} {st : Stmt} {f : Addr} {fd : FuncData} {N ps : List Str} {sp : Sp} (F : Fun K x qual st f fd) (S : FnScope N ps (defScope st)) (len : ∀ vs H Q E, sp vs H Q E → vs.length = ps.length)
    (body : ∀ (cdv : Value) (A : Around) (outer : List Env) (s : Shared) (H : Hp) (vs : List V) (Q : VK) (E : XK), RoomG k (A.deeper (envOfC qual (defScope st) s.heap.objs.size f cdv)) → sp vs H Q E →
      ∃ t, PSs (cxOf (L2.CX P w) P w K mg base N qual (defScope st) f cdv A outer s H E) (defBody st) t ∧ t { nx := fun _ H' => Q .non H', rt := Q } (L2.start N vs) H) : FnG P w K mg base (k + 1) f fd ps sp := by
  obtain ⟨oc, od, kV, doc, pm, an, cdv, ct, osl, rfl, lk, code⟩ := F.ex
  refine ⟨len, fun {A outer s H args us vs Q E} hr e0 hb rv hs => ?_⟩
  have stays : ∀ b o, base.get? b = some o → s.heap.get? b = some o := fun b o e => (e0.bs b o e).1
  have KX := e0.mod.kin.keeps stays
  refine codeAny_call_function hr.r.depth (KX _ _ lk) rfl S.co S.gen rfl (PySem.W.codeRec_of KX code) (hb _ _ _ _ (wpAny_newFunctionEnv_cells S.kind (fun y hy => ?_) fun env he s1 x1 => ?_))
  · have hp := S.par y.1 (List.of_mem_zip (show (y.1, y.2) ∈ ps.zip us from hy)).1
    exact hp.imp id fun c => ⟨c, PySem.W.cellsFrom_some _ _ _ (.inl c)⟩
  · subst he
    obtain ⟨t, ht, ht2⟩ := body cdv A outer s H vs Q E (hr.deeper _) hs
    have I0 := inv_start (CX := L2.CX P w) (E := E) S hr.r.hd e0 (len _ _ _ _ hs) rv x1
    refine ⟨(e0.mod.nolimit.keeps stays).keeps x1.toInCall.keep, codeAny_func (wpAny_mono (ht.run [] s1 _ H _ I0 ht2) (fun fl s2 h2 => ?_) fun _ _ h2 => h2)⟩
    cases fl with
    | brk => exact h2.elim fun _ h => h.elim fun _ h => h.2.elim
    | cont => exact h2.elim fun _ h => h.elim fun _ h => h.2.elim
    | next => exact h2.elim fun σ2 h => h.elim fun H2 h => ⟨V.non, H2, h.1.os, h.1.bare, h.1.base, h.1.hok, rfl, h.2⟩
    | ret u => exact h2.elim fun v h => h.elim fun σ2 h => h.elim fun H2 h => ⟨v, H2, h.1.os, h.1.bare, h.1.base, h.1.hok, h.2.1, h.2.2⟩
end
section
variable {X : Cx} {k : Nat} {f : Addr} {fd : FuncData} {ps ks : List Str} {sp : Sp} {E : L2.St → XK} {x : Str} {p pos : Pos} {e : Expr} {es : List Expr} {t tk : TA}
theorem run_fnG {pins : List (Addr × Obj)} {σ : L2.St} {H : Hp} {s : Shared} {Q : VK} {us : List Value} {vs : List V} {args : Args} {n : Nat} (F : FnG X.prog X.w X.K X.mg X.base k f fd ps sp) (hr : RoomG k X.A) (hb : BindsTo s fd args (ps.zip us)) (hx : PassesAt (L2.CX X.prog X.w) X σ (E σ))
    (I : Inv X pins σ H s) (r : Vals vs us) (h : sp vs H Q (E σ)) : codeAny (model X.prog X.w) X.A (.call (.ref f) args) (fun r s' => match r with
      | .error e => X.xe e s'
      | .ok (.ret u) => EP X pins σ Q u s'
      | .ok _ => False) s := by
  refine codeAny_mono (F.run hr I.env0 hb r h) fun r s' hq => ?_
  cases r with
  | error e => exact hx pins H s e s' I hq
  | ok fl =>
    cases fl with
    | ret u => exact I.after hq
    | next => exact hq
    | brk => exact hq
    | cont => exact hq
/-- f(e, ..), and what f raises is wished for at the slots as they stand -/
def tCallG (sp : Sp) (E : L2.St → XK) (t : TA) : TE := fun σ H Q => t σ H fun vs H1 => sp vs H1 Q (E σ)
theorem wp_callG {pins : List (Addr × Obj)} {σ : L2.St} {H : Hp} {s : Shared} {Q : VK} {us : List Value} {vs : List V} (F : FnG X.prog X.w X.K X.mg X.base k f fd ps sp) (hr : RoomG k X.A) (hb : Binds X.K fd ps []) (hx : PassesAt (L2.CX X.prog X.w) X σ (E σ))
    (I : Inv X pins σ H s) (r : Vals vs us) (h : sp vs H Q (E σ)) : wpAny (model X.prog X.w) X.A (call (.ref f) us) (EP X pins σ Q) X.xe s := by
  have hl : (us ++ []).length = ps.length := by rw [List.append_nil, ← r.length]; exact F.len _ _ _ _ h
  have b := hb s us I.kIn hl
  rw [List.append_nil] at b
  refine wpAny_call (codeAny_mono (run_fnG (args := ⟨us, []⟩) (n := 0) F hr b hx I r h) fun r s' hq => ?_)
  rcases r with _ | (_ | _ | _ | _) <;> exact hq
theorem pe_callG (F : FnG X.prog X.w X.K X.mg X.base k f fd ps sp) (hr : RoomG k X.A) (hg : Gl X x) (hm : X.mg x = some (.ref f)) (hk : PySem.W.keepIn X.K (.ref f) = true) (hb : Binds X.K fd ps []) (hx : ∀ σ, PassesAt (L2.CX X.prog X.w) X σ (E σ))
    (ha : PA X (e :: es) t) (hdb : (x == ("__debug__" : Str)) = false) (he : starEach (e :: es) X.env = (false, eval e X.env) :: starEach es X.env) (hpl : (backTo pos (starEach es X.env)).any (·.1) = false) :
    PE X (.Call (.Name x p) (e :: es) [] pos) (tCallG sp E t) :=
  ⟨fun pins s σ H Q I h => wpAny_Call_Name_kw (ld_glob I hg hm (PySem.W.callWith_K (h₀ := X.base) I.ok.mod.kin hk (thn (ha.run pos pins s σ H _ I h) fun us s1 hh => by
    obtain ⟨vs, H1, I1, r, q⟩ := hh
    exact ⟨I1.kIn, wp_callG F hr hb (hx σ) I1 r q⟩) he hpl) hdb)⟩
theorem pe_callG0 (F : FnG X.prog X.w X.K X.mg X.base k f fd ps sp) (hr : RoomG k X.A) (hg : Gl X x) (hm : X.mg x = some (.ref f)) (hk : PySem.W.keepIn X.K (.ref f) = true) (hb : Binds X.K fd ps []) (hx : ∀ σ, PassesAt (L2.CX X.prog X.w) X σ (E σ))
    (hdb : (x == ("__debug__" : Str)) = false) : PE X (.Call (.Name x p) [] [] pos) (tCallG sp E tNil) :=
  ⟨fun pins s σ H Q I h => wpAny_Call_Name_kw (ld_glob I hg hm (PySem.W.callWith_K0 I.kIn hk (wp_callG (us := []) F hr hb (hx σ) I .nil h)) hdb)⟩
/-- f(a, .., k=b, ..) -/
def tCallGK (sp : Sp) (gV : List V → List V → List V) (E : L2.St → XK) (t tk : TA) : TE := fun σ H Q => t σ H fun vs H1 => tk σ H1 fun zs H2 => sp (gV vs zs) H2 Q (E σ)
variable {g : List Value → List Value → List Value} {gV : List V → List V → List V} {kws : List Keyword}
theorem wp_callGK {pins : List (Addr × Obj)} {σ : L2.St} {H : Hp} {s : Shared} {Q : VK} {us ws : List Value} {vs zs : List V} (F : FnG X.prog X.w X.K X.mg X.base k f fd ps sp) (hr : RoomG k X.A) (hb : KBinds X.K fd ps ks g gV) (hx : PassesAt (L2.CX X.prog X.w) X σ (E σ))
    (I : Inv X pins σ H s) (r : Vals vs us) (rz : Vals zs ws) (h : sp (gV vs zs) H Q (E σ)) : wpAny (model X.prog X.w) X.A (call (.ref f) us (ks.zip ws)) (EP X pins σ Q) X.xe s := by
  have rg := hb.rel r rz
  have hl : (g us ws).length = ps.length := rg.length ▸ F.len _ _ _ _ h
  refine wpAny_call (codeAny_mono (run_fnG (args := ⟨us, ks.zip ws⟩) (n := 0) F hr (hb.to s us ws I.kIn hl) hx I rg h) fun r s' hq => ?_)
  rcases r with _ | (_ | _ | _ | _) <;> exact hq
theorem pe_callGK (F : FnG X.prog X.w X.K X.mg X.base k f fd ps sp) (hr : RoomG k X.A) (hg : Gl X x) (hm : X.mg x = some (.ref f)) (hk : PySem.W.keepIn X.K (.ref f) = true) (hb : KBinds X.K fd ps ks g gV) (hx : ∀ σ, PassesAt (L2.CX X.prog X.w) X σ (E σ))
    (ha : PA X (e :: es) t) (hkw : PK X kws tk) (hall : (backToKw pos (keywordEach kws X.env)).all (·.1.isSome) = true) (hks : (backToKw pos (keywordEach kws X.env)).filterMap (·.1) = ks)
    (hdb : (x == ("__debug__" : Str)) = false) (he : starEach (e :: es) X.env = (false, eval e X.env) :: starEach es X.env)
    (hpl : ((backTo pos (starEach (e :: es) X.env)).any (·.1) || (backToKw pos (keywordEach kws X.env)).any (·.1.isNone)) = false) : PE X (.Call (.Name x p) (e :: es) kws pos) (tCallGK sp gV E t tk) := by
  refine ⟨fun pins s σ H Q I h => wpAny_Call_Name_kw (ld_glob I hg hm (PySem.W.callWith_KW (h₀ := X.base) I.ok.mod.kin hk hall (thn (ha.run pos pins s σ H _ I h) fun us s1 hh => ?_) hpl he) hdb)⟩
  obtain ⟨vs, H1, I1, r, q⟩ := hh
  refine thn (hkw.run pos pins s1 σ H1 _ I1 q) fun ws s2 h2 => ?_
  obtain ⟨zs, H2, I2, rz, q2⟩ := h2
  refine ⟨I2.kIn, ?_⟩
  rw [hks]
  exact wp_callGK F hr hb (hx σ) I2 r rz q2
theorem pe_callGK0 (F : FnG X.prog X.w X.K X.mg X.base k f fd ps sp) (hr : RoomG k X.A) (hg : Gl X x) (hm : X.mg x = some (.ref f)) (hk : PySem.W.keepIn X.K (.ref f) = true) (hb : KBinds X.K fd ps ks g gV) (hx : ∀ σ, PassesAt (L2.CX X.prog X.w) X σ (E σ))
    (hkw : PK X kws tk) (hall : (backToKw pos (keywordEach kws X.env)).all (·.1.isSome) = true) (hks : (backToKw pos (keywordEach kws X.env)).filterMap (·.1) = ks)
    (hdb : (x == ("__debug__" : Str)) = false) (hpl : ((backTo pos (starEach [] X.env)).any (·.1) || (backToKw pos (keywordEach kws X.env)).any (·.1.isNone)) = false) : PE X (.Call (.Name x p) [] kws pos) (tCallGK sp gV E tNil tk) := by
  refine ⟨fun pins s σ H Q I h => wpAny_Call_Name_kw (ld_glob I hg hm (PySem.W.callWith_KW0 (h₀ := X.base) I.ok.mod.kin hk hall (thn (hkw.run pos pins s σ H _ I h) fun ws s2 h2 => ?_) hpl) hdb)⟩
  obtain ⟨zs, H2, I2, rz, q2⟩ := h2
  refine ⟨I2.kIn, ?_⟩
  rw [hks]
  exact wp_callGK F hr hb (hx σ) I2 .nil rz q2
end
end DL
namespace DL
open PySem PySem.Spec PyProof.Rows L2
section
variable {K : PySem.W.Frag} {X : Cx} {C : Ct}
/-- a list that nobody knows is made known -/
theorem Rs.freezeD {F H : Hp} {σ : L2.St} {sd : DSt} {p : Addr} {vs : List V} {ds : List PyData} (R : Rs K C F H σ sd) (h : H p = some (.lst vs)) (hF : F p = none) (h0 : C.H0 p = none) (ho : ¬ Owned σ sd p) (r : RpA K F vs ds) :
    Rs K C (upd F p (.lst vs)) H σ sd ∧ Rp K (upd F p (.lst vs)) (.ref p) (.list ds) := by
  have sF : Same F (upd F p (.lst vs)) := same_new hF
  refine ⟨⟨R.len, R.grow.trans sF, fun a x e => ?_, fun a x e => ?_, R.keep, R.still, fun i => ?_, R.sep⟩, .lst upd_same (r.mono sF)⟩
  · by_cases z : a = p
    · subst z; rw [upd_same] at e; cases e; exact h
    · rw [upd_ne z] at e; exact R.ext a x e
  · by_cases z : a = p
    · subst z; exact .inr h0
    · rw [upd_ne z] at e; exact R.new a x e
  · refine (R.slot i).grow sF fun q x o e eh en => ⟨eh, ?_⟩
    have : q ≠ p := fun z => by subst z; exact ho ⟨i, o, e⟩
    rw [upd_ne this]; exact en
theorem Stp.freezeD {F H F' H' : Hp} {σ : L2.St} {sd sd' : DSt} {p : Addr} {o : HO} (S : Stp σ sd F H F' H' sd') (hF : F' p = none) (hn : H p = none) : Stp σ sd F H (upd F' p o) H' sd' where
  fr := S.fr.trans (same_new hF)
  kp := S.kp
  ow := S.ow
  nw := fun a x e => by
    by_cases z : a = p
    · subst z; exact .inr (.inl hn)
    · rw [upd_ne z] at e; exact S.nw a x e
  st := S.st
theorem td_lcV {mi : MI} {mg : MG} {mt : MT} {me : ME} {vs : List Nat} : ∀ σ H Q, tD K C (mLc mi mg mt me vs) σ H Q → tLc (tDI K C mi) (tDGv K C vs mg) (tDT K C mt) (tD K C me) vs σ H Q := by
  rintro σ H Q ⟨F, sd, Qd, R, h, k⟩
  refine td_lc R h fun Dl H' F' out vout sd' R' S h1 r hF h0 ho hn q => ?_
  obtain ⟨R2, rp⟩ := R'.freezeD h1 hF h0 ho r
  exact k _ H' _ _ sd' R2 (S.freezeD hF hn) rp q
theorem td_lcR {mi : MI} {mg : MG} {mt : MT} {me : ME} {vs : List Nat} : ∀ σ H Q, tDR K C (mrLc mi mg mt me vs) σ H Q → tLc (tDI K C mi) (tDGv K C vs mg) (tDT K C mt) (tD K C me) vs σ H Q := by
  rintro σ H Q ⟨F, sd, Qd, R, h, k⟩
  refine td_lc R h fun Dl H' F' out vout sd' R' S h1 r hF h0 ho hn q => ?_
  exact k _ H' F' (.own out) sd' R' S ⟨Dl, vout, rfl, h1, hF, h0, r⟩ (fun _ z e => by cases e; exact ho) (fun _ z e => by cases e; exact hn) q
variable {elt tg iter : Expr} {ifs : List Expr} {scope : Scope} {pos : Pos} {mi : MI} {mg : MG} {mt : MT} {me : ME} {vs : List Nat}
theorem pd_lc (t : PE X (.ListComp elt [⟨tg, iter, ifs, 0⟩] scope pos) (tLc (tDI X.K C mi) (tDGv X.K C vs mg) (tDT X.K C mt) (tD X.K C me) vs)) : PE X (.ListComp elt [⟨tg, iter, ifs, 0⟩] scope pos) (tD X.K C (mLc mi mg mt me vs)) := pe_imp t td_lcV
theorem pdr_lc (t : PE X (.ListComp elt [⟨tg, iter, ifs, 0⟩] scope pos) (tLc (tDI X.K C mi) (tDGv X.K C vs mg) (tDT X.K C mt) (tD X.K C me) vs)) : PE X (.ListComp elt [⟨tg, iter, ifs, 0⟩] scope pos) (tDR X.K C (mrLc mi mg mt me vs)) := pe_imp t td_lcR
/-- y = [..] on one line -/
theorem pds_setLc {y : Expr} {spos : Pos} {i : Nat} (t : PS X (.Assign [y] (.ListComp elt [⟨tg, iter, ifs, 0⟩] scope pos) spos) (tAsg (tLc (tDI X.K C mi) (tDGv X.K C vs mg) (tDT X.K C mt) (tD X.K C me) vs) (gName i))) :
    PS X (.Assign [y] (.ListComp elt [⟨tg, iter, ifs, 0⟩] scope pos) spos) (tDS X.K C (mAsg (mLc mi mg mt me vs) (mgName i))) := ps_imp t (by
  rintro D σ H ⟨F, sd, Dd, R, E, h⟩
  refine td_lcV σ H _ ⟨F, sd, _, R, h, fun v H1 F1 d sd1 R1 S1 r q => ?_⟩
  exact E.nx F1 H1 _ _ S1.fr (R1.setva r) q)
theorem pds_setLcR {y : Expr} {spos : Pos} {i : Nat} (t : PS X (.Assign [y] (.ListComp elt [⟨tg, iter, ifs, 0⟩] scope pos) spos) (tAsg (tLc (tDI X.K C mi) (tDGv X.K C vs mg) (tDT X.K C mt) (tD X.K C me) vs) (gName i))) :
    PS X (.Assign [y] (.ListComp elt [⟨tg, iter, ifs, 0⟩] scope pos) spos) (tDS X.K C (mAsgR i (mrLc mi mg mt me vs))) := ps_imp t (by
  rintro D σ H ⟨F, sd, Dd, R, E, h⟩
  refine td_lcR σ H _ ⟨F, sd, _, R, h, fun v H1 F1 r sd1 R1 S1 rv fre new q => ?_⟩
  exact E.nx F1 H1 _ _ S1.fr (R1.setr rv fre) q)
theorem pdts_nil : PTs X [] (tDT X.K C mTYes) := ⟨fun pins s σ H Q I h => (pts_nil (X := X)).run pins s σ H Q I (by
  obtain ⟨F, sd, Qd, R, h, k⟩ := h
  exact k true H F sd R .refl h)⟩
theorem pdts_one {c : Expr} {t : MT} (h : PT X c (tDT X.K C t)) : PTs X [c] (tDT X.K C t) := pts_one h
end
/-- behind a call that was handed frozen data alone -/
structure Post (K : PySem.W.Frag) (F H F' H' : Hp) : Prop where
  fr : Same F F'
  ext : Same F' H'
  kp : Same H H'
  nw : ∀ a o, F' a = some o → F a = some o ∨ H a = none
def ResOk (K : PySem.W.Frag) (F' H H' : Hp) (v : V) : S → Prop
  | .no => True
  | .scr ns => ∃ p, v = .ref p ∧ SqL K F' p (ns.map V.int)
  | .exc a => v = .ref a
  | .ins c es => ∃ p Cc dx fs, v = .ref p ∧ H' p = some (.ins Cc dx fs) ∧ F' p = none ∧ H p = none ∧ ObjC K c Cc ∧ RpF K F' fs es
  | .va d => Rp K F' v d
  | .own ds => ∃ p vs, v = .ref p ∧ H' p = some (.lst vs) ∧ F' p = none ∧ H p = none ∧ RpA K F' vs ds
  | .well n => ∃ p a b c, v = .ref p ∧ H' p = some (.lst [.int a, .int b, .int c]) ∧ F' p = none ∧ H p = none ∧ WellOk n a b c
def spP (K : PySem.W.Frag) (CN : String → Option Addr) (spec : PSpec) : Sp := fun vs H Q E => ∃ F ds Qd Ed, Same F H ∧ RpA K F vs ds ∧ spec ds Qd Ed ∧
  (∀ v H' F' r, Post K F H F' H' → ResOk K F' H H' v r → Qd r → Q v H') ∧ ∀ c a H' F', CN c = some a → Post K F H F' H' → Ed c → E (.ref a) none H'
/-- .. and the well -/
structure PostW (K : PySem.W.Frag) (p : Addr) (F H F' H' : Hp) (n' : Nat) : Prop where
  fr : Same F F'
  ext : Same F' H'
  kp : ∀ a o, a ≠ p → H a = some o → H' a = some o
  nw : ∀ a o, F' a = some o → F a = some o ∨ H a = none
  wl : ∃ a b c, H' p = some (.lst [.int a, .int b, .int c]) ∧ WellOk n' a b c
def spW (K : PySem.W.Frag) (spec : WSpec) : Sp := fun vs H Q _ => ∃ F p ws n a b c ds Qd, vs = .ref p :: ws ∧ Same F H ∧ F p = none ∧ H p = some (.lst [.int a, .int b, .int c]) ∧ WellOk n a b c ∧ RpA K F ws ds ∧ spec n ds Qd ∧
  ∀ v H' F' r n', PostW K p F H F' H' n' → ResOk K F' H H' v r → Qd r n' → Q v H'
section
variable {K : PySem.W.Frag} {X : Cx} {C : Ct} {F H F' H' : Hp} {σ : L2.St} {sd : DSt}
theorem Rs.post (R : Rs K C F H σ sd) (P : Post K F H F' H') : Rs K C F' H' σ sd ∧ Stp σ sd F H F' H' sd := by
  have ns : ∀ a, H' a = none → H a = none := fun a e => P.kp.free e
  refine ⟨⟨R.len, R.grow.trans P.fr, P.ext, fun a o e => ?_, fun a o e n => P.kp a o (R.keep a o e n), fun a e => R.still a (ns a e), fun i => (R.slot i).grow P.fr fun q x o e eh en => ⟨P.kp q x eh, ?_⟩, R.sep⟩, ⟨P.fr, fun a o e _ => P.kp a o e, fun _ z => z, fun a o e => ?_, ns⟩⟩
  · rcases P.nw a o e with e | e
    · exact R.new a o e
    · exact .inr (R.still a e)
  · cases z : F' q with
    | none => rfl
    | some y =>
      rcases P.nw q y z with z | z
      · rw [en] at z; cases z
      · rw [eh] at z; cases z
  · rcases P.nw a o e with e | e
    · exact .inl e
    · exact .inr (.inl e)
/-- the result of a call, frozen where it is a list -/
theorem Rs.res {H0 : Hp} {F0 : Hp} {sd0 : DSt} {v : V} {r : S} {d : PyData} (R : Rs K C F' H' σ sd) (S : Stp σ sd0 F0 H0 F' H' sd) (h : ResOk K F' H H' v r) (hn : ∀ p, H p = none → H0 p = none ∧ ¬ Owned σ sd p ∧ C.H0 p = none) (hf : fz r = some d) :
    ∃ F2, Rs K C F2 H' σ sd ∧ Stp σ sd0 F0 H0 F2 H' sd ∧ Rp K F2 v d := by
  cases r with
  | no => cases hf
  | scr _ => cases hf
  | exc _ => cases hf
  | ins _ _ => cases hf
  | well n => cases hf
  | va d' => cases hf; exact ⟨F', R, S, h⟩
  | own ds =>
    cases hf
    obtain ⟨p, vs, rfl, h1, h2, h3, h4⟩ := h
    have hn3 := hn p h3
    obtain ⟨n1, n2, n3⟩ := hn3
    obtain ⟨R2, rp⟩ := R.freezeD h1 h2 n3 n2 h4
    exact ⟨_, R2, S.freezeD h2 n1, rp⟩
theorem Rs.fresh (R : Rs K C F H σ sd) {p : Addr} (h : H p = none) : ¬ Owned σ sd p ∧ C.H0 p = none :=
  by
  refine ⟨fun z => ?_, R.still p h⟩
  have e := owned_at R z
  rw [h] at e
  exact nomatch e
/-- a def of the text and its promise -/
structure CalP (P : Program) (w : World) (K : PySem.W.Frag) (mg : Str → Option Value) (base : Heap) (CN : String → Option Addr) (k : Nat) (x : Str) (spec : PSpec) : Prop where
  ex : ∃ f fd ps, FnG P w K mg base k f fd ps (spP K CN spec) ∧ mg x = some (.ref f) ∧ PySem.W.keepIn K (.ref f) = true ∧ Binds K fd ps []
structure CalW (P : Program) (w : World) (K : PySem.W.Frag) (mg : Str → Option Value) (base : Heap) (k : Nat) (x : Str) (spec : WSpec) : Prop where
  ex : ∃ f fd ps, FnG P w K mg base k f fd ps (spW K spec) ∧ mg x = some (.ref f) ∧ PySem.W.keepIn K (.ref f) = true ∧ Binds K fd ps []
theorem td_call {CN : String → Option Addr} {spec : PSpec} {W : WD} {ma : MA} : ∀ σ H Q, tD K C (mCall spec W ma) σ H Q → tCallG (spP K CN spec) (WE (wD K C CN W)) (tDA K C ma) σ H Q := by
  rintro σ H Q ⟨F, sd, Qd, R, h, k⟩
  refine ⟨F, sd, _, R, h, fun vs H1 F1 ds sd1 R1 S1 rs h1 => ⟨F1, ds, _, _, R1.ext, rs, h1, fun v H' F' r P ro q => ?_, fun c a H' F' hc P q => ?_⟩⟩
  · obtain ⟨d, hf, q⟩ := q
    obtain ⟨R2, S2⟩ := R1.post P
    obtain ⟨F2, R3, S3, rp⟩ := R2.res (S1.trans S2) ro (fun p hp => ⟨S1.st p hp, fun z => (R1.fresh hp).1 (S2.ow p z), (R1.fresh hp).2⟩) hf
    exact k v H' F2 d sd1 R3 S3 rp q
  · exact ⟨c, a, F', sd1, hc, rfl, rfl, (R1.post P).1, q⟩
theorem pd_call {CN : String → Option Addr} {spec : PSpec} {W : WD} {ma : MA} {x : Str} {p pos : Pos} {e : Expr} {es : List Expr} {k j : Nat} (c : CalP X.prog X.w X.K X.mg X.base CN k x spec) (hr : RoomG j X.A) (hk : k ≤ j) (tk : Takes X (wD X.K C CN W)) (ha : PA X (e :: es) (tDA X.K C ma)) (hg : Gl X x := by rfl)
    (hdb : (x == ("__debug__" : Str)) = false := by decide) (he : starEach (e :: es) X.env = (false, eval e X.env) :: starEach es X.env := by rfl) (hpl : (backTo pos (starEach es X.env)).any (·.1) = false := by rfl) :
    PE X (.Call (.Name x p) (e :: es) [] pos) (tD X.K C (mCall spec W ma)) := by
  obtain ⟨f, fd, ps, F, hm, hkp, hb⟩ := c.ex
  exact pe_imp (pe_callG F (hr.mono hk) hg hm hkp hb (passAt tk) ha hdb he hpl) td_call
/-- .. its result still owned -/
theorem td_callR {CN : String → Option Addr} {spec : PSpec} {W : WD} {ma : MA} (hw : C.isW = false) : ∀ σ H Q, tDR K C (mrCall spec W ma) σ H Q → tCallG (spP K CN spec) (WE (wD K C CN W)) (tDA K C ma) σ H Q := by
  rintro σ H Q ⟨F, sd, Qd, R, h, k⟩
  refine ⟨F, sd, _, R, h, fun vs H1 F1 ds sd1 R1 S1 rs h1 => ⟨F1, ds, _, _, R1.ext, rs, h1, fun v H' F' r P ro q => ?_, fun c a H' F' hc P q => ?_⟩⟩
  · obtain ⟨R2, S2⟩ := R1.post P
    have S3 := S1.trans S2
    have fr : ∀ p, H1 p = none → ¬ Owned σ sd1 p := fun p hp => (R1.fresh hp).1
    cases r with
    | no => exact k v H' F' .no sd1 R2 S3 trivial (fun z => nomatch z) (fun z => nomatch z) q
    | exc a => exact k v H' F' (.exc a) sd1 R2 S3 (congrArg some (show v = .ref a from ro)) (fun z => nomatch z) (fun z => nomatch z) q
    | scr ns => obtain ⟨p, rfl, h1⟩ := ro; exact k _ H' F' (.scr ns) sd1 R2 S3 ⟨p, rfl, h1⟩ (fun z => nomatch z) (fun z => nomatch z) q
    | va d => exact k v H' F' (.va d) sd1 R2 S3 ⟨v, rfl, ro⟩ (fun z => nomatch z) (fun z => nomatch z) q
    | own ds =>
      obtain ⟨p, vs', rfl, h1, h2, h3, h4⟩ := ro
      exact k _ H' F' (.own ds) sd1 R2 S3 ⟨p, vs', rfl, h1, h2, R1.still p h3, h4⟩ (fun _ z e => by cases e; exact fr p h3) (fun _ z e => by cases e; exact S1.st p h3) q
    | ins c es =>
      obtain ⟨p, Cc, dx, fs, rfl, h1, h2, h3, oc, h4⟩ := ro
      exact k _ H' F' (.ins c es) sd1 R2 S3 ⟨p, Cc, dx, fs, rfl, h1, h2, .inr ⟨hw, R1.still p h3⟩, oc, h4⟩ (fun _ z e => by cases e; exact fr p h3) (fun _ z e => by cases e; exact S1.st p h3) q
    | well n =>
      obtain ⟨p, a, b, cc, rfl, h1, h2, h3, h4⟩ := ro
      exact k _ H' F' (.well n) sd1 R2 S3 ⟨p, a, b, cc, rfl, h1, h2, .inr ⟨hw, R1.still p h3⟩, h4⟩ (fun _ z e => by cases e; exact fr p h3) (fun _ z e => by cases e; exact S1.st p h3) q
  · exact ⟨c, a, F', sd1, hc, rfl, rfl, (R1.post P).1, q⟩
theorem pdr_call {CN : String → Option Addr} {spec : PSpec} {W : WD} {ma : MA} {x : Str} {p pos : Pos} {e : Expr} {es : List Expr} {k j : Nat} (hw : C.isW = false) (c : CalP X.prog X.w X.K X.mg X.base CN k x spec) (hr : RoomG j X.A) (hk : k ≤ j) (tk : Takes X (wD X.K C CN W)) (ha : PA X (e :: es) (tDA X.K C ma)) (hg : Gl X x := by rfl)
    (hdb : (x == ("__debug__" : Str)) = false := by decide) (he : starEach (e :: es) X.env = (false, eval e X.env) :: starEach es X.env := by rfl) (hpl : (backTo pos (starEach es X.env)).any (·.1) = false := by rfl) :
    PE X (.Call (.Name x p) (e :: es) [] pos) (tDR X.K C (mrCall spec W ma)) := by
  obtain ⟨f, fd, ps, F, hm, hkp, hb⟩ := c.ex
  exact pe_imp (pe_callG F (hr.mono hk) hg hm hkp hb (passAt tk) ha hdb he hpl) (td_callR hw)
/-- f(well, e, ..) -/
theorem Rs.postW {i : Nat} {n n' : Nat} {p : Addr} (R : Rs K C F H σ sd) (h : sget sd i = .well n) (e : gv σ i = some (.ref p)) (hn : ∃ a b c, H p = some (.lst [.int a, .int b, .int c]) ∧ WellOk n a b c) (P : PostW K p F H F' H' n') :
    Rs K C F' H' σ (sset sd i (.well n')) ∧ Stp σ sd F H F' H' (sset sd i (.well n')) := by
  obtain ⟨a0, b0, c0, hp, _⟩ := hn
  have hi := R.slot i
  rw [h] at hi
  obtain ⟨p', a1, b1, c1, z1, z2, z3, z4, _⟩ := hi
  rw [e] at z1; cases z1
  have hl : i < sd.length := R.lt_of_own (by rw [h]; intro z; cases z)
  obtain ⟨a2, b2, c2, w1, w2⟩ := P.wl
  have Fp : F' p = none := by
    cases z : F' p with
    | none => rfl
    | some y =>
      rcases P.nw p y z with z | z
      · rw [z3] at z; cases z
      · rw [hp] at z; cases z
  have own : Owned σ sd p := ⟨i, by rw [h]; rfl, e⟩
  have other : ∀ j q, j ≠ i → isOwn (sget sd j) = true → gv σ j = some (.ref q) → q ≠ p := fun j q hj ho eq z => by
    subst z
    exact R.sep i j q (Ne.symm hj) (by rw [h]; rfl) ho e eq
  have ns : ∀ a, H' a = none → H a = none := fun a z => by
    by_cases za : a = p
    · subst za; rw [w1] at z; cases z
    · cases q : H a with
      | none => rfl
      | some o => rw [P.kp a o za q] at z; cases z
  have ow : ∀ a, Owned σ (sset sd i (.well n')) a → Owned σ sd a := fun a ⟨j, o, ev⟩ => by
    by_cases hj : j = i
    · subst hj; rw [e] at ev; cases ev; exact own
    · rw [sget_sset_ne hj] at o; exact ⟨j, o, ev⟩
  refine ⟨⟨by rw [sset_length]; exact R.len, R.grow.trans P.fr, P.ext, fun a o q => ?_, fun a o q n => ?_, fun a z => R.still a (ns a z), fun j => ?_, fun j k q hjk o1 o2 z1 => ?_⟩, ⟨P.fr, fun a o q n => P.kp a o (fun z => n (z ▸ own)) q, ow, fun a o q => ?_, ns⟩⟩
  · rcases P.nw a o q with q | q
    · exact R.new a o q
    · exact .inr (R.still a q)
  · have ha := R.keep a o q n
    by_cases za : a = p
    · subst za
      rcases z4 with z4 | z4
      · exact (n z4.2).elim
      · rw [z4.2] at q; cases q
    · exact P.kp a o za ha
  · by_cases hj : j = i
    · subst hj; rw [sget_sset hl]; exact ⟨p, a2, b2, c2, e, w1, Fp, z4, w2⟩
    · rw [sget_sset_ne hj]
      refine (R.slot j).grow P.fr fun q x ho eq eh en => ⟨P.kp q x (other j q hj ho eq) eh, ?_⟩
      cases z : F' q with
      | none => rfl
      | some y =>
        rcases P.nw q y z with z | z
        · rw [en] at z; cases z
        · rw [eh] at z; cases z
  · have own_of : ∀ m, isOwn (sget (sset sd i (.well n')) m) = true → isOwn (sget sd m) = true := fun m o => by
      by_cases hm : m = i
      · subst hm; rw [h]; rfl
      · rw [sget_sset_ne hm] at o; exact o
    exact R.sep j k q hjk (own_of j o1) (own_of k o2) z1
  · rcases P.nw a o q with q | q
    · exact .inl q
    · exact .inr (.inl q)
theorem td_callW {spec : WSpec} {i : Nat} {ma : MA} {E : L2.St → XK} : ∀ σ H Q, tD K C (mCallW spec i ma) σ H Q → tCallG (spW K spec) E (tCons (tVar i) (tDA K C ma)) σ H Q := by
  rintro σ H Q ⟨F, sd, Qd, R, ⟨⟨n0, hn0⟩, h⟩, k⟩
  have hi := R.slot i
  rw [hn0] at hi
  obtain ⟨p, _, _, _, e1, _⟩ := hi
  refine ⟨.ref p, gv_some.mp e1, F, sd, _, R, h, fun vs H1 F1 ds sd1 R1 S1 rs h1 => ?_⟩
  obtain ⟨n, hn, h1⟩ := h1
  have hi1 := R1.slot i
  rw [hn] at hi1
  obtain ⟨p', a, b, c, z1, z2, z3, z4, z5⟩ := hi1
  rw [e1] at z1; cases z1
  refine ⟨F1, p, vs, n, a, b, c, ds, _, rfl, R1.ext, z3, z2, z5, rs, h1, fun v H' F' r n' P ro q => ?_⟩
  obtain ⟨d, hf, q⟩ := q
  obtain ⟨R2, S2⟩ := R1.postW hn e1 ⟨a, b, c, z2, z5⟩ P
  obtain ⟨F2, R3, S3, rp⟩ := R2.res (S1.trans S2) ro (fun p hp => ⟨S1.st p hp, fun z => (R1.fresh hp).1 (S2.ow p z), (R1.fresh hp).2⟩) hf
  exact k v H' F2 d _ R3 S3 rp q
theorem pd_callW {spec : WSpec} {i : Nat} {ma : MA} {x y : Str} {p p2 pos : Pos} {es : List Expr} {k j : Nat} {W : WX} (c : CalW X.prog X.w X.K X.mg X.base k x spec) (hr : RoomG j X.A) (hk : k ≤ j) (tk : Takes X W) (hy : PE X (.Name y p2) (tVar i)) (ha : PA X es (tDA X.K C ma)) (hg : Gl X x := by rfl)
    (hdb : (x == ("__debug__" : Str)) = false := by decide) (he : starEach (.Name y p2 :: es) X.env = (false, eval (.Name y p2) X.env) :: starEach es X.env := by rfl) (hpl : (backTo pos (starEach es X.env)).any (·.1) = false := by rfl) :
    PE X (.Call (.Name x p) (.Name y p2 :: es) [] pos) (tD X.K C (mCallW spec i ma)) := by
  obtain ⟨f, fd, ps, F, hm, hkp, hb⟩ := c.ex
  exact pe_imp (pe_callG F (hr.mono hk) hg hm hkp hb (passAt tk) (pa_cons hy ha he) hdb he hpl) td_callW
/-- the def's order out of what is given by place and by keyword -/
structure Ord (g : {α : Type} → List α → List α → List α) : Prop where
  rel : ∀ {α β : Type} (R : α → β → Prop) {as cs : List α} {bs ds : List β}, Paired R as bs → Paired R cs ds → Paired R (g as cs) (g bs ds)
theorem rpA_paired {F : Hp} : ∀ {vs : List V} {ds : List PyData}, RpA K F vs ds → Paired (Rp K F) vs ds
  | _, _, .nil => .nil
  | _, _, .cons h r => .cons h (rpA_paired r)
theorem paired_rpA {F : Hp} : ∀ {vs : List V} {ds : List PyData}, Paired (Rp K F) vs ds → RpA K F vs ds
  | _, _, .nil => .nil
  | _, _, .cons h r => .cons h (paired_rpA r)
structure CalK (P : Program) (w : World) (K : PySem.W.Frag) (mg : Str → Option Value) (base : Heap) (CN : String → Option Addr) (k : Nat) (x : Str) (spec : PSpec) (ks : List Str) (g : {α : Type} → List α → List α → List α) : Prop where
  ex : ∃ f fd ps, FnG P w K mg base k f fd ps (spP K CN spec) ∧ mg x = some (.ref f) ∧ PySem.W.keepIn K (.ref f) = true ∧ KBinds K fd ps ks g g
  ord : Ord g
theorem td_callK {CN : String → Option Addr} {spec : PSpec} {W : WD} {ma mk : MA} {g : {α : Type} → List α → List α → List α} (og : Ord g) : ∀ σ H Q, tD K C (mCallK spec W g ma mk) σ H Q → tCallGK (spP K CN spec) g (WE (wD K C CN W)) (tDA K C ma) (tDA K C mk) σ H Q := by
  rintro σ H Q ⟨F, sd, Qd, R, h, k⟩
  refine ⟨F, sd, _, R, h, fun vs H1 F1 ds sd1 R1 S1 rs h1 => ⟨F1, sd1, _, R1, h1, fun zs H2 F2 es sd2 R2 S2 rz h2 => ?_⟩⟩
  refine ⟨F2, g ds es, _, _, R2.ext, paired_rpA (og.rel _ (rpA_paired (rs.mono S2.fr)) (rpA_paired rz)), h2, fun v H' F' r P ro q => ?_, fun c a H' F' hc P q => ?_⟩
  · obtain ⟨d, hf, q⟩ := q
    obtain ⟨R3, S3⟩ := R2.post P
    have S12 := S1.trans S2
    obtain ⟨F3, R4, S4, rp⟩ := R3.res (S12.trans S3) ro (fun p hp => ⟨S12.st p hp, fun z => (R2.fresh hp).1 (S3.ow p z), (R2.fresh hp).2⟩) hf
    exact k v H' F3 d sd2 R4 S4 rp q
  · exact ⟨c, a, F', sd2, hc, rfl, rfl, (R2.post P).1, q⟩
theorem pd_callK {CN : String → Option Addr} {spec : PSpec} {W : WD} {ma mk : MA} {x : Str} {p pos : Pos} {e : Expr} {es : List Expr} {kws : List Keyword} {ks : List Str} {k j : Nat} {g : {α : Type} → List α → List α → List α} (c : CalK X.prog X.w X.K X.mg X.base CN k x spec ks g) (hr : RoomG j X.A) (hk : k ≤ j) (tk : Takes X (wD X.K C CN W))
    (ha : PA X (e :: es) (tDA X.K C ma)) (hkw : PK X kws (tDA X.K C mk)) (hg : Gl X x := by rfl) (hall : (backToKw pos (keywordEach kws X.env)).all (·.1.isSome) = true := by rfl) (hks : (backToKw pos (keywordEach kws X.env)).filterMap (·.1) = ks := by rfl)
    (hdb : (x == ("__debug__" : Str)) = false := by decide) (he : starEach (e :: es) X.env = (false, eval e X.env) :: starEach es X.env := by rfl)
    (hpl : ((backTo pos (starEach (e :: es) X.env)).any (·.1) || (backToKw pos (keywordEach kws X.env)).any (·.1.isNone)) = false := by rfl) : PE X (.Call (.Name x p) (e :: es) kws pos) (tD X.K C (mCallK spec W g ma mk)) := by
  obtain ⟨f, fd, ps, F, hm, hkp, hb⟩ := c.ex
  exact pe_imp (pe_callGK F (hr.mono hk) hg hm hkp hb (passAt tk) ha hkw hall hks hdb he hpl) (td_callK c.ord)
theorem pd_callK0 {CN : String → Option Addr} {spec : PSpec} {W : WD} {mk : MA} {x : Str} {p pos : Pos} {kws : List Keyword} {ks : List Str} {k j : Nat} {g : {α : Type} → List α → List α → List α} (c : CalK X.prog X.w X.K X.mg X.base CN k x spec ks g) (hr : RoomG j X.A) (hk : k ≤ j) (tk : Takes X (wD X.K C CN W))
    (hkw : PK X kws (tDA X.K C mk)) (hg : Gl X x := by rfl) (hall : (backToKw pos (keywordEach kws X.env)).all (·.1.isSome) = true := by rfl) (hks : (backToKw pos (keywordEach kws X.env)).filterMap (·.1) = ks := by rfl)
    (hdb : (x == ("__debug__" : Str)) = false := by decide) (hpl : ((backTo pos (starEach [] X.env)).any (·.1) || (backToKw pos (keywordEach kws X.env)).any (·.1.isNone)) = false := by rfl) : PE X (.Call (.Name x p) [] kws pos) (tD X.K C (mCallK spec W g mNil mk)) := by
  obtain ⟨f, fd, ps, F, hm, hkp, hb⟩ := c.ex
  refine pe_imp (pe_callGK0 F (hr.mono hk) hg hm hkp hb (passAt tk) hkw hall hks hdb hpl) fun σ H Q h => ?_
  have h' := td_callK (CN := CN) c.ord σ H Q h
  obtain ⟨F, sd, Qd, R, h1, h2⟩ := h'
  exact h2 [] H F [] sd R .refl .nil h1
/-- a call without arguments -/
theorem pd_call0 {CN : String → Option Addr} {spec : PSpec} {W : WD} {x : Str} {p pos : Pos} {k j : Nat} (c : CalP X.prog X.w X.K X.mg X.base CN k x spec) (hr : RoomG j X.A) (hk : k ≤ j) (tk : Takes X (wD X.K C CN W)) (hg : Gl X x := by rfl)
    (hdb : (x == ("__debug__" : Str)) = false := by decide) : PE X (.Call (.Name x p) [] [] pos) (tD X.K C (mCall spec W mNil)) := by
  obtain ⟨f, fd, ps, F, hm, hkp, hb⟩ := c.ex
  refine pe_imp (pe_callG0 F (hr.mono hk) hg hm hkp hb (passAt tk) hdb) fun σ H Q h => ?_
  obtain ⟨F, sd, Qd, R, h1, h2⟩ := td_call (CN := CN) σ H Q h
  exact h2 [] H F [] sd R .refl .nil h1
end
end DL
namespace DL
open PySem PySem.Spec PyProof.Rows L2
/-- a def's body's context -/
abbrev cxD (P : Program) (w : World) (K : PySem.W.Frag) (mg : Str → Option Value) (base : Heap) (N : List Str) (qual : Str) (sc : Scope) (f : Addr) (cdv : Value) (A : Around) (outer : List Env) (s : Shared) (H : Hp) (E : XK) : Cx :=
  cxOf (L2.CX P w) P w K mg base N qual sc f cdv A outer s H E
theorem sget_va : ∀ {ds : List PyData} {k i : Nat} {s : S}, sget (ds.map S.va ++ List.replicate k .no) i = s → (∃ d, ds[i]? = some d ∧ s = .va d) ∨ s = .no
  | [], k, i, s, h => by
    right
    rw [← h]
    have : ∀ (k i : Nat), sget (List.replicate k S.no) i = .no := by
      intro k
      induction k with
      | zero => intro _; rfl
      | succ k ih => intro i; cases i with
        | zero => rfl
        | succ i => exact ih i
    exact this k i
  | d :: ds, k, 0, s, h => .inl ⟨d, rfl, h.symm⟩
  | d :: ds, k, i + 1, s, h => by
    rcases sget_va (ds := ds) (k := k) (i := i) h with ⟨d', h1, h2⟩ | h
    · exact .inl ⟨d', by simpa using h1, h2⟩
    · exact .inr h
theorem start_gv {N : List Str} {vs : List V} {i : Nat} {v : V} (h : vs[i]? = some v) : gv (L2.start N vs) i = some v := by
  unfold L2.start gv
  have hi := (List.getElem?_eq_some_iff.mp h).1
  rw [List.getElem?_append_left (by simpa using hi), List.getElem?_map, h]
  rfl
section
variable {P : Program} {w : World} {K : PySem.W.Frag} {mg : Str → Option Value} {base : Heap} {CN : String → Option Addr}
theorem rs_start {F H : Hp} {N : List Str} {vs : List V} {ds : List PyData} (e : Same F H) (r : RpA K F vs ds) (hl : ds.length ≤ N.length) : Rs K ⟨F, H, fun _ => False, false⟩ F H (L2.start N vs) (slots0 N.length ds) where
  len := by unfold L2.start slots0; simp [r.length]
  grow := Same.refl _
  ext := e
  new := fun a o h => .inl h
  keep := fun a o h _ => h
  still := fun a h => h
  slot := fun i => by
    rcases sget_va (s := sget (slots0 N.length ds) i) rfl with ⟨d, h1, h2⟩ | h
    · rw [h2]
      obtain ⟨v, e1, rv⟩ := r.get h1
      exact ⟨v, start_gv e1, rv⟩
    · rw [h]; trivial
  sep := fun i j p _ o _ _ => by
    rcases sget_va (s := sget (slots0 N.length ds) i) rfl with ⟨d, h1, h2⟩ | h
    · rw [h2] at o; cases o
    · rw [h] at o; cases o
theorem takes_cxD {N : List Str} {qual : Str} {sc : Scope} {f : Addr} {cdv : Value} {A : Around} {outer : List Env} {s : Shared} {H : Hp} {E : XK} {W : WX} (h : ∀ cls d σ H, W cls d σ H → E cls d H) : Takes (cxD P w K mg base N qual sc f cdv A outer s H E) W :=
  (takes_of (X := cxD P w K mg base N qual sc f cdv A outer s H E) rfl rfl rfl rfl).imp h
/-- a def that is handed data -/
theorem fun_okP {x qual : Str} {st : Stmt} {f : Addr} {fd : FuncData} {N ps : List Str} {k : Nat} {spec : PSpec} {m : WD → MS} (F : Fun K x qual st f fd) (S : FnScope N ps (defScope st)) (hN : ps.length ≤ N.length) (len : ∀ ds Q E, spec ds Q E → ds.length = ps.length)
    (hbody : ∀ (cdv : Value) (A : Around) (outer : List Env) (s : Shared) (H : Hp) (E : XK) (C : Ct) (W : WD), C.isW = false → RoomG k (A.deeper (envOfC qual (defScope st) s.heap.objs.size f cdv)) →
      Takes (cxD P w K mg base N qual (defScope st) f cdv A outer s H E) (wD K C CN W) → PSs (cxD P w K mg base N qual (defScope st) f cdv A outer s H E) (defBody st) (tDS K C (m W)))
    (rd : ∀ ds Q E, spec ds Q E → m (fun c _ => E c) (endP Q) (slots0 N.length ds)) : FnG P w K mg base (k + 1) f fd ps (spP K CN spec) := by
  refine fun_okG F S (fun vs H Q E h => ?_) (fun cdv A outer s H vs Q E hr h => ?_)
  · obtain ⟨F0, ds, Qd, Ed, _, r, hs, _⟩ := h
    rw [r.length]; exact len _ _ _ hs
  · obtain ⟨F0, ds, Qd, Ed, e, r, hs, hq, he⟩ := h
    have R0 := rs_start (N := N) e r (by rw [len _ _ _ hs]; exact hN)
    have post : ∀ {F1 H1 : Hp} {σ : L2.St} {sd : DSt}, Rs K ⟨F0, H, fun _ => False, false⟩ F1 H1 σ sd → Post K F0 H F1 H1 := fun R => ⟨R.grow, R.ext, fun a o z => R.keep a o z (fun q => q), R.new⟩
    refine ⟨_, hbody cdv A outer s H E ⟨F0, H, fun _ => False, false⟩ (fun c _ => Ed c) rfl hr (takes_cxD fun cls d σ H' hw => ?_), F0, _, endP Qd, R0, ⟨fun F1 H1 σ sd _ R q => ?_, fun F1 H1 σ sd v r _ R rv own q => ?_, fun _ _ _ _ _ _ z => z.elim, fun _ _ _ _ _ _ z => z.elim⟩, rd ds Qd Ed hs⟩
    · obtain ⟨c, a, F1, sd, hc, rfl, rfl, R, q⟩ := hw
      exact he c a H' F1 hc (post R) q
    · exact hq .non H1 F1 (.va .none) (post R) .non q
    · refine hq v H1 F1 r (post R) ?_ q
      cases r with
      | no => trivial
      | va d => obtain ⟨v', e1, q⟩ := rv; cases e1; exact q
      | own ds' => obtain ⟨p, vs', e1, h1, h2, h3, h4⟩ := rv; cases e1; exact ⟨p, vs', rfl, h1, h2, h3, h4⟩
      | scr ns => obtain ⟨p, e1, h1⟩ := rv; cases e1; exact ⟨p, rfl, h1⟩
      | exc a => exact Option.some.inj rv
      | ins c es => obtain ⟨p, Cc, dx, fs, e1, h1, h2, h3, oc, h4⟩ := rv; cases e1; exact ⟨p, Cc, dx, fs, rfl, h1, h2, own rfl p rfl, oc, h4⟩
      | well n => obtain ⟨p, a, b, c, e1, h1, h2, h3, h4⟩ := rv; cases e1; exact ⟨p, a, b, c, rfl, h1, h2, own rfl p rfl, h4⟩
theorem rs_startW {F H : Hp} {N : List Str} {p : Addr} {vs : List V} {ds : List PyData} {n : Nat} {a b c : Int} (e : Same F H) (hF : F p = none) (hp : H p = some (.lst [.int a, .int b, .int c])) (hw : WellOk n a b c) (r : RpA K F vs ds) (hl : ds.length + 1 ≤ N.length) :
    Rs K ⟨F, H, fun q => q = p, true⟩ F H (L2.start N (.ref p :: vs)) (slotsW N.length n ds) where
  len := by unfold L2.start slotsW slots0; simp [r.length]; omega
  grow := Same.refl _
  ext := e
  new := fun a o h => .inl h
  keep := fun a o h _ => h
  still := fun a h => h
  slot := fun i => by
    cases i with
    | zero => exact ⟨p, a, b, c, rfl, hp, hF, .inl ⟨rfl, rfl⟩, hw⟩
    | succ i =>
      show SlotOk K _ F H _ (sget (slots0 (N.length - 1) ds) i)
      rcases sget_va (s := sget (slots0 (N.length - 1) ds) i) rfl with ⟨d, h1, h2⟩ | h
      · rw [h2]
        obtain ⟨v, e1, rv⟩ := r.get h1
        exact ⟨v, start_gv (i := i + 1) (by simpa using e1), rv⟩
      · rw [h]; trivial
  sep := fun i j q hij o1 o2 => by
    have z : ∀ k, isOwn (sget (slotsW N.length n ds) k) = true → k = 0 := fun k o => by
      cases k with
      | zero => rfl
      | succ k =>
        have o : isOwn (sget (slots0 (N.length - 1) ds) k) = true := o
        rcases sget_va (s := sget (slots0 (N.length - 1) ds) k) rfl with ⟨d, h1, h2⟩ | h
        · rw [h2] at o; cases o
        · rw [h] at o; cases o
    exact absurd ((z i o1).trans (z j o2).symm) hij
theorem fun_okW {x qual : Str} {st : Stmt} {f : Addr} {fd : FuncData} {N ps : List Str} {k : Nat} {spec : WSpec} {m : MS} (F : Fun K x qual st f fd) (S : FnScope N ps (defScope st)) (hN : ps.length ≤ N.length) (len : ∀ n ds Q, spec n ds Q → ds.length + 1 = ps.length)
    (hbody : ∀ (cdv : Value) (A : Around) (outer : List Env) (s : Shared) (H : Hp) (E : XK) (C : Ct), RoomG k (A.deeper (envOfC qual (defScope st) s.heap.objs.size f cdv)) →
      Takes (cxD P w K mg base N qual (defScope st) f cdv A outer s H E) (wD K C CN fun _ _ => False) → PSs (cxD P w K mg base N qual (defScope st) f cdv A outer s H E) (defBody st) (tDS K C m))
    (rd : ∀ n ds Q, spec n ds Q → m (endW Q) (slotsW N.length n ds)) : FnG P w K mg base (k + 1) f fd ps (spW K spec) := by
  refine fun_okG F S (fun vs H Q E h => ?_) (fun cdv A outer s H vs Q E hr h => ?_)
  · obtain ⟨F0, p, ws, n, a, b, c, ds, Qd, rfl, _, _, _, _, r, hs, _⟩ := h
    have := len _ _ _ hs
    have := r.length
    simp; omega
  · obtain ⟨F0, p, ws, n, a, b, c, ds, Qd, rfl, e, hF, hp, hw, r, hs, hq⟩ := h
    have R0 := rs_startW (N := N) e hF hp hw r (by rw [len _ _ _ hs]; exact hN)
    have post : ∀ {F1 H1 : Hp} {σ : L2.St} {sd : DSt} {n' : Nat}, Rs K ⟨F0, H, fun q => q = p, true⟩ F1 H1 σ sd → sget sd 0 = .well n' → PostW K p F0 H F1 H1 n' := fun {F1 H1 σ sd n'} R h0 => by
      have hs0 := R.slot 0
      rw [h0] at hs0
      obtain ⟨p', a', b', c', _, z2, _, z4, z5⟩ := hs0
      refine ⟨R.grow, R.ext, fun a o za z => R.keep a o z za, R.new, ?_⟩
      rcases z4 with z4 | z4
      · have : p' = p := z4.2
        subst this
        exact ⟨a', b', c', z2, z5⟩
      · cases z4.1
    refine ⟨_, hbody cdv A outer s H E ⟨F0, H, fun q => q = p, true⟩ hr (takes_cxD fun cls d σ H' hw => ?_), F0, _, endW Qd, R0, ⟨fun F1 H1 σ sd _ R q => ?_, fun F1 H1 σ sd v r _ R rv own q => ?_, fun _ _ _ _ _ _ z => z.elim, fun _ _ _ _ _ _ z => z.elim⟩, rd n ds Qd hs⟩
    · obtain ⟨c, a, F1, sd, hc, _, _, R, q⟩ := hw
      exact q.elim
    · obtain ⟨n', h0, q⟩ := q
      exact hq .non H1 F1 (.va .none) n' (post R h0) .non q
    · obtain ⟨n', h0, q⟩ := q
      refine hq v H1 F1 r n' (post R h0) ?_ q
      cases r with
      | no => trivial
      | va d => obtain ⟨v', e1, q⟩ := rv; cases e1; exact q
      | own ds' => obtain ⟨p, vs', e1, h1, h2, h3, h4⟩ := rv; cases e1; exact ⟨p, vs', rfl, h1, h2, h3, h4⟩
      | scr ns => obtain ⟨p, e1, h1⟩ := rv; cases e1; exact ⟨p, rfl, h1⟩
      | exc a => exact Option.some.inj rv
      | ins c es => obtain ⟨p, Cc, dx, fs, e1, h1, h2, h3, oc, h4⟩ := rv; cases e1; exact ⟨p, Cc, dx, fs, rfl, h1, h2, own rfl p rfl, oc, h4⟩
      | well n => obtain ⟨p, a, b, c, e1, h1, h2, h3, h4⟩ := rv; cases e1; exact ⟨p, a, b, c, rfl, h1, h2, own rfl p rfl, h4⟩
end
section
variable {K : PySem.W.Frag} {X : Cx} {C : Ct}
theorem pmk_own0 {c : Addr} {bmB : List Value} {B newId initId : String} {x : Str} {p pos : Pos} (F : ExcBaseFacts B newId initId bmB) (q : PySem.W.excIn X.K c bmB newId = true) (gC : X.mg x = some (.ref c)) (kC : PySem.W.keepIn X.K (.ref c) = true) (r : Raises X (.ref c)) (hg : Gl X x)
    (hdb : (x == ("__debug__" : Str)) = false := by decide) : PMk X (.Call (.Name x p) [] [] pos) (fun _ H Q => Q (.ref c) none H) := by
  intro pins s σ H Q I h
  refine wpAny_Call_Name_kw (ld_glob I hg gC (PySem.W.callWith_K0 I.kIn kC ?_) hdb)
  obtain ⟨bm, N, nm, qn, bs, hdct, sn, sub, ab, col, dd, k0, k1, k2, k3, k5, mN, hC, hN, hni, T⟩ := exc_obj I.kIn q
  obtain ⟨hp, g, d, t, os⟩ := s
  exact wpAny_call_exc_subT F T hC hN hni (fun h' e hm => mk_of I hm r h (I.hok.gone hm.new)) (Nat.zero_le _)
/-- what the written part says of an own error class over ValueError -/
structure ExcCls (K : PySem.W.Frag) (mg : Str → Option Value) (x : Str) (c : Addr) : Prop where
  gC : mg x = some (.ref c)
  q : PySem.W.excIn K c [.type "ValueError", .type "Exception", .type "BaseException", .type "object"] "ValueError.__new__" = true
  kC : PySem.W.keepIn K (.ref c) = true
  b : PySem.W.subIn K (.ref c) (.type "BaseException") = some true
  t : PySem.W.typeIn K (.ref c) = some (.type "type")
theorem pds_raise {CN : String → Option Addr} {W : WD} {cn : String} {x : Str} {c : Addr} {p pos pos2 : Pos} (hc : X.calm = true) (tk : Takes X (wD X.K C CN W)) (T : ExcCls X.K X.mg x c) (hn : CN cn = some c) (hg : Gl X x := by rfl) (hdb : (x == ("__debug__" : Str)) = false := by decide) :
    PS X (.Raise (some (.Call (.Name x p) [] [] pos)) none pos2) (tDS X.K C (mRaise cn W)) := ps_imp (ps_raise hc tk (pmk_own0 PySem.F.excBase_ValueError T.q T.gC T.kC (raises_own T.b T.t) hg hdb)) (by
  rintro D σ H ⟨F, sd, Dd, R, E, h⟩
  exact ⟨cn, c, F, sd, hn, rfl, rfl, R, h⟩)
end
end DL
namespace DL
open PySem PySem.Spec PyProof.Rows L2
/-- a text and a flat thing -/
def kvFlat (kv : PyData × PyData) : Bool := (match kv.1 with | .str _ => true | _ => false) && flatD kv.2
mutual
/-- every dict in it is empty -/
def dE : PyData → Bool
  | .none | .bool _ | .int _ | .str _ => true
  | .list xs => dEs xs
  | .tuple xs => dEs xs
  | .dict kvs => kvs.all kvFlat
def dEs : List PyData → Bool
  | [] => true
  | x :: xs => dE x && dEs xs
end
mutual
def noL : PyData → Bool
  | .none | .bool _ | .int _ | .str _ => true
  | .list _ => false
  | .tuple xs => noLs xs
  | .dict kvs => kvs.all kvFlat
def noLs : List PyData → Bool
  | [] => true
  | x :: xs => noL x && noLs xs
end
def reprOk (d : PyData) : Bool := dE d && (!d.hasDict || noL d) && d.showable && decide (d.shown.length ≤ 1000000) && decide (d.depth ≤ 64)
def bRepr : List PyData → Option PyData
  | [d] => if reprOk d = true then some (.str d.shown) else none
  | _ => none
section
variable {X : Cx} {pins : List (Addr × Obj)} {σ : L2.St} {H : Hp} {s : Shared} {K : PySem.W.Frag}
theorem flat_reads {F : Hp} {h : Heap} {d : PyData} {v : V} {u : Value} (hf : flatD d = true) (r : Rp K F v d) (rv : RelV v u) : Reads h u d [] := by
  cases r with
  | non => cases rv; exact .none
  | bl b => cases rv; exact .bool b
  | int i => obtain ⟨t, rfl⟩ := rv; exact .int i t
  | str x => obtain ⟨t, rfl⟩ := rv; exact .str x t
  | lst _ _ => cases hf
  | tup _ _ => cases hf
  | dct _ _ => cases hf
  | ins _ _ _ => cases hf
theorem key_str {P : Program} {w : World} {x : Str} {v : Value} (h : (mixKind P w).is (Sum.inr x) v = true) : ∃ t, v = .str x t := by
  have h : Value.isStrOf x v = true := h
  unfold Value.isStrOf at h
  split at h
  · simp at h
    rw [h]
    exact ⟨_, rfl⟩
  · cases h
theorem dict_reads {P : Program} {w : World} {F : Hp} {h : Heap} : ∀ {kvs : List (Key × V)} {es : List (PyData × PyData)} {vs : List (Key × Value)} {l : List DictEntry}, RpD K F kvs es → es.all kvFlat = true → KV kvs vs → Pairs (mixKind P w) l vs → ReadsAll h (l.map fun x => x.key) (es.map fun x => x.1) [] ∧ ReadsAll h (l.map fun x => x.val) (es.map fun x => x.2) [] := by
  intro kvs
  induction kvs with
  | nil =>
    intro es vs l rd _ kv pr
    cases rd
    cases kv
    cases pr
    exact ⟨.nil, .nil⟩
  | cons p kvs ih =>
    intro es vs l rd ha kv pr
    obtain ⟨k, v⟩ := p
    cases rd with
    | cons rd r =>
    cases kv with
    | cons h1 h2 =>
      cases pr with
      | cons p1 p2 p3 =>
        rw [List.all_cons, Bool.and_eq_true] at ha
        obtain ⟨a1, a2⟩ := ih r ha.2 h2 p3
        have hk := ha.1
        unfold kvFlat at hk
        rw [Bool.and_eq_true] at hk
        cases k with
        | inl i => exact absurd hk.1 (by simp [keyD])
        | inr x =>
          rw [← h1.1] at p1
          obtain ⟨t, e⟩ := key_str p1
          refine ⟨?_, ?_⟩
          · rw [List.map_cons, List.map_cons, e]
            exact .cons (.str x t) a1
          · rw [List.map_cons, List.map_cons, p2]
            exact .cons (flat_reads hk.2 rd h1.2) a2
mutual
theorem Rp.reads (I : Inv X pins σ H s) {F : Hp} (e : Same F H) : ∀ (d : PyData) (v : V) (u : Value), Rp X.K F v d → RelV v u → dE d = true → ∃ as, Reads s.heap u d as ∧ (noL d = true → sysModules ∉ as)
  | .none, _, _, h, r, _ => by cases h; cases r; exact ⟨_, .none, fun _ z => nomatch z⟩
  | .bool b, _, _, h, r, _ => by cases h; cases r; exact ⟨_, .bool b, fun _ z => nomatch z⟩
  | .int i, _, _, h, r, _ => by cases h; obtain ⟨t, rfl⟩ := r; exact ⟨_, .int i t, fun _ z => nomatch z⟩
  | .str x, _, _, h, r, _ => by cases h; obtain ⟨t, rfl⟩ := r; exact ⟨_, .str x t, fun _ z => nomatch z⟩
  | .list ds, _, _, h, r, hd => by
    cases h with
    | lst hs ha =>
      cases r
      obtain ⟨z, its, n, rv, e1⟩ := I.hok _ _ (e _ _ hs)
      obtain ⟨as, hr, _⟩ := RpA.reads I e ds _ its ha rv (by simpa [dE] using hd)
      exact ⟨_, .list e1 rfl rfl hr, fun z => by simp [noL] at z⟩
  | .tuple ds, _, _, h, r, hd => by
    cases h with
    | tup hs ha =>
      cases r
      obtain ⟨its, rv, ⟨o, ho, hc, n, hdt⟩, _⟩ := I.tuple (same_t e hs)
      obtain ⟨as, hr, hn⟩ := RpA.reads I e ds _ its ha rv (by simpa [dE] using hd)
      exact ⟨_, .tuple ho hc hdt hr, fun z => hn (by simpa [noL] using z)⟩
  | .dict es, _, _, h, r, hd => by
    cases h with
    | dct hs ha =>
      cases r
      have he : es.all kvFlat = true := by simpa only [dE] using hd
      obtain ⟨z, y, vs, rv, o, es', ep, h1, h2, h3, h4, h5, h6⟩ := I.hok _ _ (e _ _ hs)
      obtain ⟨a1, a2⟩ := dict_reads (h := s.heap) ha he rv h5
      exact ⟨_, .dict h1 h2.1 h3 a1 a2, fun _ hm => by
        simp at hm
        rw [hm] at y
        simp at y⟩
    | ins _ _ _ => cases hd
theorem RpA.reads (I : Inv X pins σ H s) {F : Hp} (e : Same F H) : ∀ (ds : List PyData) (vs : List V) (us : List Value), RpA X.K F vs ds → Vals vs us → dEs ds = true → ∃ as, ReadsAll s.heap us ds as ∧ (noLs ds = true → sysModules ∉ as)
  | [], _, _, h, r, _ => by cases h; cases r; exact ⟨_, .nil, fun _ z => nomatch z⟩
  | d :: ds, _, _, h, r, hd => by
    have hd' : dE d = true ∧ dEs ds = true := by simpa [dEs] using hd
    cases h with
    | cons h1 h2 =>
      cases r with
      | cons r1 r2 =>
        obtain ⟨as, q1, n1⟩ := Rp.reads I e d _ _ h1 r1 hd'.1
        obtain ⟨bs, q2, n2⟩ := RpA.reads I e ds _ _ h2 r2 hd'.2
        refine ⟨_, .cons q1 q2, fun z hm => ?_⟩
        have z' : noL d = true ∧ noLs ds = true := by simpa [noLs] using z
        rcases List.mem_append.mp hm with hm | hm
        · exact n1 z'.1 hm
        · exact n2 z'.2 hm
end
def rRepr (K : PySem.W.Frag) : List V → Hp → VK → Prop := fun xs H Q => ∃ x d F, xs = [x] ∧ Same F H ∧ Rp K F x d ∧ reprOk d = true ∧ Q (.str d.shown) H
theorem cr_repr {k : Nat} (hr : RoomG k X.A) : CallR X (.builtin "repr") (rRepr X.K) := by
  intro pins s σ H xs us Q I r h
  obtain ⟨x, d, F, rfl, e, rp, ok, q⟩ := h
  obtain ⟨u, rfl, ru⟩ := vals1 r
  unfold reprOk at ok
  simp only [Bool.and_eq_true, Bool.or_eq_true, Bool.not_eq_true', decide_eq_true_eq] at ok
  obtain ⟨⟨⟨⟨o1, o2⟩, o3⟩, o4⟩, o5⟩ := ok
  have hl : d.shown.length ≤ sizeLine := Nat.le_trans o4 (by decide)
  have hun := hr.r.un
  obtain ⟨as, rd, na⟩ := Rp.reads I e d x u rp ru o1
  have hd : d.hasDict = true → sysModules ∉ as := fun z => o2.elim (fun w => by rw [w] at z; cases z) na
  have big : ∀ {a : Addr}, u = .ref a → wpAny (model X.prog X.w) X.A (call (.builtin "repr") [u]) (EP X pins σ Q) X.xe s := fun {a} eu => by
    subst eu
    exact repr_of_reads' rd o3 hd hr.g (by omega) (fun _ _ z => z) (fun h' u' tk hk => ⟨.str _, H, I.kept (t' := tk) hk, ⟨_, rfl⟩, q⟩) hl
  cases rp with
  | non => cases ru; exact PySem.P.repr_of_none ⟨.str _, H, I.tok _, ⟨_, rfl⟩, q⟩
  | bl b => cases ru; exact PySem.P.repr_of_bool ⟨.str _, H, I.tok _, ⟨_, rfl⟩, by cases b <;> exact q⟩
  | int i => obtain ⟨t, rfl⟩ := ru; exact PySem.P.repr_of_int (by simpa [PyData.showable] using o3) ⟨.str _, H, I.tok _, ⟨_, rfl⟩, q⟩
  | str z => obtain ⟨t, rfl⟩ := ru; exact PySem.P.repr_of_str ⟨.str _, H, I.tok _, ⟨_, rfl⟩, q⟩ (by simpa only [PyData.shown] using hl)
  | lst _ _ => exact big ru
  | tup _ _ => exact big ru
  | dct _ _ => exact big ru
  | ins _ _ _ => exact big ru
theorem rc_repr {K : PySem.W.Frag} : RLC K (rRepr K) bRepr := by
  intro F H xs as z Q e _ rx h k
  unfold bRepr at h
  split at h
  · obtain ⟨x, rfl, r⟩ := rpA1 rx
    split at h
    · rename_i ok
      cases h
      exact ⟨x, _, F, rfl, e, r, ok, k _ F H .id (.str _)⟩
    · cases h
  · cases h
theorem pd_dict0 {C : Ct} {pos : Pos} : PE X (.Dict [] [] pos) (tD X.K C mDict0) := pe_imp pe_dnewK (by
  rintro σ H Q ⟨F, sd, Qd, R, h, k⟩ p hp
  exact k (.ref p) _ _ _ sd (R.al (.new hp)) (.al R (.new hp)) (.dct upd_same .nil) h)
end
end DL
namespace DL
open PySem PySem.Spec PyProof.Rows L2
section
variable {K : PySem.W.Frag} {X : Cx} {C : Ct}
structure RsA (K : PySem.W.Frag) (C : Ct) (F H H0 : Hp) (σ : L2.St) (sd : DSt) (vs : List V) (rs : List S) : Prop where
  len : vs.length = rs.length
  ok : ∀ (i : Nat) (v : V) (r : S), vs[i]? = some v → rs[i]? = some r → RvOk K C F H v r ∧ Fre σ sd v r ∧ (isOwn r = true → ∀ q, v = .ref q → H0 q = none)
  ne : ∀ (i j : Nat) (v w : V) (r u : S), i < j → vs[i]? = some v → vs[j]? = some w → rs[i]? = some r → rs[j]? = some u → isOwn r = true → isOwn u = true → v ≠ w
def tDAR (K : PySem.W.Frag) (C : Ct) (ms : List MR) : TA := fun σ H Q => ∃ F sd Qd, Rs K C F H σ sd ∧ mrs ms sd Qd ∧ ∀ vs H' F' rs sd', Rs K C F' H' σ sd' → Stp σ sd F H F' H' sd' → RsA K C F' H' H σ sd' vs rs → Qd rs sd' → Q vs H'
theorem pdar_nil : PA X [] (tDAR X.K C []) := pa_imp pa_nil (by
  rintro σ H Q ⟨F, sd, Qd, R, h, k⟩
  exact k [] H F [] sd R .refl ⟨rfl, fun i v r h => by simp at h, fun i j v w r u _ h => by simp at h⟩ h)
theorem rv_step {F H F' H' : Hp} {σ : L2.St} {sd sd' : DSt} {v : V} {r : S} (h : RvOk K C F H v r) (fre : Fre σ sd v r) (S : Stp σ sd F H F' H' sd') : RvOk K C F' H' v r ∧ Fre σ sd' v r := by
  refine ⟨SlotOk.grow S.fr (fun q o ho e eh en => ?_) h, fun o q e z => fre o q e (S.ow q z)⟩
  cases e
  have nq := fre ho q rfl
  refine ⟨S.kp q o eh nq, ?_⟩
  cases z : F' q with
  | none => rfl
  | some y =>
    rcases S.nw q y z with z | z | z
    · rw [en] at z; cases z
    · rw [eh] at z; cases z
    · exact (nq z).elim
theorem pdar_cons {e : Expr} {es : List Expr} {m : MR} {ms : List MR} (he : PE X e (tDR X.K C m)) (hr : PA X es (tDAR X.K C ms)) (hs : starEach (e :: es) X.env = (false, eval e X.env) :: starEach es X.env := by rfl) : PA X (e :: es) (tDAR X.K C (m :: ms)) :=
  pa_imp (pa_cons he hr hs) (by
  rintro σ H Q ⟨F, sd, Qd, R, h, k⟩
  refine ⟨F, sd, _, R, h, fun v H1 F1 r sd1 R1 S1 rv fre new h1 => ⟨F1, sd1, _, R1, h1, fun ws H2 F2 us sd2 R2 S2 A h2 => ?_⟩⟩
  obtain ⟨rv2, fre2⟩ := rv_step rv fre S2
  refine k (v :: ws) H2 F2 (r :: us) sd2 R2 (S1.trans S2) ⟨by simp [A.len], fun i v' r' e1 e2 => ?_, fun i j v' w' r' u' hij e1 e2 e3 e4 o1 o2 => ?_⟩ h2
  · cases i with
    | zero => cases e1; cases e2; exact ⟨rv2, fre2, new⟩
    | succ i =>
      obtain ⟨a, b, c⟩ := A.ok i v' r' (by simpa using e1) (by simpa using e2)
      exact ⟨a, b, fun o q e => S1.st q (c o q e)⟩
  · cases j with
    | zero => omega
    | succ j =>
      cases i with
      | succ i => exact A.ne i j v' w' r' u' (by omega) (by simpa using e1) (by simpa using e2) (by simpa using e3) (by simpa using e4) o1 o2
      | zero =>
        cases e1; cases e3
        intro z
        subst z
        obtain ⟨a, b, c⟩ := A.ok j _ u' (by simpa using e2) (by simpa using e4)
        -- what is owned in u' is new behind the first
        have hv : ∃ q o, v = .ref q ∧ H1 q = some o := by
          cases r with
          | no => cases o1
          | va d => cases o1
          | scr d => cases o1
          | exc d => cases o1
          | ins c fs => obtain ⟨q, _, _, _, e, h1, _⟩ := rv; cases e; exact ⟨q, _, rfl, h1⟩
          | own ds => obtain ⟨q, vs, e, h1, _⟩ := rv; cases e; exact ⟨q, _, rfl, h1⟩
          | well n => obtain ⟨q, x, y, z, e, h1, _⟩ := rv; cases e; exact ⟨q, _, rfl, h1⟩
        obtain ⟨q, o, e, hq⟩ := hv
        have := c o2 q e
        rw [hq] at this; cases this)
theorem rsA_tail {F H H0 : Hp} {σ : L2.St} {sd : DSt} {v : V} {r : S} {vs : List V} {rs : List S} {i : Nat} (A : RsA K C F H H0 σ sd (v :: vs) (r :: rs)) : RsA K C F H H0 (σ.set i (some v)) (sset sd i r) vs rs := by
  refine ⟨by simpa using A.len, fun j w u e1 e2 => ?_, fun a b v' w' r' u' hab e1 e2 e3 e4 o1 o2 => A.ne (a + 1) (b + 1) v' w' r' u' (by omega) (by simpa using e1) (by simpa using e2) (by simpa using e3) (by simpa using e4) o1 o2⟩
  obtain ⟨x1, x2, x3⟩ := A.ok (j + 1) w u (by simpa using e1) (by simpa using e2)
  refine ⟨x1, fun o q e z => ?_, x3⟩
  obtain ⟨k, ok, ek⟩ := z
  by_cases hk : k = i
  · subst hk
    have own_r : isOwn r = true ∧ v = .ref q := by
      by_cases hl : k < sd.length
      · rw [sget_sset hl] at ok
        refine ⟨ok, ?_⟩
        by_cases hσ : k < σ.length
        · rw [gv_set hσ] at ek; exact Option.some.inj ek
        · have : gv (σ.set k (some v)) k = none := by
            unfold gv
            rw [List.getElem?_eq_none (by rw [List.length_set]; omega)]
            rfl
          rw [this] at ek; cases ek
      · rw [sget_out (by rw [sset_length]; omega)] at ok; cases ok
    exact A.ne 0 (j + 1) v w r u (by omega) rfl (by simpa using e1) rfl (by simpa using e2) own_r.1 o (own_r.2.trans e.symm)
  · rw [sget_sset_ne hk] at ok
    rw [gv_set_ne hk] at ek
    exact x2 o q e ⟨k, ok, ek⟩
theorem rsA_sets {F H H0 : Hp} : ∀ {is : List Nat} {vs : List V} {rs : List S} {σ : L2.St} {sd : DSt}, Rs K C F H σ sd → RsA K C F H H0 σ sd vs rs → Rs K C F H ((is.zip vs).foldl (fun σ p => σ.set p.1 (some p.2)) σ) (ssets sd is rs)
  | [], _, _, _, _, R, _ => by simpa [ssets] using R
  | i :: is, [], rs, σ, sd, R, A => by
    have : rs = [] := by
      have := A.len
      cases rs with
      | nil => rfl
      | cons a l => simp at this
    subst this
    simpa [ssets] using R
  | i :: is, v :: vs, [], σ, sd, R, A => by have := A.len; simp at this
  | i :: is, v :: vs, r :: rs, σ, sd, R, A => by
    obtain ⟨x1, x2, _⟩ := A.ok 0 v r rfl rfl
    exact rsA_sets (σ := σ.set i (some v)) (sd := sset sd i r) (R.setr x1 x2) (rsA_tail A)
def tPar2 (i j : Nat) (ta : TA) : TS := fun D σ H => ta σ H fun vs H1 => ∃ u v, vs = [u, v] ∧ D.nx ((σ.set i (some u)).set j (some v)) H1
theorem ps_par2 {i j : Nat} {x y : Str} {a b : Expr} {ta : TA} {px py pt pos : Pos} {kt k2 pt2} (hc : X.calm = true) (hN : X.N.Nodup) (hi : X.N[i]? = some x) (hj : X.N[j]? = some y) (hij : i ≠ j)
    (hx : X.env.scope.names.lookup x = some .local) (hy : X.env.scope.names.lookup y = some .local) (ha : PA X [a, b] ta)
    (hw : swappedStores [.Tuple [.Name x px, .Name y py] kt pt] (.Tuple [a, b] k2 pt2) X.env = pure (some [x, y])) (hs : swapsWithSole [.Tuple [.Name x px, .Name y py] kt pt] (.Tuple [a, b] k2 pt2) pos.line X.env = pure false := by rfl) :
    PS X (.Assign [.Tuple [.Name x px, .Name y py] kt pt] (.Tuple [a, b] k2 pt2) pos) (tPar2 i j ta) := by
  refine ⟨fun pins s σ H D I h => ?_⟩
  rw [exec_Assign_arm]
  refine wpAny_bind (wpAny_standAt ?_)
  rw [hs]
  refine wpAny_bind (wpAny_pure ?_)
  rw [if_neg (by decide)]
  refine wpAny_bind (Tuple_ (thn (ha.run _ pins s σ H _ I h) fun us s1 hh => ?_))
  obtain ⟨vs, H1, I1, r1, v1, v2, rfl, q1⟩ := hh
  obtain ⟨u1, u2, rfl, ra, rb⟩ := vals2 r1
  refine wpAny_newObj_type ?_ (by show 2 ≤ sizeLine; decide)
  have I2 : Inv X pins σ H1 { s1 with heap := s1.heap.push { cls := .type "tuple", data := .seq [u1, u2].toArray }, toks := s1.toks } := I1.kept fun _ _ e => Heap.get?_push_of_some _ e
  rw [hw]
  refine wpAny_bind (wpAny_pure ?_)
  show wpAny (model X.prog X.w) X.A (do rule "assign.swapped-stores"; let got ← unpackItems (.ref s1.heap.objs.size) 2 none; assignInOrder [fun v => bindName X.env y v, fun v => bindName X.env x v] got.reverse; pure Flow.next) _ _ _
  refine wpAny_bind (wpAny_rule (wpAny_bind (unpackItems_tuple (items := #[u1, u2]) (I.ok.hd hc) (IsTup.new s1.heap _) fun h' hx' => ?_)))
  have I3 := I2.kept (h' := h') (t' := s1.toks) fun b o e => hx' b o (Nat.ne_of_lt (Heap.lt_size e)) e
  show wpAny _ _ (assignInOrder [fun v => bindName X.env y v, fun v => bindName X.env x v] [u2, u1] >>= fun _ => pure Flow.next) _ _ _
  refine wpAny_bind (assignInOrder_cons (wpAny_bindName (store_ok I3 hN hj (.inl hy) rb (fun s2 I4 => assignInOrder_cons (wpAny_bindName (store_ok I4 hN hi (.inl hx) ra (fun s3 I5 => assignInOrder_nil (wpAny_pure ?_)) (.inr hx)))) (.inr hy))))
  rw [List.set_comm _ _ (Ne.symm hij)] at I5
  exact ⟨_, H1, I5, q1⟩
theorem pds_par2 {tg e : Expr} {pos : Pos} {i j : Nat} {m1 m2 : MR} (t : PS X (.Assign [tg] e pos) (tPar2 i j (tDAR X.K C [m1, m2]))) : PS X (.Assign [tg] e pos) (tDS X.K C (mAsgM [i, j] [m1, m2])) := ps_imp t (by
  rintro D σ H ⟨F, sd, Dd, R, E, h⟩
  refine ⟨F, sd, _, R, h, fun vs H1 F1 rs sd1 R1 S1 A q => ?_⟩
  obtain ⟨ql, q⟩ := q
  have hl := A.len
  obtain ⟨r1, r2, rfl⟩ : ∃ r1 r2, rs = [r1, r2] := by
    match rs, ql with
    | [r1, r2], _ => exact ⟨r1, r2, rfl⟩
  obtain ⟨u, v, rfl⟩ : ∃ u v, vs = [u, v] := by
    match vs, hl with
    | [u, v], _ => exact ⟨u, v, rfl⟩
  exact ⟨u, v, rfl, E.nx F1 H1 _ _ S1.fr (rsA_sets (is := [i, j]) R1 A) q⟩)
theorem pds_par3 {tg e : Expr} {pos : Pos} {i j l : Nat} {m1 m2 m3 : MR} (t : PS X (.Assign [tg] e pos) (tPar3 i j l (tDAR X.K C [m1, m2, m3]))) : PS X (.Assign [tg] e pos) (tDS X.K C (mAsgM [i, j, l] [m1, m2, m3])) := ps_imp t (by
  rintro D σ H ⟨F, sd, Dd, R, E, h⟩
  refine ⟨F, sd, _, R, h, fun vs H1 F1 rs sd1 R1 S1 A q => ?_⟩
  obtain ⟨ql, q⟩ := q
  have hl := A.len
  obtain ⟨r1, r2, r3, rfl⟩ : ∃ r1 r2 r3, rs = [r1, r2, r3] := by
    match rs, ql with
    | [r1, r2, r3], _ => exact ⟨r1, r2, r3, rfl⟩
  obtain ⟨u, v, w, rfl⟩ : ∃ u v w, vs = [u, v, w] := by
    match vs, hl with
    | [u, v, w], _ => exact ⟨u, v, w, rfl⟩
  exact ⟨u, v, w, rfl, E.nx F1 H1 _ _ S1.fr (rsA_sets (is := [i, j, l]) R1 A) q⟩)
theorem pdt_chain {op op'} {r r' : R2} {f g : PyData → PyData → Option PyData} {a b c : Expr} {ma mb mc : ME} {pos : Pos} (L : RL2 X.K r f) (L' : RL2 X.K r' g)
    (t : PT X (.Compare a [op, op'] [b, c] pos) (tTest (tChain r r' (tD X.K C ma) (tD X.K C mb) (tD X.K C mc)))) : PT X (.Compare a [op, op'] [b, c] pos) (tDT X.K C (mT (mChain f g ma mb mc))) := pt_imp t (by
  refine td_test (te := tChain r r' (tD X.K C ma) (tD X.K C mb) (tD X.K C mc)) ?_
  rintro σ H Q ⟨F, sd, Qd, R, h, k⟩
  refine ⟨F, sd, _, R, h, fun x H1 F1 a sd1 R1 S1 rx h1 => ⟨F1, sd1, _, R1, h1, fun y H2 F2 b sd2 R2 S2 ry h2 => ?_⟩⟩
  obtain ⟨cc, e, q⟩ := h2
  refine L F2 H2 x y a b (.bool cc) _ R2.ext (fun p => R2.free) (rx.mono S2.fr) ry e fun v F' H' al rz => ?_
  cases rz
  refine ⟨cc, rfl, ?_⟩
  have S' := (S1.trans S2).trans (.al R2 al)
  cases cc with
  | true =>
    refine ⟨F', sd2, _, R2.al al, q, fun w H3 F3 d sd3 R3 S3 rw_ h3 => ?_⟩
    obtain ⟨z2, e2, q2⟩ := h3
    exact L' F3 H3 y w b d z2 _ R3.ext (fun p => R3.free) (ry.mono ((Stp.al R2 al).fr.trans S3.fr)) rw_ e2 fun v F4 H4 al2 rz2 => k v H4 F4 z2 sd3 (R3.al al2) ((S'.trans S3).trans (.al R3 al2)) rz2 q2
  | false => exact k (.bl false) H' F' _ sd2 (R2.al al) S' (.bl false) q)
theorem pd_lenScr {i : Nat} {x y : Str} {p p2 pos : Pos} (hm : X.mg "len" = none) (hN : X.N[i]? = some y) (hv : Vis X.env.scope y) (hd : (y == ("__debug__" : Str)) = false := by decide) (hcd : (y == ("__classdict__" : Str)) = false := by decide) (hg : Gl X "len" := by rfl)
    (he : starEach (.Name y p2 :: []) X.env = (false, eval (.Name y p2) X.env) :: starEach [] X.env := by rfl) (hpl : (backTo pos (starEach [] X.env)).any (·.1) = false := by rfl) :
    PE X (.Call (.Name "len" p) [.Name y p2] [] pos) (tD X.K C (mLenScr i)) := pe_imp (pe_callB call_len_seq hg hm (by decide +kernel) (pa_cons (pe_var hN hv hd hcd) pa_nil he) (by decide) (by decide) he hpl) (by
  rintro σ H Q ⟨F, sd, Qd, R, ⟨ns, hs, h⟩, k⟩
  have hi := R.slot i
  rw [hs] at hi
  obtain ⟨p, e1, e2⟩ := hi
  refine ⟨.ref p, gv_some.mp e1, p, _, rfl, .inl (R.ext.seq e2), ?_⟩
  rw [List.length_map]
  exact k _ H F _ sd R .refl (.int _) h)
theorem pd_lenOwn {i : Nat} {y : Str} {p p2 pos : Pos} (hm : X.mg "len" = none) (hN : X.N[i]? = some y) (hv : Vis X.env.scope y) (hd : (y == ("__debug__" : Str)) = false := by decide) (hcd : (y == ("__classdict__" : Str)) = false := by decide) (hg : Gl X "len" := by rfl)
    (he : starEach (.Name y p2 :: []) X.env = (false, eval (.Name y p2) X.env) :: starEach [] X.env := by rfl) (hpl : (backTo pos (starEach [] X.env)).any (·.1) = false := by rfl) :
    PE X (.Call (.Name "len" p) [.Name y p2] [] pos) (tD X.K C (mLenOwn i)) := pe_imp (pe_callB call_len_seq hg hm (by decide +kernel) (pa_cons (pe_var hN hv hd hcd) pa_nil he) (by decide) (by decide) he hpl) (by
  rintro σ H Q ⟨F, sd, Qd, R, ⟨ds, hs, h⟩, k⟩
  have hi := R.slot i
  rw [hs] at hi
  obtain ⟨p, vs, e1, e2, e3, e4, r⟩ := hi
  refine ⟨.ref p, gv_some.mp e1, p, _, rfl, .inl (.inl (.inl e2)), ?_⟩
  rw [r.length]
  exact k _ H F _ sd R .refl (.int _) h)
end
end DL
namespace DL
open PySem PySem.Spec PyProof.Rows L2
/-- what a law's def promises: handed a script, it returns True -/
def spL (K : PySem.W.Frag) : Sp := fun vs H Q _ => ∃ (a : Addr) (ns : List Int), vs = [.ref a] ∧ SqL K H a (ns.map V.int) ∧ ns.length ≤ 63 ∧ (∀ z ∈ ns, Builtin.Int.intBits z ≤ 1048576) ∧ ∀ H', Q (.bl true) H'
section
variable {P : Program} {w : World} {K : PySem.W.Frag} {mg : Str → Option Value} {base : Heap} {CN : String → Option Addr}
theorem fun_okL {x qual s0 : Str} {st : Stmt} {f : Addr} {fd : FuncData} {N : List Str} {k : Nat} {m : MS} (F : Fun K x qual st f fd) (SC : FnScope N [s0] (defScope st)) (hN : 1 ≤ N.length)
    (hbody : ∀ (cdv : Value) (A : Around) (outer : List Env) (s : Shared) (H : Hp) (E : XK) (C : Ct), C.isW = false → RoomG k (A.deeper (envOfC qual (defScope st) s.heap.objs.size f cdv)) →
      Takes (cxD P w K mg base N qual (defScope st) f cdv A outer s H E) (wD K C CN fun _ _ => False) → PSs (cxD P w K mg base N qual (defScope st) f cdv A outer s H E) (defBody st) (tDS K C m))
    (rd : ∀ ns : List Int, ns.length ≤ 63 → (∀ z ∈ ns, Builtin.Int.intBits z ≤ 1048576) → m endL (.scr ns :: List.replicate (N.length - 1) .no)) : FnG P w K mg base (k + 1) f fd [s0] (spL K) := by
  refine fun_okG F SC (fun vs H Q E h => ?_) (fun cdv A outer s H vs Q E hr h => ?_)
  · obtain ⟨a, ns, rfl, _⟩ := h; rfl
  · obtain ⟨a, ns, rfl, hS, hl, hb, hq⟩ := h
    have no : ∀ (k i : Nat), sget (List.replicate k S.no) i = .no := by
      intro k
      induction k with
      | zero => intro _; rfl
      | succ k ih => intro i; cases i with
        | zero => rfl
        | succ i => exact ih i
    have own : ∀ i, isOwn (sget (S.scr ns :: List.replicate (N.length - 1) S.no) i) = false := fun i => by
      cases i with
      | zero => rfl
      | succ i => show isOwn (sget (List.replicate (N.length - 1) S.no) i) = false; rw [no]; rfl
    have R0 : Rs K ⟨H, H, fun _ => False, false⟩ H H (L2.start N [.ref a]) (.scr ns :: List.replicate (N.length - 1) .no) := by
      refine ⟨?_, Same.refl _, Same.refl _, fun a o h => .inl h, fun a o h _ => h, fun a h => h, fun i => ?_, fun i j p _ o => ?_⟩
      · unfold L2.start; simp
      · cases i with
        | zero => exact ⟨a, rfl, hS⟩
        | succ i => show SlotOk K _ H H _ (sget (List.replicate (N.length - 1) S.no) i); rw [no]; trivial
      · rw [own] at o; cases o
    refine ⟨_, hbody cdv A outer s H E ⟨H, H, fun _ => False, false⟩ rfl hr (takes_cxD fun cls d σ H' hw => ?_), H, _, endL, R0, ⟨fun F1 H1 σ sd _ R q => q.elim, fun F1 H1 σ sd v r _ R rv _ q => ?_, fun _ _ _ _ _ _ z => z.elim, fun _ _ _ _ _ _ z => z.elim⟩, rd ns hl hb⟩
    · obtain ⟨c, a, F1, sd, hc, _, _, R, q⟩ := hw
      exact q.elim
    · have q : r = .va (.bool true) := q
      subst q
      obtain ⟨v', e1, q⟩ := rv
      cases e1
      cases q
      exact hq H1
/-- the promise at the heap behind the top -/
theorem end_call {mb : Str → Option Value} {k : Nat} {fa a : Addr} {fd : FuncData} {x : Str} {s₁ : Shared} {vs : List Value} {ns : List Int} (KX : K.In s₁.heap) (hns : s₁.heap.Ns mainGlobals mg) (hb : s₁.heap.Ns builtinsNs mb)
    (hbb : ∀ x : Str, x ≠ "__name__" → mb x = bootBuiltins x) (hlim : s₁.heap.NoLimit) (hg : s₁.gens = #[]) (ha : s₁.heap.get? a = some { cls := .type "list", data := .seq vs.toArray }) (hi : IntsAre vs ns) (h63 : ns.length ≤ 63) (hbits : ∀ z ∈ ns, Builtin.Int.intBits z ≤ 1048576)
    (hr : RoomG k callerA) (F : ∀ base : Heap, K.In base → base.Ns mainGlobals mg → FnG P w K mg base k fa fd [x] (spL K)) (hbind : ∀ (s : Shared) (u : Value), BindsTo s fd ⟨[u], []⟩ [(x, u)]) :
    codeAny (model P w) callerA (.call (.ref fa) ⟨[.ref a], []⟩) (fun r s' => r = .ok (.ret (.bool true)) ∧ OldK s₁.heap s'.heap ∧ s'.os = s₁.os ∧ AllBare s'.gens) s₁ := by
  have rv := vals_ints hi
  have hl : ns.length ≤ sizeLine := Nat.le_trans h63 (by decide)
  -- the script alone may be tracked, and only if the written part does not have it
  let o₀ : Obj := { cls := .type "list", data := .seq vs.toArray }
  let H : Hp := fun b => if b = a ∧ K.lookup a = none then some (.frz o₀ (.lst (ns.map V.int))) else none
  have hH : ∀ {b u}, H b = some u → b = a ∧ K.lookup a = none ∧ u = .frz o₀ (.lst (ns.map V.int)) := fun {b u} e => by
    by_cases c : b = a ∧ K.lookup a = none
    · have e2 := (if_pos c).symm.trans e
      exact ⟨c.1, c.2, (Option.some.inj e2).symm⟩
    · have e2 := (if_neg c).symm.trans e
      cases e2
  have hS : SqL K H a (ns.map V.int) := by
    cases q : K.lookup a with
    | none => exact .inl (.inr ⟨o₀, if_pos ⟨rfl, q⟩⟩)
    | some o =>
      have e := (KX a o q).symm.trans ha
      cases e
      exact .inr ⟨o₀, vs.toArray, 0, q, rfl, rfl, rfl, by rw [List.size_toArray, hi.length]; exact hl, by simpa using rv⟩
  have hok : HOk P w H s₁.heap := fun b u e => by
    obtain ⟨rfl, _, rfl⟩ := hH e
    exact ⟨ha, by rw [List.length_map]; exact hl, vs, _, rv, ha⟩
  -- the heap without it
  have hid : ∀ {b : Addr} {o : Obj}, s₁.heap.get? b = some o → (b = a → o ≠ o₀ ∨ K.lookup a ≠ none) → (hidT s₁.heap H).get? b = some o := fun {b o} e n => hidT_get e (by
    cases q : H b with
    | none => rfl
    | some u =>
      obtain ⟨e1, e2, _⟩ := hH q
      rcases n e1 with z | z
      · subst e1; rw [ha] at e; exact absurd (Option.some.inj e).symm z
      · exact absurd e2 z)
  have names : ∀ {b : Addr} {m : Str → Option Value}, s₁.heap.Ns b m → (hidT s₁.heap H).Ns b m := fun {b m} h => by
    obtain ⟨o, es, ep, e, d, r⟩ := h
    refine ⟨o, es, ep, hid e fun _ => .inl fun z => ?_, d, r⟩
    subst z
    cases d
  have kin : K.In (hidT s₁.heap H) := fun b o e => hid (KX b o e) fun z => .inr (by subst z; rw [e]; exact fun q => nomatch q)
  have lim : (hidT s₁.heap H).NoLimit := by
    obtain ⟨mc, h1, h2⟩ := hlim
    exact ⟨mc, names h1, h2⟩
  have e0 : Env0 P w K mg (hidT s₁.heap H) callerA [] s₁ H := ⟨rfl, ⟨kin, names hns, ⟨mb, names hb, hbb⟩, lim⟩, fun b o e => of_hidT e, Nat.le_of_eq (hidT_size _ _), trivial, (fun b hb => nomatch hb), hok, .of_eq hg⟩
  refine codeAny_mono ((F _ kin (names hns)).run (H := H) (us := [.ref a]) (vs := [.ref a]) (Q := fun v _ => v = .bl true) (E := fun _ _ _ => False) hr e0 (hbind s₁ (.ref a)) (.cons rfl .nil) ⟨a, ns, rfl, hS, h63, hbits, fun _ => rfl⟩) fun r s' h => ?_
  cases r with
  | error e =>
    obtain ⟨_, _, _, _, _, _, _, _, _, _, _, _, z⟩ := h
    exact z.elim
  | ok fl =>
    cases fl with
    | next => exact h.elim
    | brk => exact h.elim
    | cont => exact h.elim
    | ret u =>
      obtain ⟨v, H', os, bare, un, hok', r', q⟩ := h
      have q : v = .bl true := q
      subst q
      have r' : u = Value.bool true := r'
      subst r'
      refine ⟨rfl, OldK.of_keep fun b o e => ?_, os, bare⟩
      cases q : H b with
      | none => exact un.keep b o e q (fun z => nomatch z) (fun z => nomatch z)
      | some u =>
        obtain ⟨rfl, h2, rfl⟩ := hH q
        have e2 := (hok' b _ (un.frzs b _ _ q)).1
        rw [ha] at e
        cases e
        exact e2
end
/-- the goal that k_head leaves, from the promise of the law's def -/
theorem end_law {l : PySem.W.OpenLaw} {k : Nat} {q : Program} {loose : List Str} {XP : (Str → Option Value) → Heap → Prop} {YP : World → Heap → Prop} {d : DefRec} {K : Params → PySem.W.Frag} {x : Str}
    (hn : l.most = some 63) (hdf : d.params.defaults = []) (hr : RoomG k callerA) (hY : ∀ (w : World) (h : Heap), YP w h → (K w.params).In h)
    (F : ∀ (w : World) (mg : Str → Option Value) (fa : Addr) (h : Heap), (K w.params).In h → h.Ns mainGlobals mg → mg d.name = some (.ref fa) →
      ∃ fd : FuncData, (∀ (s : Shared) (u : Value), BindsTo s fd ⟨[u], []⟩ [(x, u)]) ∧ ∀ base : Heap, (K w.params).In base → base.Ns mainGlobals mg → FnG l.prog w (K w.params) mg base k fa fd [x] (spL (K w.params))) :
    PySem.W.WalkO q loose XP YP l.row.toRowW d [] (fun f vs => PySem.call f vs) := by
  refine Att.attach_callB hn hdf fun w s₀ s₁ mg mb fa o pm cd doc a vs ns G Y ho hd hcd hmg hobj hints hlen hbits hg => ?_
  obtain ⟨fd, hb, hF⟩ := F w mg fa _ (hY w _ Y) G.T.g hmg
  exact end_call (hY w _ Y) G.T.g G.T.b G.T.builtins G.T.nolimit hg hobj hints hlen hbits hr hF hb
end DL
namespace DL
open PySem PySem.Spec PyProof.Rows L2
theorem RoomG.u64 {k : Nat} {A : Around} (h : RoomG k A) : A.units + 64 < cLine := by have := h.r.un; omega
section
variable {X : Cx} {C : Ct}
theorem dv (i : Nat) {x : Str} {pos : Pos} (hN : X.N[i]? = some x := by rfl) (hv : Vis X.env.scope x := by first | exact Or.inl rfl | exact Or.inr (Or.inl rfl) | exact Or.inr (Or.inr rfl)) (hd : (x == ("__debug__" : Str)) = false := by decide)
    (hcd : (x == ("__classdict__" : Str)) = false := by decide) : PE X (.Name x pos) (tD X.K C (mVar i)) := pd_var hN hv hd hcd
/-- a raise that cannot be -/
theorem takesF {K : PySem.W.Frag} {CN : String → Option Addr} : Takes X (wD K C CN wF) := takes0.imp fun cls d σ H h => by
  obtain ⟨_, _, _, _, _, _, _, _, q⟩ := h
  exact q.elim
theorem dg (i : Nat) {x : Str} {pos : Pos} (hN : X.N.Nodup) (hi : X.N[i]? = some x := by rfl) (hx : Loc X.env.scope x := by first | exact Or.inl rfl | exact Or.inr rfl) (hf : X.fn x = true ∨ X.env.scope.names.lookup x = some .local := by first | exact .inl rfl | exact .inr rfl) :
    PG X (.Name x pos) (tDG X.K C (mgName i)) := pdg_name hN hi hx hf
theorem gcons {e : Expr} {es : List Expr} {g : MG} {gs : MGs} (h1 : PG X e (tDG X.K C g)) (h2 : PGs X es (tDGs X.K C gs)) (hs : (assignEach (e :: es) X.env).map (·.2) = assign e X.env :: (assignEach es X.env).map (·.2) := by rfl) : PGs X (e :: es) (tDGs X.K C (mgCons g gs)) := pdgs_cons h1 h2 (pgs_cons h1 h2 hs)
theorem gvcons {vs : List Nat} {e : Expr} {es : List Expr} {g : MG} {gs : MGs} (h1 : PG X e (tDGv X.K C vs g)) (h2 : PGs X es (tDGsv X.K C vs gs)) (hs : (assignEach (e :: es) X.env).map (·.2) = assign e X.env :: (assignEach es X.env).map (·.2) := by rfl) : PGs X (e :: es) (tDGsv X.K C vs (mgCons g gs)) := pdgsv_cons (pgs_cons h1 h2 hs)
theorem dgv (i : Nat) {vs : List Nat} {x : Str} {pos : Pos} (hN : X.N.Nodup) (hv : i ∈ vs := by decide) (hi : X.N[i]? = some x := by rfl) (hx : Loc X.env.scope x := by first | exact Or.inl rfl | exact Or.inr rfl) (hf : X.fn x = true ∨ X.env.scope.names.lookup x = some .local := by first | exact .inl rfl | exact .inr rfl) :
    PG X (.Name x pos) (tDGv X.K C vs (mgName i)) := pdgv_name hv (pg_name hN hi hx hf)
theorem d_range1 {tg a : Expr} {p pos : Pos} {m : MA} (hm : X.mg "range" = none) (h : PA X [a] (tDA X.K C m)) (hg : Gl X "range" := by rfl) (hs : starEach [a] X.env = [(false, eval a X.env)] := by rfl) : PI X tg (.Call (.Name "range" p) [a] [] pos) (tDI X.K C (miRng1 m)) :=
  pdi_range1 hm h hg (pi_range1 hg hm h hs)
theorem d_range2 {tg a b : Expr} {p pos : Pos} {m : MA} (hm : X.mg "range" = none) (h : PA X [a, b] (tDA X.K C m)) (hg : Gl X "range" := by rfl) (hs : starEach [a, b] X.env = [(false, eval a X.env), (false, eval b X.env)] := by rfl) (hs2 : starEach [b] X.env = [(false, eval b X.env)] := by rfl) : PI X tg (.Call (.Name "range" p) [a, b] [] pos) (tDI X.K C (miRng2 m)) :=
  pdi_range2 hm h hg (pi_range2 hg hm h hs hs2)
end
end DL
namespace DL
open PySem PySem.Spec PyProof.Rows L2 HT
theorem rev_places (n : Nat) : Builtin.Slice.slicePlaces ((n : Int) - 1) (-1) (-1) = n := by
  unfold Builtin.Slice.slicePlaces
  have h1 : ¬ ((-1 : Int) > 0) := by omega
  rw [if_neg h1]
  by_cases h : (n : Int) - 1 > -1
  · rw [if_pos h, show (-(-1) : Int) = 1 from rfl, Int.ediv_one]; omega
  · rw [if_neg h]; omega
theorem fm_congr {α β : Type} {f g : α → Option β} : ∀ {l : List α}, (∀ x ∈ l, f x = g x) → l.filterMap f = l.filterMap g
  | [], _ => rfl
  | x :: l, h => by
    rw [List.filterMap_cons, List.filterMap_cons, h x (by simp), fm_congr (l := l) fun y hy => h y (by simp [hy])]
theorem rev_pick (xs : Array Value) : ((List.range xs.size).filterMap fun (m : Nat) => xs[(((xs.size : Int) - 1) + (m : Int) * (-1)).toNat]?).toArray = xs.toList.reverse.toArray := by
  have e : ((List.range xs.size).filterMap fun (m : Nat) => xs[(((xs.size : Int) - 1) + (m : Int) * (-1)).toNat]?) = ((List.range xs.size).map fun k => xs.size - 1 - k).filterMap (xs[·]?) := by
    rw [List.filterMap_map]
    refine fm_congr fun m hm => ?_
    have : (((xs.size : Int) - 1) + (m : Int) * (-1)).toNat = xs.size - 1 - m := by
      have := List.mem_range.mp hm
      omega
    rw [this]
    rfl
  rw [e, PySem.W.krv_range, List.filterMap_reverse, PySem.W.krv_all]
section
variable {prog : Program} {w : World} {A : Around} {E : Value → Shared → Prop} {s : Shared}
theorem rev_applied {sl : Addr} {vs : Value} {n : Nat} {Q : Int × Int × Nat → Shared → Prop} (hs : s.heap.IsSliceOf sl .none .none vs) (ps : IsPart vs (some (-1))) (h : Q ((n : Int) - 1, -1, n) s) :
    wpAny (model prog w) A (Builtin.Slice.sliceApplied (.ref sl) (pure (n : Int))) Q E s := by
  obtain ⟨oo, ho, hcc, hdd⟩ := id hs
  unfold Builtin.Slice.sliceApplied
  unfold Builtin.Slice.sliceFields
  refine wpAny_bind (wpAny_bind (wpAny_field ho hdd (x := .none) rfl (wpAny_bind (wpAny_field ho hdd (x := .none) rfl (wpAny_bind (wpAny_field ho hdd (x := vs) rfl (wpAny_pure ?_)))))))
  refine wpAny_bind (slicePart_ ps ?_)
  show wpAny _ _ (if ((-1 : Int) == 0) = true then _ else _) _ _ s
  rw [if_neg (by decide)]
  refine wpAny_bind (slicePart_none (wpAny_bind (slicePart_none (wpAny_bind (wpAny_pure ?_)))))
  show wpAny _ _ (pure ((n : Int) - 1, (-1 : Int), Builtin.Slice.slicePlaces ((n : Int) - 1) (-1) (-1))) _ _ s
  rw [rev_places]
  exact wpAny_pure h
theorem rev_item {t sl : Addr} {items : Array Value} {vs : Value} {Q : Value → Shared → Prop} (ht : IsTup s.heap t items) (hs : s.heap.IsSliceOf sl .none .none vs) (ps : IsPart vs (some (-1)))
    (h : Q (.ref s.heap.objs.size) { s with heap := s.heap.push { cls := .type "tuple", data := .seq items.toList.reverse.toArray } }) (hsz : items.size ≤ sizeLine) : wpAny (model prog w) A (getItem (.ref t) (.ref sl)) Q E s := by
  have fits : sizeOk (.seq items.toList.reverse.toArray) := by
    show items.toList.reverse.toArray.size ≤ sizeLine
    rw [List.size_toArray, List.length_reverse, Array.length_toList]
    exact hsz
  have isS : s.TypeIs (.ref sl) "slice" := hs.elim fun o q => ⟨o, q.1, q.2.1⟩
  unfold getItem
  try with_reducible refine wpAny_holding ?_
  first | refine wpAny_bind (wpAny_pure ?_) | skip
  refine wpAny_bind (wpAny_sequenceKey ht.typeIs (by decide) (wpAny_bind (wpAny_callSpecial?_slot (name := Str.ofString "__getitem__") ht.typeIs PyProof.Rows.slot_tuple_getitem (wpAny_call_entry PyProof.Rows.slot_tuple_getitem ht.typeIs entry_tuple_getitem ?_ (args_tuple_getitem _ _)))))
  show wpAny _ _ (Builtin.Tuple.tupleItemsOf (.ref t) >>= _) _ _ s
  refine wpAny_bind (tupleItemsOf_ ht (wpAny_bind (wpAny_typeOf isS ?_)))
  rw [if_pos (by decide)]
  refine wpAny_bind (rev_applied hs ps ?_)
  have other : ¬ (((items.size : Int) - 1 == 0 && (-1 : Int) == 1 && items.size == items.size) = true) := by
    intro q
    rw [Bool.and_eq_true, Bool.and_eq_true] at q
    exact absurd q.1.2 (by decide)
  show wpAny _ _ (if ((items.size : Int) - 1 == 0 && (-1 : Int) == 1 && items.size == items.size) = true then _ else _) _ _ s
  rw [if_neg other, rev_pick]
  first
    | exact wpAny_bind (m := Builtin.Tuple.tupleExact _) (wpAny_newObj_type (wpAny_pure ⟨_, rfl, wpAny_pure h⟩) fits)
    | exact wpAny_bind (m := Builtin.Tuple.tupleExact _) (wpAny_newObj_type (wpAny_bind (wpAny_pure (wpAny_pure ⟨_, rfl, wpAny_pure h⟩))) fits)
    | exact wpAny_bind (wpAny_bind (m := Builtin.Tuple.tupleExact _) (wpAny_newObj_type (wpAny_pure (wpAny_pure ⟨_, rfl, wpAny_pure h⟩)) fits))
    | exact wpAny_bind (wpAny_bind (m := Builtin.Tuple.tupleExact _) (wpAny_newObj_type (wpAny_pure ⟨_, rfl, wpAny_pure h⟩) fits))
end
section
variable {X : Cx} {C : Ct}
def tRev2 (K : PySem.W.Frag) (te : TE) : TE := fun σ H Q => te σ H fun x H1 => ∃ a xs, x = .ref a ∧ ((SqL K H1 a xs ∧ ∀ p, H1 p = none → Q (.ref p) (upd H1 p (.lst xs.reverse))) ∨ (SqT K H1 a xs ∧ ∀ p, H1 p = none → Q (.ref p) (upd H1 p (.tup xs.reverse))))
theorem pe_rev2 {e : Expr} {te : TE} {k : Nat} {p1 p2 p3 pos : Pos} (he : PE X e te) : PE X (.Subscript e (.Slice none none (some (.UnaryOp .USub (.Constant (.int 1) k p1) p2)) p3) pos) (tRev2 X.K te) := by
  refine ⟨fun pins s σ H Q I h => Subscript_ (thn (he.run pins s σ H _ I h) fun v s1 hh => ?_)⟩
  obtain ⟨x, H1, I1, r1, a, xs, ex, q⟩ := hh
  subst ex
  cases r1
  have one : PO X (some (.UnaryOp .USub (.Constant (.int 1) k p1) p2)) (tPart (tUn (rU fun i => .int (-i)) (tC (.int 1)))) := po_some (pe_un un_neg pe_int)
  refine wpAny_Slice (thn (po_none.run pins s1 σ H1 (fun o H2 => o = none ∧ H2 = H1) I1 ⟨rfl, rfl⟩) fun vl s2 z => ?_)
  obtain ⟨_, _, I2, pl, rfl, rfl⟩ := z
  refine thn (po_none.run pins s2 σ _ (fun o H3 => o = none ∧ H3 = _) I2 ⟨rfl, rfl⟩) fun vu s3 z => ?_
  obtain ⟨_, _, I3, pu, rfl, rfl⟩ := z
  refine thn (one.run pins s3 σ _ (fun o H4 => o = some (-1) ∧ H4 = _) I3 ⟨1, rfl, -1, rfl, rfl, rfl⟩) fun vs s4 z => ?_
  obtain ⟨_, H4, I4, ps, rfl, rfl⟩ := z
  have I5 : Inv X pins σ _ { s4 with heap := s4.heap.push { cls := .type "slice", data := .fields #[vl, vu, vs] } } := I4.kept (t' := s4.toks) fun b ob q => Heap.get?_push_of_some _ q
  cases pl
  cases pu
  show wpAny (model X.prog X.w) X.A (subscriptTail e _ (.ref a) (.ref s4.heap.objs.size)) (EP X pins σ Q) X.xe { s4 with heap := s4.heap.push { cls := .type "slice", data := .fields #[.none, .none, vs] } }
  rcases q with ⟨hx, q⟩ | ⟨hx, q⟩
  · obtain ⟨its, r, ht, hz⟩ := I5.list hx
    have hlen := r.length
    refine tail_any (ops := [.ref a, .ref s4.heap.objs.size]) ht.isList.typeIs (PySem.slot_list_getitem.lookup) ?_ (by with_unfolding_all rfl)
    refine wpAny_getItem_list_slice ht.isList (Heap.IsSliceOf.new _ _ _ vs) .none .none ps (by decide) ?_ (by rw [List.size_toArray]; omega)
    rw [PySem.W.krv_pick]
    exact ⟨.ref _, _, I5.laid (t' := s4.toks) (o := .lst xs.reverse) (fun b ob q => Heap.get?_push_of_some _ q) (Nat.le_refl _) ⟨by rw [List.length_reverse]; exact hz, _, 0, r.reverse, Heap.get?_push_size _ rfl⟩, rfl, q _ (I5.hok.fresh (Nat.le_refl _))⟩
  · obtain ⟨its, r, ht, hz⟩ := I5.tuple hx
    have hlen := r.length
    refine tail_any (ops := [.ref a, .ref s4.heap.objs.size]) ht.typeIs (PyProof.Rows.slot_tuple_getitem.lookup) ?_ (by with_unfolding_all rfl)
    refine rev_item ht (Heap.IsSliceOf.new _ _ _ vs) ps ?_ (by rw [List.size_toArray]; omega)
    exact ⟨.ref _, _, I5.laid (t' := s4.toks) (o := .tup xs.reverse) (fun b ob q => Heap.get?_push_of_some _ q) (Nat.le_refl _) ⟨by rw [List.length_reverse]; exact hz, _, r.reverse, IsTup.new _ _⟩, rfl, q _ (I5.hok.fresh (Nat.le_refl _))⟩
theorem rpA_reverse {K : PySem.W.Frag} {F : Hp} {vs : List V} {ds : List PyData} (r : RpA K F vs ds) : RpA K F vs.reverse ds.reverse := by
  have app : ∀ {vs : List V} {ds : List PyData} {ws : List V} {es : List PyData}, RpA K F vs ds → RpA K F ws es → RpA K F (vs.reverse ++ ws) (ds.reverse ++ es) := by
    intro vs
    induction vs with
    | nil => intro ds ws es r q; cases r; exact q
    | cons v vs ih =>
      intro ds ws es r q
      cases r with
      | cons h r =>
        rw [List.reverse_cons, List.reverse_cons, List.append_assoc, List.append_assoc]
        exact ih r (.cons h q)
  have := app r (RpA.nil (K := K) (F := F))
  simpa using this
theorem pd_rev {e : Expr} {me : ME} {k : Nat} {p1 p2 p3 pos : Pos} (he : PE X e (tD X.K C me)) : PE X (.Subscript e (.Slice none none (some (.UnaryOp .USub (.Constant (.int 1) k p1) p2)) p3) pos) (tD X.K C (mOp1 opRev me)) := pe_imp (pe_rev2 he) (by
  rintro σ H Q ⟨F, sd, Qd, R, h, k⟩
  refine ⟨F, sd, _, R, h, fun x H1 F1 a sd1 R1 S1 rx h1 => ?_⟩
  obtain ⟨z, e, q⟩ := h1
  cases rx with
  | lst h2 r2 =>
    cases e
    refine ⟨_, _, rfl, .inl ⟨.inl (.inl (R1.ext _ _ h2)), fun p hp => ?_⟩⟩
    exact k (.ref p) _ _ _ sd1 (R1.al (.new hp)) (S1.trans (.al R1 (.new hp))) (.lst upd_same (rpA_reverse (r2.mono (same_new (free_of R1.ext hp))))) q
  | tup h2 r2 =>
    cases e
    refine ⟨_, _, rfl, .inr ⟨same_t R1.ext h2, fun p hp => ?_⟩⟩
    exact k (.ref p) _ _ _ sd1 (R1.al (.new hp)) (S1.trans (.al R1 (.new hp))) (.tup (.inl (.inl upd_same)) (rpA_reverse (r2.mono (same_new (free_of R1.ext hp))))) q
  | _ => cases e)
end
end DL
namespace DL
open PySem PySem.Spec PyProof.Rows L2
section
variable {P : Program} {w : World} {K : PySem.W.Frag} {mg : Str → Option Value} {base : Heap} {CN : String → Option Addr}
theorem psw {N : List Str} {qual : Str} {sc : Scope} {f : Addr} {cdv : Value} {A : Around} {outer : List Env} {s : Shared} {H : Hp} {E : XK} :
    PassesOwn (model (cxD P w K mg base N qual sc f cdv A outer s H E).prog (cxD P w K mg base N qual sc f cdv A outer s H E).w) (cxD P w K mg base N qual sc f cdv A outer s H E).A (cxD P w K mg base N qual sc f cdv A outer s H E).env (cxD P w K mg base N qual sc f cdv A outer s H E).xe := passes_of (X := cxD P w K mg base N qual sc f cdv A outer s H E) rfl
inductive Sel where | p (i : Nat) | k (i : Nat)
def pick {α : Type} (us ws : List α) : List Sel → List α
  | [] => []
  | .p i :: r => us[i]?.toList ++ pick us ws r
  | .k i :: r => ws[i]?.toList ++ pick us ws r
/-- a places, b keywords, in this order -/
def gSel (a b : Nat) (ss : List Sel) {α : Type} (us ws : List α) : List α := if us.length = a ∧ ws.length = b then pick us ws ss else []
theorem paired_app {α β : Type} {R : α → β → Prop} : ∀ {as : List α} {bs : List β} {cs : List α} {ds : List β}, Paired R as bs → Paired R cs ds → Paired R (as ++ cs) (bs ++ ds)
  | _, _, _, _, .nil, q => q
  | _, _, _, _, .cons h r, q => .cons h (paired_app r q)
theorem paired_at {α β : Type} {R : α → β → Prop} : ∀ {as : List α} {bs : List β} (i : Nat), Paired R as bs → Paired R as[i]?.toList bs[i]?.toList
  | _, _, _, .nil => .nil
  | _, _, 0, .cons h _ => .cons h .nil
  | _ :: _, _ :: _, i + 1, .cons _ r => by simpa using paired_at i r
theorem paired_len {α β : Type} {R : α → β → Prop} : ∀ {as : List α} {bs : List β}, Paired R as bs → as.length = bs.length
  | _, _, .nil => rfl
  | _, _, .cons _ r => by simp [paired_len r]
theorem ord_sel (a b : Nat) (ss : List Sel) : Ord (fun {α} => gSel a b ss (α := α)) where
  rel := fun {α β} R {as cs bs ds} h1 h2 => by
    unfold gSel
    rw [paired_len h1, paired_len h2]
    split
    · induction ss with
      | nil => exact .nil
      | cons s ss ih =>
        cases s with
        | p i => exact paired_app (paired_at i h1) ih
        | k i => exact paired_app (paired_at i h2) ih
    · exact .nil
theorem kbinds_of {fd : FuncData} {ps ks : List Str} {a b : Nat} {ss : List Sel} (hp : ps ≠ []) (h : ∀ (s : Shared) (us ws : List Value), us.length = a → ws.length = b → BindsTo s fd ⟨us, ks.zip ws⟩ (ps.zip (pick us ws ss))) : KBinds K fd ps ks (gSel a b ss) (gSel a b ss) where
  to := fun s us ws _ hl => by
    unfold gSel at hl ⊢
    by_cases c : us.length = a ∧ ws.length = b
    · rw [if_pos c]; exact h s us ws c.1 c.2
    · rw [if_neg c] at hl
      exact absurd (List.eq_nil_of_length_eq_zero hl.symm) hp
  rel := fun {vs us zs ws} h1 h2 => (ord_sel a b ss).rel RelV h1 h2
def dDraw : WSpec := fun n ds Q => ∃ m : Int, ds = [.int m] ∧ 1 ≤ n ∧ 1 ≤ m ∧ m.natAbs.log2 < 9000 ∧ ∀ r : Int, 0 ≤ r → r < m → Q (.va (.int r)) (n - 1)
def spWell (K : PySem.W.Frag) : Sp := fun vs H Q _ => ∃ (a : Addr) (ns : List Int) (k : Int), vs = [.ref a, .int k] ∧ SqL K H a (ns.map V.int) ∧ ns.length ≤ 63 ∧ (∀ z ∈ ns, Builtin.Int.intBits z ≤ 1048576) ∧ 0 ≤ k ∧ k < 2 ^ 20 ∧
  ∀ H' p x y z, Same H H' → H p = none → H' p = some (.lst [.int x, .int y, .int z]) → WellOk (2 ^ 60) x y z → Q (.ref p) H'
structure CalL (P : Program) (w : World) (K : PySem.W.Frag) (mg : Str → Option Value) (base : Heap) (k : Nat) (x : Str) : Prop where
  ex : ∃ f fd ps, FnG P w K mg base k f fd ps (spWell K) ∧ mg x = some (.ref f) ∧ PySem.W.keepIn K (.ref f) = true ∧ Binds K fd ps []
end
/-- the well from the script in slot i -/
def mWell (i : Nat) (me : ME) : MR := fun sd Q => (∃ ns, sget sd i = .scr ns) ∧ me sd fun d s1 => ∃ ns k, sget s1 i = .scr ns ∧ ns.length ≤ 63 ∧ (∀ z ∈ ns, Builtin.Int.intBits z ≤ 1048576) ∧ d = .int k ∧ 0 ≤ k ∧ k < 2 ^ 20 ∧ Q (.well (2 ^ 60)) s1
section
variable {K : PySem.W.Frag} {X : Cx} {C : Ct}
theorem td_well {i : Nat} {me : ME} {E : L2.St → XK} (hw : C.isW = false) : ∀ σ H Q, tDR K C (mWell i me) σ H Q → tCallG (spWell K) E (tCons (tVar i) (tCons (tD K C me) tNil)) σ H Q := by
  rintro σ H Q ⟨F, sd, Qd, R, ⟨⟨n0, hn0⟩, h⟩, k⟩
  have hi := R.slot i
  rw [hn0] at hi
  obtain ⟨p, e1, _⟩ := hi
  refine ⟨.ref p, gv_some.mp e1, F, sd, _, R, h, fun v H1 F1 d sd1 R1 S1 rv h1 => ?_⟩
  obtain ⟨ns, kk, hs, hl, hb, rfl, k0, k1, q⟩ := h1
  have hi1 := R1.slot i
  rw [hs] at hi1
  obtain ⟨p', z1, z2⟩ := hi1
  rw [e1] at z1; cases z1
  cases rv
  refine ⟨p, ns, kk, rfl, R1.ext.seq z2, hl, hb, k0, k1, fun H' p2 x y z sm hp hn ok => ?_⟩
  have S2 : Stp σ sd1 F1 H1 F1 H' sd1 := ⟨Same.refl _, fun a o e _ => sm a o e, fun _ z => z, fun a o e => .inl e, fun a e => by
    cases q : H1 a with
    | none => rfl
    | some o => rw [sm a o q] at e; cases e⟩
  have hF : F1 p2 = none := R1.free hp
  have R2 : Rs K C F1 H' σ sd1 := by
    refine ⟨R1.len, R1.grow, fun a o e => sm a o (R1.ext a o e), R1.new, fun a o e n => sm a o (R1.keep a o e n), fun a e => R1.still a (S2.st a e), fun j => (R1.slot j).grow (Same.refl _) fun q x o e eh en => ⟨sm q x eh, en⟩, R1.sep⟩
  refine k _ H' F1 (.well (2 ^ 60)) sd1 R2 (S1.trans S2) ⟨p2, x, y, z, rfl, hn, hF, .inr ⟨hw, R1.still p2 hp⟩, ok⟩ (fun _ q e => by cases e; exact (R1.fresh hp).1) (fun _ q e => by cases e; exact S1.st p2 hp) q
theorem pdr_well {i : Nat} {me : ME} {x y : Str} {e2 : Expr} {p p2 pos : Pos} {k j : Nat} {W : WX} (hw : C.isW = false) (c : CalL X.prog X.w X.K X.mg X.base k x) (hr : RoomG j X.A) (hk : k ≤ j) (tk : Takes X W) (hy : PE X (.Name y p2) (tVar i)) (he2 : PE X e2 (tD X.K C me)) (hg : Gl X x := by rfl)
    (hdb : (x == ("__debug__" : Str)) = false := by decide) (he : starEach (.Name y p2 :: [e2]) X.env = (false, eval (.Name y p2) X.env) :: starEach [e2] X.env := by rfl) (he1 : starEach (e2 :: []) X.env = (false, eval e2 X.env) :: starEach [] X.env := by rfl) (hpl : (backTo pos (starEach [e2] X.env)).any (·.1) = false := by rfl) :
    PE X (.Call (.Name x p) [.Name y p2, e2] [] pos) (tDR X.K C (mWell i me)) := by
  obtain ⟨f, fd, ps, F, hm, hkp, hb⟩ := c.ex
  exact pe_imp (pe_callG F (hr.mono hk) hg hm hkp hb (passAt tk) (pa_cons hy (pa_cons he2 pa_nil he1) he) hdb he hpl) (td_well hw)
end
end DL
namespace DL
open PySem PySem.Spec PyProof.Rows L2
/-- a + b of lists, a new list that nobody else holds -/
def mrCat (ma mb : ME) : MR := fun sd Q => ma sd fun a s1 => mb s1 fun b s2 => ∃ xs ys, a = .list xs ∧ b = .list ys ∧ xs.length + ys.length ≤ 100000 ∧ Q (.own (xs ++ ys)) s2
section
variable {K : PySem.W.Frag} {X : Cx} {C : Ct}
theorem pdt_ofw {e : Expr} {t : MT} (h : PW X e (tDT X.K C t)) : PT X e (tDT X.K C t) := h.pt
theorem cmpI_bl {p : Int → Int → Bool} {a b z : PyData} (h : cmpI p a b = some z) : ∃ k, z = .bool k := by
  unfold cmpI at h
  split at h
  · cases h; exact ⟨_, rfl⟩
  · cases h
theorem eq_bl {a b z : PyData} (h : opEq a b = some z) : ∃ k, z = .bool k := by
  unfold opEq at h
  split at h
  · cases h; exact ⟨_, rfl⟩
  · obtain ⟨p, _, h⟩ := Option.map_eq_some_iff.mp h
    exact ⟨_, h.symm⟩
theorem ne_bl {a b z : PyData} (h : opNe a b = some z) : ∃ k, z = .bool k := by
  unfold opNe at h
  split at h
  · cases h; exact ⟨_, rfl⟩
  · obtain ⟨p, _, h⟩ := Option.map_eq_some_iff.mp h
    exact ⟨_, h.symm⟩
theorem pd_chain2 {op op'} {r r' : R2} {f g : PyData → PyData → Option PyData} {a b c : Expr} {ma mb mc : ME} {pos : Pos} (ho : OpR X (compareOp op) r) (ho' : OpR X (compareOp op') r') (L : RL2 X.K r f) (L' : RL2 X.K r' g)
    (ha : PE X a (tD X.K C ma)) (hb : PE X b (tD X.K C mb)) (hc : PE X c (tD X.K C mc)) (hu : ∀ {a b : PyData} {z : PyData}, f a b = some z → ∃ k, z = .bool k := by first | exact cmpI_bl | exact eq_bl | exact ne_bl)
    (hm : lastMarks [op, op'] [b, c] = false := by with_unfolding_all rfl) : PE X (.Compare a [op, op'] [b, c] pos) (tD X.K C (mChain f g ma mb mc)) := pd_chain ho ho' L L' ha hb hc hu (pe_chain ho ho' ha hb hc hm)
theorem pdt_chain2 {op op'} {r r' : R2} {f g : PyData → PyData → Option PyData} {a b c : Expr} {ma mb mc : ME} {pos : Pos} (ho : OpR X (compareOp op) r) (ho' : OpR X (compareOp op') r') (L : RL2 X.K r f) (L' : RL2 X.K r' g)
    (ha : PE X a (tD X.K C ma)) (hb : PE X b (tD X.K C mb)) (hc : PE X c (tD X.K C mc)) (hm : lastMarks [op, op'] [b, c] = false := by with_unfolding_all rfl) : PT X (.Compare a [op, op'] [b, c] pos) (tDT X.K C (mT (mChain f g ma mb mc))) := pdt_chain L L' (pt_chain ho ho' ha hb hc hm)
theorem pdr_cat {a b : Expr} {ma mb : ME} {pos : Pos} (ha : PE X a (tD X.K C ma)) (hb : PE X b (tD X.K C mb)) : PE X (.BinOp a .Add b pos) (tDR X.K C (mrCat ma mb)) := pe_imp (pe_op op_cat ha hb) (by
  rintro σ H Q ⟨F, sd, Qd, R, h, k⟩
  refine ⟨F, sd, _, R, h, fun x H1 F1 d sd1 R1 S1 rx h1 => ⟨F1, sd1, _, R1, h1, fun y H2 F2 e sd2 R2 S2 ry h2 => ?_⟩⟩
  obtain ⟨xs, ys, rfl, rfl, hl, q⟩ := h2
  cases rx with
  | lst a1 r1 =>
    cases ry with
    | lst a2 r2 =>
      refine ⟨_, _, _, _, rfl, rfl, R2.ext _ _ (S2.fr _ _ a1), R2.ext _ _ a2, ?_, fun p hp => ?_⟩
      · rw [r1.length, r2.length]; exact line_of hl
      · have S := S1.trans S2
        refine k (.ref p) _ F2 (.own (xs ++ ys)) sd2 (R2.allocH hp) (S.trans ⟨Same.refl _, fun a o e _ => same_new hp a o e, fun _ z => z, fun _ _ e => .inl e, fun a e => ?_⟩) ⟨p, _, rfl, upd_same, R2.free hp, R2.still p hp, (r1.mono S2.fr).append r2⟩ (fun _ q' e => ?_) (fun _ q' e => ?_) q
        · by_cases z : a = p
          · subst z; exact hp
          · rw [upd_ne z] at e; exact e
        · cases e; exact (R2.fresh hp).1
        · cases e; exact S.st p hp)
end
end DL
namespace DL
open PySem PySem.Spec PyProof.Rows L2
def bTup : List PyData → Option PyData
  | [.list xs] => some (.tuple xs)
  | [.tuple xs] => some (.tuple xs)
  | _ => none
section
variable {K : PySem.W.Frag} {X : Cx} {C : Ct}
theorem pd_tupOf {p pos : Pos} {a : Expr} {m : ME} (hm : X.mg "tuple" = none) (ha : PE X a (tD X.K C m)) (hg : Gl X "tuple" := by rfl) (na : starEach [a] X.env = (false, eval a X.env) :: starEach [] X.env := by rfl) :
    PE X (.Call (.Name "tuple" p) [a] [] pos) (tD X.K C (mCallB bTup (mCons m mNil))) := pe_imp (pe_tupleOf hg hm ha na) (by
  rintro σ H Q ⟨F, sd, Qd, R, h, k⟩
  refine ⟨F, sd, _, R, h, fun x H1 F1 d sd1 R1 S1 rx h1 => ?_⟩
  obtain ⟨r, e, q⟩ := h1
  cases rx with
  | lst h2 r2 =>
    cases e
    refine .inl ⟨_, _, rfl, .inl (.inl (R1.ext _ _ h2)), fun p hp => ?_⟩
    exact k (.ref p) _ _ _ sd1 (R1.al (.new hp)) (S1.trans (.al R1 (.new hp))) (.tup (.inl (.inl upd_same)) (r2.mono (same_new (free_of R1.ext hp)))) q
  | tup h2 r2 =>
    cases e
    exact .inr ⟨_, _, rfl, same_t R1.ext h2, k _ H1 F1 _ sd1 R1 S1 (.tup h2 r2) q⟩
  | _ => cases e)
end
section
variable {P : Program} {w : World} {K : PySem.W.Frag} {mg : Str → Option Value} {base : Heap} {CN : String → Option Addr}
/-- a promise that is never asked for -/
theorem fn_never {k : Nat} {f : Addr} {fd : FuncData} {ps : List Str} {spec : PSpec} (h : ∀ ds Q E, ¬ spec ds Q E) : FnG P w K mg base k f fd ps (spP K CN spec) where
  len := fun vs H Q E z => by
    obtain ⟨_, _, _, _, _, _, z, _⟩ := z
    exact (h _ _ _ z).elim
  run := fun _ _ _ _ z => by
    obtain ⟨_, _, _, _, _, _, z, _⟩ := z
    exact (h _ _ _ z).elim
end
end DL
namespace DL
open PySem
theorem fz_va {d : PyData} : fz (.va d) = some d := rfl
theorem fz_own {ds : List PyData} : fz (.own ds) = some (.list ds) := rfl
section
variable {a b : Int}
theorem opAdd_i : opAdd (.int a) (.int b) = some (.int (a + b)) := rfl
theorem opSub_i : opSub (.int a) (.int b) = some (.int (a - b)) := rfl
theorem opMul_i : opMul (.int a) (.int b) = if small a b = true then some (.int (a * b)) else none := rfl
theorem opMod_i : opMod (.int a) (.int b) = if 0 < b then some (.int (a % b)) else none := rfl
theorem opFdiv_i : opFdiv (.int a) (.int b) = if 0 < b ∧ b.natAbs.log2 < 9000 then some (.int (a / b)) else none := rfl
theorem opPow_i : opPow (.int a) (.int b) = if 0 ≤ b ∧ b ≤ 100 ∧ a.natAbs < 2 ^ 10000 then some (.int (a ^ b.toNat)) else none := rfl
theorem opLt_i : opLt (.int a) (.int b) = some (.bool (decide (a < b))) := rfl
theorem opLe_i : opLe (.int a) (.int b) = some (.bool (decide (a ≤ b))) := rfl
theorem opGt_i : opGt (.int a) (.int b) = some (.bool (decide (b < a))) := rfl
theorem opGe_i : opGe (.int a) (.int b) = some (.bool (decide (b ≤ a))) := rfl
theorem opIsB_b {a b : Bool} : opIsB (.bool a) (.bool b) = some (.bool (decide (a = b))) := rfl
theorem opNotB_b {a b : Bool} : opNotB (.bool a) (.bool b) = some (.bool (!decide (a = b))) := rfl
theorem opIsN_n {d : PyData} : opIsN2 d .none = some (.bool (isN d)) := rfl
theorem opNotN_n {d : PyData} : opNotN2 d .none = some (.bool (!isN d)) := rfl
theorem opNeg_i : opNeg (.int a) = some (.int (-a)) := rfl
theorem bAbs_i : bAbs [.int a] = some (.int (if a < 0 then -a else a)) := rfl
theorem bMax_i : bMax [.int a, .int b] = some (.int (if b > a then b else a)) := rfl
theorem bMin_i : bMin [.int a, .int b] = some (.int (if b < a then b else a)) := rfl
theorem bInt_i : bInt [.int a] = some (.int a) := rfl
theorem bGcd_i : bGcd [.int a, .int b] = some (.int ((Nat.gcd a.natAbs b.natAbs : Nat) : Int)) := rfl
theorem bLen_l {xs : List PyData} : bLen [.list xs] = some (.int (xs.length : Int)) := rfl
theorem bLen_t {xs : List PyData} : bLen [.tuple xs] = some (.int (xs.length : Int)) := rfl
theorem opAdd_t {xs ys : List PyData} : opAdd (.tuple xs) (.tuple ys) = if xs.length + ys.length ≤ 100000 then some (.tuple (xs ++ ys)) else none := rfl
theorem opAdd_l {xs ys : List PyData} : opAdd (.list xs) (.list ys) = if xs.length + ys.length ≤ 100000 then some (.list (xs ++ ys)) else none := rfl
theorem opIx_l {xs : List PyData} : opIx (.list xs) (.int a) = atI xs a := rfl
theorem opIx_t {xs : List PyData} : opIx (.tuple xs) (.int a) = atI xs a := rfl
end
theorem opSl_t {xs : List PyData} {lo hi : Option Int} : opSl (.tuple xs) lo hi = some (.tuple (cutL xs lo hi)) := rfl
theorem opSl_l {xs : List PyData} {lo hi : Option Int} : opSl (.list xs) lo hi = some (.list (cutL xs lo hi)) := rfl
theorem opRev_t {xs : List PyData} : opRev (.tuple xs) = some (.tuple xs.reverse) := rfl
theorem opRev_l {xs : List PyData} : opRev (.list xs) = some (.list xs.reverse) := rfl
theorem bTup_l {xs : List PyData} : bTup [.list xs] = some (.tuple xs) := rfl
theorem bTup_t {xs : List PyData} : bTup [.tuple xs] = some (.tuple xs) := rfl
theorem bList_l {xs : List PyData} : bList [.list xs] = some (.list xs) := rfl
theorem bList_t {xs : List PyData} : bList [.tuple xs] = some (.list xs) := rfl
theorem cutL_all {α : Type} {p : α → Bool} {xs : List α} {lo hi : Option Int} (h : xs.all p = true) : (cutL xs lo hi).all p = true := by
  rw [List.all_eq_true] at h ⊢
  intro x hx
  exact h x (List.mem_of_mem_drop (List.mem_of_mem_take hx))
theorem cutL_len {α : Type} {xs : List α} {lo hi : Option Int} : (cutL xs lo hi).length ≤ xs.length := by
  unfold cutL
  rw [List.length_take, List.length_drop]
  omega
theorem opEq_b {a b : Bool} : opEq (.bool a) (.bool b) = some (.bool (a == b)) := by
  unfold opEq SeqAt.shaped
  simp [PyData.canLay0, PyData.depth, PyData.eqv]
theorem opNe_b {a b : Bool} : opNe (.bool a) (.bool b) = some (.bool (!(a == b))) := by
  unfold opNe SeqAt.shaped
  simp [PyData.canLay0, PyData.depth, PyData.eqv]
theorem opEq_nn : opEq .none .none = some (.bool true) := by
  unfold opEq SeqAt.shaped
  simp [PyData.canLay0, PyData.depth, PyData.eqv]
theorem mgCons_c {g : MG} {gs : MGs} {d : PyData} {r : List PyData} {sd : DSt} {Q : DSt → Prop} : mgCons g gs (d :: r) sd Q = g d sd fun s1 => gs r s1 Q := propext ⟨fun ⟨_, _, e, h⟩ => by cases e; exact h, fun h => ⟨_, _, rfl, h⟩⟩
theorem mgNil_n {sd : DSt} {Q : DSt → Prop} : mgNil [] sd Q = Q sd := propext ⟨fun h => h.2, fun h => ⟨rfl, h⟩⟩
theorem mgTup_t {n : Nat} {gs : MGs} {ds : List PyData} {sd : DSt} {Q : DSt → Prop} : mgTup n gs (.tuple ds) sd Q = (ds.length = n ∧ gs ds sd Q) := propext ⟨fun ⟨_, e, h⟩ => by cases e; exact h, fun h => ⟨_, rfl, h⟩⟩
theorem mgTup_l {n : Nat} {gs : MGs} {ds : List PyData} {sd : DSt} {Q : DSt → Prop} : mgTup n gs (.list ds) sd Q = (ds.length = n ∧ gs ds sd Q) := propext ⟨fun ⟨_, e, h⟩ => by cases e; exact h, fun h => ⟨_, rfl, h⟩⟩
theorem items_t {xs : List PyData} : items (.tuple xs) = some xs := rfl
theorem items_l {xs : List PyData} : items (.list xs) = some xs := rfl
theorem atI0 {α : Type} {x : α} {r : List α} : atI (x :: r) 0 = some x := by
  unfold atI ixN
  simp
theorem atI1 {α : Type} {x y : α} {r : List α} : atI (x :: y :: r) 1 = some y := by
  unfold atI ixN
  rw [if_pos (by decide), if_pos (by simp only [List.length_cons]; omega)]
  rfl
theorem atI2 {α : Type} {x y z : α} {r : List α} : atI (x :: y :: z :: r) 2 = some z := by
  unfold atI ixN
  rw [if_pos (by decide), if_pos (by simp only [List.length_cons]; omega)]
  rfl
theorem atI3 {α : Type} {x y z w : α} {r : List α} : atI (x :: y :: z :: w :: r) 3 = some w := by
  unfold atI ixN
  rw [if_pos (by decide), if_pos (by simp only [List.length_cons]; omega)]
  rfl
theorem atI_mem {α : Type} {xs : List α} {r : Int} (h0 : 0 ≤ r) (h1 : r < xs.length) : ∃ d ∈ xs, atI xs r = some d := by
  have hl : r.toNat < xs.length := by omega
  refine ⟨xs[r.toNat], List.getElem_mem _, ?_⟩
  unfold atI ixN
  rw [if_pos h0, if_pos h1]
  exact List.getElem?_eq_getElem hl
theorem big10 : (10 : Int).natAbs < 2 ^ 10000 := Nat.lt_of_lt_of_le (show (10 : Int).natAbs < 2 ^ 200 by decide +kernel) (Nat.pow_le_pow_right (by decide) (by decide))
theorem opEq_int {a b : Int} : opEq (.int a) (.int b) = some (.bool (decide (a = b))) := by
  unfold opEq SeqAt.shaped
  simp [PyData.canLay0, PyData.depth, PyData.eqv]
  by_cases h : a = b <;> simp [h]
theorem opNe_int {a b : Int} : opNe (.int a) (.int b) = some (.bool (!decide (a = b))) := by
  unfold opNe SeqAt.shaped
  simp [PyData.canLay0, PyData.depth, PyData.eqv]
  by_cases h : a = b <;> simp [h]
theorem opEq_str {a b : Str} : opEq (.str a) (.str b) = some (.bool (decide (a = b))) := by
  unfold opEq
  split
  · have e : PyData.eqv (.str a) (.str b) = decide (a = b) := by
      by_cases h : a = b <;> simp [PyData.eqv, h]
    rw [e]
  · rfl
theorem opNe_str {a b : Str} : opNe (.str a) (.str b) = some (.bool (!decide (a = b))) := by
  unfold opNe
  split
  · have e : PyData.eqv (.str a) (.str b) = decide (a = b) := by
      by_cases h : a = b <;> simp [PyData.eqv, h]
    rw [e]
  · rfl
end DL
namespace DL
open PySem
theorem lcL_run {mg : MG} {mt : MT} {me : ME} {vs : List Nat} {Q : List PyData → DSt → Prop} (I : DSt → Prop) (k : PyData → Option PyData) :
    ∀ ds : List PyData, (∀ d ∈ ds, ∀ s, I s → ∀ (Y : PyData → DSt → Prop) (N : DSt → Prop), (∀ y s3, k d = some y → I s3 → Y y s3) → (∀ s2, k d = none → I s2 → N s2) → mg d (swipe s vs) fun s1 => mt s1 fun b s2 => if b = true then me s2 Y else N s2) →
      ∀ s acc, I s → acc.length + ds.length ≤ 100000 → (∀ s', I s' → Q (acc ++ ds.filterMap k) s') → lcL mg mt me vs Q ds s acc
  | [], _, s, acc, i, _, q => by
    have := q s i
    rw [List.filterMap_nil, List.append_nil] at this
    exact this
  | d :: ds, h, s, acc, i, hl, q => by
    refine h d (by simp) s i _ _ (fun y s3 e i3 => ⟨by simp at hl; omega, ?_⟩) (fun s2 e i2 => ?_)
    · refine lcL_run I k ds (fun d' hd => h d' (by simp [hd])) s3 (acc ++ [y]) i3 (by simp at hl ⊢; omega) fun s' i' => ?_
      have := q s' i'
      rw [List.filterMap_cons_some e] at this
      simpa using this
    · refine lcL_run I k ds (fun d' hd => h d' (by simp [hd])) s2 acc i2 (by simp at hl; omega) fun s' i' => ?_
      have := q s' i'
      rwa [List.filterMap_cons_none e] at this
theorem forL_run {mg : MG} {body : MS} {D : DE} (I : List PyData → DSt → Prop) (hs : ∀ d r s (N : DSt → Prop), I (d :: r) s → (∀ s', I r s' → N s') → mg d s fun s1 => body { D with nx := N, ct := N, bk := D.nx } s1) (he : ∀ s, I [] s → D.nx s) : ∀ ds s, I ds s → forL mg body D ds s
  | [], s, i => he s i
  | d :: r, s, i => hs d r s _ i fun s' i' => forL_run I hs he r s' i'
theorem whileN_run {t : MT} {body : MS} {D : DE} (I : Nat → DSt → Prop) (hs : ∀ n s (N : DSt → Prop), I n s → (∀ m s', m < n → I m s' → N s') → t s fun b s1 => if b = true then body { D with nx := N, ct := N, bk := D.nx } s1 else D.nx s1) :
    ∀ (k n : Nat) (s : DSt), n < k → I n s → whileN t body D k s
  | 0, n, s, h, _ => by omega
  | k + 1, n, s, h, i => hs n s _ i fun m s' hm i' => whileN_run I hs k m s' (by omega) i'
theorem whileM {t : MT} {body : MS} {D : DE} (I : Nat → DSt → Prop) {n : Nat} {s : DSt} (i : I n s) (hs : ∀ n s (N : DSt → Prop), I n s → (∀ m s', m < n → I m s' → N s') → t s fun b s1 => if b = true then body { D with nx := N, ct := N, bk := D.nx } s1 else D.nx s1) : mWhile t body D s :=
  ⟨n + 1, whileN_run I hs (n + 1) n s (Nat.lt_succ_self n) i⟩
theorem sget_eq {s : DSt} : sget s 0 = match s with
  | [] => .no
  | x :: _ => x := by cases s <;> rfl
end DL
local macro_rules | `(tactic| walk_at "rdm") => `(tactic| simp only [DL.mSeq, DL.mAsg, DL.mAsgR, DL.mAsgM, DL.mrs, DL.ssets, DL.mIf, DL.mRet, DL.mRetN, DL.mrOf, DL.mrLst, DL.mrCat, DL.mrCall, DL.mDrop, DL.mNext, DL.mBreak, DL.mCont, DL.mC, DL.mVar, DL.mOp2, DL.mOp1, DL.mAnd, DL.mOr, DL.mNot, DL.mIfE, DL.mChain, DL.mNil, DL.mCons, DL.mTup, DL.mLst, DL.mCallB, DL.mDict0, DL.mPart, DL.mNoPart, DL.mSl, DL.mCall, DL.mCallK, DL.mCallW, DL.mLenScr, DL.mWell, DL.mT, DL.mTAnd, DL.mTOr, DL.mTNot, DL.mTYes, DL.mgName, DL.mgNil, DL.mgCons, DL.mgTup, DL.miSeq, DL.miRng1, DL.miRng2, DL.mRaise, DL.mApp, DL.mFor, DL.mLc, DL.mrLc, DL.sget, DL.sset, DL.slots0, DL.slotsW, DL.endP, DL.endW, DL.endL, DL.wF, DL.fz_va, DL.fz_own, List.length_cons, List.length_nil, List.map_cons, List.map_nil, List.replicate_succ, List.replicate_zero, Nat.reduceAdd, Nat.reduceSub, Nat.reduceLeDiff, List.cons_append, List.nil_append, Nat.zero_add, Nat.add_zero, Nat.sub_self, Option.some.injEq, PySem.PyData.bool.injEq, PySem.PyData.int.injEq, PySem.PyData.tuple.injEq, PySem.PyData.list.injEq, PySem.PyData.str.injEq, List.cons.injEq, DL.S.va.injEq, DL.S.own.injEq, DL.S.well.injEq, DL.S.scr.injEq, and_true, true_and, exists_eq_left', exists_eq_left, exists_eq_right, exists_eq_right', exists_and_left, exists_and_right, exists_eq, exists_eq', reduceCtorEq, false_and, and_false, exists_const, if_true, if_false, Bool.false_eq_true, reduceIte, Bool.not_true, Bool.not_false, DL.bIsi, List.any_cons, List.any_nil, Bool.or_false, Bool.or_true, Bool.false_or, Bool.true_or, DL.isK, DL.opAdd_i, DL.opSub_i, DL.opMul_i, DL.opMod_i, DL.opFdiv_i, DL.opPow_i, DL.opLt_i, DL.opLe_i, DL.opGt_i, DL.opGe_i, DL.opEq_int, DL.opNe_int, DL.opEq_str, DL.opNe_str, DL.opIsN_n, DL.opNotN_n, DL.isN, DL.opIsB_b, DL.opNotB_b, DL.opNeg_i, DL.bAbs_i, DL.bMax_i, DL.bMin_i, DL.bInt_i, DL.bGcd_i, DL.bLen_l, DL.bLen_t, DL.opAdd_t, DL.opAdd_l, DL.opIx_l, DL.opIx_t, DL.opSl_t, DL.opSl_l, DL.opRev_t, DL.opRev_l, DL.bList_l, DL.bList_t, DL.bTup_l, DL.bTup_t, DL.atI0, DL.atI1, DL.atI2, DL.atI3])
local macro_rules | `(tactic| walk_at "rdn") => `(tactic| simp only [DL.mSeq, DL.mAsg, DL.mAsgR, DL.mAsgM, DL.mrs, DL.ssets, DL.mIf, DL.mRet, DL.mRetN, DL.mrOf, DL.mrLst, DL.mrCat, DL.mrCall, DL.mDrop, DL.mNext, DL.mBreak, DL.mCont, DL.mC, DL.mVar, DL.mOp2, DL.mOp1, DL.mAnd, DL.mOr, DL.mNot, DL.mIfE, DL.mChain, DL.mNil, DL.mCons, DL.mTup, DL.mLst, DL.mCallB, DL.mDict0, DL.mPart, DL.mNoPart, DL.mSl, DL.mCall, DL.mCallK, DL.mCallW, DL.mLenScr, DL.mWell, DL.mT, DL.mTAnd, DL.mTOr, DL.mTNot, DL.mTYes, DL.mgName, DL.mgNil_n, DL.mgCons_c, DL.mgTup_t, DL.mgTup_l, DL.miSeq, DL.miRng1, DL.miRng2, DL.mRaise, DL.mApp, DL.mFor, DL.mLc, DL.mrLc, DL.sget, DL.sset, DL.slots0, DL.slotsW, DL.endP, DL.endW, DL.endL, DL.wF, DL.fz_va, DL.fz_own, List.length_cons, List.length_nil, List.map_cons, List.map_nil, List.replicate_succ, List.replicate_zero, Nat.reduceAdd, Nat.reduceSub, Nat.reduceLeDiff, List.cons_append, List.nil_append, Nat.zero_add, Nat.add_zero, Nat.sub_self, Option.some.injEq, PySem.PyData.bool.injEq, PySem.PyData.int.injEq, PySem.PyData.tuple.injEq, PySem.PyData.list.injEq, PySem.PyData.str.injEq, List.cons.injEq, DL.S.va.injEq, DL.S.own.injEq, DL.S.well.injEq, DL.S.scr.injEq, and_true, true_and, exists_eq_left', exists_eq_left, exists_eq_right, exists_eq_right', exists_and_left, exists_and_right, exists_eq, exists_eq', reduceCtorEq, false_and, and_false, exists_const, if_true, if_false, Bool.false_eq_true, reduceIte, Bool.not_true, Bool.not_false, DL.bIsi, List.any_cons, List.any_nil, Bool.or_false, Bool.or_true, Bool.false_or, Bool.true_or, DL.isK, DL.opAdd_i, DL.opSub_i, DL.opLt_i, DL.opLe_i, DL.opGt_i, DL.opGe_i, DL.opEq_int, DL.opNe_int, DL.opEq_b, DL.opNe_b, DL.opEq_nn, beq_self_eq_true, DL.opEq_str, DL.opNe_str, DL.opIsN_n, DL.opNotN_n, DL.isN, DL.opIsB_b, DL.opNotB_b, DL.opNeg_i, DL.bAbs_i, DL.bMax_i, DL.bMin_i, DL.bInt_i, DL.bGcd_i, DL.bLen_l, DL.bLen_t, DL.opAdd_t, DL.opAdd_l, DL.opIx_l, DL.opIx_t, DL.opSl_t, DL.opSl_l, DL.opRev_t, DL.opRev_l, DL.bList_l, DL.bList_t, DL.bTup_l, DL.bTup_t, DL.atI0, DL.atI1, DL.atI2, DL.atI3, DL.items_t, DL.items_l])
namespace DL
open PySem
theorem bools_map {α : Type} (f : α → Bool) : ∀ xs : List α, bools (xs.map fun x => .bool (f x)) = some (xs.map f)
  | [] => rfl
  | x :: xs => by
    show (bools (xs.map fun x => .bool (f x))).map (f x :: ·) = _
    rw [bools_map f xs]
    rfl
theorem fm_some {α β : Type} (f : α → β) : ∀ xs : List α, xs.filterMap (fun d => some (f d)) = xs.map f
  | [] => rfl
  | x :: xs => by
    rw [List.filterMap_cons]
    simp [fm_some f xs]
end DL
namespace DL
open PySem
/-- a number of at most k binary digits -/
def sz (k : Nat) (z : Int) : Prop := z.natAbs < 2 ^ k
theorem sz_mono {k l : Nat} {z : Int} (h : sz k z) (hl : k ≤ l) : sz l z := Nat.lt_of_lt_of_le h (Nat.pow_le_pow_right (by decide) hl)
theorem sz_neg {k : Nat} {z : Int} (h : sz k z) : sz k (-z) := by
  unfold sz at *
  rwa [Int.natAbs_neg]
theorem sz_mul {k l : Nat} {a b : Int} (ha : sz k a) (hb : sz l b) : sz (k + l) (a * b) := by
  unfold sz at *
  rw [Int.natAbs_mul, Nat.pow_add]
  exact Nat.mul_lt_mul'' ha hb
theorem sz_add {k : Nat} {a b : Int} (ha : sz k a) (hb : sz k b) : sz (k + 1) (a + b) := by
  unfold sz at *
  have := Int.natAbs_add_le a b
  rw [Nat.pow_succ]
  omega
theorem sz_sub {k : Nat} {a b : Int} (ha : sz k a) (hb : sz k b) : sz (k + 1) (a - b) := by
  rw [Int.sub_eq_add_neg]
  exact sz_add ha (sz_neg hb)
theorem sz_le {k : Nat} {a b : Int} (hb : sz k b) (h : a.natAbs ≤ b.natAbs) : sz k a := Nat.lt_of_le_of_lt h hb
theorem sz_mod {k : Nat} {a b : Int} (hb : sz k b) (h : 0 < b) : sz k (a % b) := by
  have h1 := Int.emod_nonneg a (show b ≠ 0 by omega)
  have h2 := Int.emod_lt_of_pos a h
  exact sz_le hb (by omega)
theorem natAbs_div_le (a : Int) {b : Int} (h : 0 < b) : (a / b).natAbs ≤ a.natAbs := Int.natAbs_ediv_le_natAbs a b
theorem sz_div {k : Nat} {a b : Int} (ha : sz k a) (h : 0 < b) : sz k (a / b) := sz_le ha (natAbs_div_le a h)
theorem sz_log {k : Nat} {z : Int} (h : sz k z) : z.natAbs.log2 ≤ k := by
  by_cases h0 : z.natAbs = 0
  · rw [h0, show Nat.log2 0 = 0 by decide]
    exact Nat.zero_le _
  · exact Nat.le_of_lt ((Nat.log2_lt h0).mpr h)
theorem small_sz {a b : Int} {k l : Nat} (ha : sz k a) (hb : sz l b) (h : k + l < 1000000) : small a b = true := by
  have := sz_log ha
  have := sz_log hb
  exact decide_eq_true (by omega)
theorem opMul_ok {a b : Int} {k l : Nat} (ha : sz k a) (hb : sz l b) (h : k + l < 1000000) : opMul (.int a) (.int b) = some (.int (a * b)) := by rw [opMul_i, if_pos (small_sz ha hb h)]
theorem opMod_ok {a b : Int} (h : 0 < b) : opMod (.int a) (.int b) = some (.int (a % b)) := by rw [opMod_i, if_pos h]
theorem opFdiv_ok {a b : Int} {k : Nat} (h : 0 < b) (hb : sz k b) (hk : k < 9000) : opFdiv (.int a) (.int b) = some (.int (a / b)) := by
  have := sz_log hb
  rw [opFdiv_i, if_pos ⟨h, by omega⟩]
end DL
namespace DL
open PySem PySem.Spec PyProof.Rows L2
/-- body; an error of a class that is caught: the suite, with the error in slot i; else on -/
def mTry (body : WD → MS) (i : Nat) (cat : String → Bool) (suite : String → Addr → MS) (Wout : WD) : MS := fun D sd =>
  body (fun c sd' => (cat c = true → ∀ a, suite c a { nx := fun s => D.nx (sset s i .no), rt := D.rt, bk := fun s => D.bk (sset s i .no), ct := fun s => D.ct (sset s i .no) } (sset sd' i (.exc a))) ∧ (cat c = false → Wout c sd')) D sd
/-- isinstance(e, ..), e what slot i holds, at a -/
def mIsE (i : Nat) (a : Addr) (b : Bool) : ME := fun sd Q => sget sd i = .exc a ∧ Q (.bool b) sd
/-- from F on -/
abbrev Ct.on (C : Ct) (F : Hp) : Ct := { C with F0 := F }
section
variable {K : PySem.W.Frag} {X : Cx} {C : Ct} {F H F1 : Hp} {σ : L2.St} {sd : DSt}
theorem slot_on {v : Option V} {s : S} : SlotOk K (C.on F1) F H v s ↔ SlotOk K C F H v s := by cases s <;> exact Iff.rfl
theorem Rs.on (R : Rs K C F H σ sd) : Rs K (C.on F) F H σ sd :=
  ⟨R.len, Same.refl _, R.ext, fun _ _ e => .inl e, R.keep, R.still, fun i => slot_on.mpr (R.slot i), R.sep⟩
theorem Rs.off {F0 H0 : Hp} {σ0 : L2.St} {sd0 : DSt} (R0 : Rs K C F0 H0 σ0 sd0) (R : Rs K (C.on F0) F H σ sd) : Rs K C F H σ sd :=
  ⟨R.len, R0.grow.trans R.grow, R.ext, fun a o e => (R.new a o e).elim (fun z => R0.new a o z) .inr, R.keep, R.still, fun i => slot_on.mp (R.slot i), R.sep⟩
theorem EndOk.on {Dd : DE} {D : Ends} (R : Rs K C F H σ sd) (E : EndOk K C F Dd D) : EndOk K (C.on F) F Dd D :=
  ⟨fun F1 H1 σ1 sd1 e R1 q => E.nx F1 H1 σ1 sd1 e (R.off R1) q, fun F1 H1 σ1 sd1 v r e R1 rv o q => E.rt F1 H1 σ1 sd1 v r e (R.off R1) (slot_on.mp rv) o q, fun F1 H1 σ1 sd1 e R1 q => E.bk F1 H1 σ1 sd1 e (R.off R1) q, fun F1 H1 σ1 sd1 e R1 q => E.ct F1 H1 σ1 sd1 e (R.off R1) q⟩
variable {CN : String → Option Addr}
/-- the suite's wish, whatever the class is -/
def tSuite (K : PySem.W.Frag) (C : Ct) (CN : String → Option Addr) (suite : String → Addr → MS) : Addr → Value → Option Addr → TS := fun a cls d D σ H => ∃ c A, CN c = some A ∧ cls = .ref A ∧ d = none ∧ tDS K C (suite c a) D σ H
def tBody (K : PySem.W.Frag) (C : Ct) (CN : String → Option Addr) (mb : WD → MS) : WX → TS := fun W D σ H => ∃ F Wd, (∀ cls d σ H, wD K (C.on F) CN Wd cls d σ H → W cls d σ H) ∧ tDS K (C.on F) (mb Wd) D σ H
theorem td_try {hc : Value} {i : Nat} {cat : String → Bool} {mb : WD → MS} {suite : String → Addr → MS} {Wout : WD} (hx : ∀ c A, CN c = some A → PySem.W.exmOne K (.ref A) hc = some (cat c)) :
    ∀ D σ H, tDS K C (mTry mb i cat suite Wout) D σ H → tBody K C CN mb (wAs K hc i (tSuite K C CN suite) (wD K C CN Wout) D) D σ H := by
  rintro D σ H ⟨F, sd, Dd, R, E, h⟩
  refine ⟨F, _, ?_, F, sd, Dd, R.on, E.on R, h⟩
  rintro cls d σ1 H1 ⟨c, A, F1, sd1, hcn, rfl, rfl, R1, q1, q2⟩
  have R2 := R.off R1
  refine ⟨cat c, hx c A hcn, fun hb a ha => ⟨c, A, hcn, rfl, rfl, F1, _, _, R2.setr (v := .ref a) (r := .exc a) rfl (fun z => nomatch z), ?_, q1 hb a⟩, fun hb => ⟨c, A, F1, sd1, hcn, rfl, rfl, R2, q2 hb⟩⟩
  have E2 := E.mono R1.grow
  exact ⟨fun F3 H3 σ3 sd3 e R3 q => E2.nx F3 H3 _ _ e R3.setno q, E2.rt, fun F3 H3 σ3 sd3 e R3 q => E2.bk F3 H3 _ _ e R3.setno q, fun F3 H3 σ3 sd3 e R3 q => E2.ct F3 H3 _ _ e R3.setno q⟩
variable {x n : Str} {c : Value} {i : Nat} {body suite : List Stmt} {b₀ : Stmt} {np pos pos' : Pos}
theorem pds_try {hc : Value} {cat : String → Bool} {mb : WD → MS} {ms : String → Addr → MS} {Wout : WD} (hs : X.stack = X.env :: X.outer) (hf : X.env.frame = some X.env.locals) (hN : X.N.Nodup) (hi : X.N[i]? = some n) (hln : X.env.kindOf n = some .local) (hcn : Names X x hc) (tk : Takes X (wD X.K C CN Wout))
    (hx : ∀ c A, CN c = some A → PySem.W.exmOne X.K (.ref A) hc = some (cat c))
    (hb : ∀ (F : Hp) (Wd : WD) (pn : List (Addr × Obj)) (xe : Value → Shared → Prop), Takes (X.tr pn xe) (wD X.K (C.on F) CN Wd) → PassesOwn (model X.prog X.w) X.A X.env xe → PSs (X.tr pn xe) body (tDS X.K (C.on F) (mb Wd)))
    (hsu : ∀ (a : Addr) (oe : Obj) (pn : List (Addr × Obj)) (c : String) (A : Addr), CN c = some A → Zc (.ref A) none oe → (∃ vs, oe.data = .fields vs) → PSs (X.suite a ((a, oe) :: pn)) (b₀ :: suite) (tDS X.K C (ms c a))) :
    PS X (.Try body [.ExceptHandler (some (.Name x np)) (some n) (b₀ :: suite) pos'] [] [] pos) (tDS X.K C (mTry mb i cat ms Wout)) := by
  refine ps_imp (ps_try_as (ts := tSuite X.K C CN ms) (tb := tBody X.K C CN mb) hs hf hN hi hln hcn tk (fun W pn xe tk' po => ?_) (fun a oe cls d pn hz hfl => ?_)) (td_try hx)
  · refine ⟨fun pins s σ H D I h => ?_⟩
    obtain ⟨F, Wd, hw, h⟩ := h
    exact (hb F Wd pn xe (tk'.imp hw) po).run pins s σ H D I h
  · refine ⟨fun pins s σ H D I h => ?_⟩
    obtain ⟨c, A, hA, rfl, rfl, h⟩ := h
    exact (hsu a oe pn c A hA hz hfl).run pins s σ H D I h
/-- isinstance(n, T) in a suite -/
theorem pd_isE {a A : Addr} {oe : Obj} {pn : List (Addr × Obj)} {i : Nat} {y : Str} {p p2 pos : Pos} {b : Bool} {tv : V} {cv : Value} {te : Expr} (EC : ExcC X.K A) (hz : Zc (.ref A) none oe) (hfl : ∃ vs, oe.data = .fields vs) (hm : X.mg "isinstance" = none)
    (hk : PySem.W.kitOne X.K (.ref A) cv = some b) (hcv : ∀ u, RelV tv u → u = cv) (hN : (X.suite a ((a, oe) :: pn)).N[i]? = some y) (hv : Vis (X.suite a ((a, oe) :: pn)).env.scope y) (hT : PE (X.suite a ((a, oe) :: pn)) te (tC tv))
    (hg : Gl (X.suite a ((a, oe) :: pn)) "isinstance" := by rfl) (hd : (y == ("__debug__" : Str)) = false := by decide) (hcd : (y == ("__classdict__" : Str)) = false := by decide)
    (he : starEach (.Name y p2 :: [te]) X.env = (false, eval (.Name y p2) X.env) :: starEach [te] X.env := by rfl) (he1 : starEach (te :: []) X.env = (false, eval te X.env) :: starEach [] X.env := by rfl) (hpl : (backTo pos (starEach [te] X.env)).any (·.1) = false := by rfl) :
    PE (X.suite a ((a, oe) :: pn)) (.Call (.Name "isinstance" p) [.Name y p2, te] [] pos) (tD X.K C (mIsE i a b)) := pe_imp (pe_callB (call_isE EC hz hfl) hg hm (by decide +kernel) (pa_cons (pe_var hN hv hd hcd) (pa_cons hT pa_nil he1) he) (by decide) (by decide) he hpl) (by
  rintro σ H Q ⟨F, sd, Qd, R, ⟨hs, h⟩, k⟩
  have hi := R.slot i
  rw [hs] at hi
  refine ⟨.ref a, gv_some.mp hi, tv, cv, b, rfl, hcv, hk, ?_⟩
  exact k _ H F _ sd R .refl (.bl _) h)
end
end DL
namespace DL
open PySem PySem.Spec PyProof.Rows L2
/-- xs.f(x) -/
def mMeth (f : List PyData → PyData → Option PyData) (ma mb : ME) : ME := fun sd Q => ma sd fun a s1 => ∃ xs, a = .list xs ∧ mb s1 fun b s2 => ∃ r, f xs b = some r ∧ Q r s2
def opCnt (xs : List PyData) (b : PyData) : Option PyData := if (flatD b && xs.all flatD) = true then some (.int (xs.countP (fun d => PyData.eqv d b) : Nat)) else none
def firstAt (b : PyData) : List PyData → Option Nat
  | [] => none
  | d :: ds => if PyData.eqv d b = true then some 0 else (firstAt b ds).map (· + 1)
def opIdx (xs : List PyData) (b : PyData) : Option PyData := if (flatD b && xs.all flatD) = true then (firstAt b xs).map fun n => .int (n : Nat) else none
section
variable {K : PySem.W.Frag} {X : Cx} {C : Ct}
def rCntF (K : PySem.W.Frag) : V → List V → Hp → VK → Prop := fun x xs H Q => ∃ (p : Addr) (ys : List V) (y : V), x = .ref p ∧ xs = [y] ∧ SqL K H p ys ∧ flatV y = true ∧ ys.all flatV = true ∧ Q (.int (ys.countP (fun z => eqV z y) : Nat)) H
theorem countU {y : V} : ∀ {ys : List V} {us : List Value}, Vals ys us → ys.all flatV = true → us.countP (eqU y) = ys.countP (fun z => eqV z y)
  | _, _, .nil, _ => rfl
  | z :: ys, u :: us, .cons r rr, f => by
    rw [List.all_cons, Bool.and_eq_true] at f
    rw [List.countP_cons, List.countP_cons, countU rr f.2, eqU_of r f.1]
theorem mt_countF : MtR X "list.count" (rCntF X.K) := by
  intro pins s σ H x xs v us Q I rx rxs h
  obtain ⟨p, ys, y, rfl, rfl, hs, fy, fys, q⟩ := h
  cases rx
  obtain ⟨u, rfl, ru⟩ := rxs.one
  obtain ⟨its, rv, ⟨⟨cls, dd, data, sl⟩, n, ho, hc, hdn, hd⟩, hlen⟩ := I.list hs
  simp only at hc hd
  subst hc hd
  refine call_meets PySem.F.slot_list_count ⟨_, ho, rfl⟩ PySem.F.entry_list_count (PySem.F.args_list_count_2 _ _) (SeqAt.list_countAt p its.toArray n dd sl u (eqU y)) ⟨ho, fun u' hu' => mem_eqAt ru fy rv fys u' (by simpa using hu'), ?_⟩
  have ec : its.toArray.toList.countP (eqU y) = ys.countP (fun z => eqV z y) := countU rv fys
  refine ⟨.int (ys.countP (fun z => eqV z y) : Nat), H, I.tok _, ⟨s.toks, ?_⟩, q⟩
  show Value.int ((its.toArray.toList.countP (eqU y) : Nat) : Int) s.toks = _
  rw [ec]
theorem flats_rp {F : Hp} : ∀ {vs : List V} {ds : List PyData}, RpA K F vs ds → ds.all flatD = true → vs.all flatV = true
  | _, _, .nil, _ => rfl
  | v :: vs, d :: ds, .cons h r, hf => by
    rw [List.all_cons, Bool.and_eq_true] at hf
    rw [List.all_cons, flatV_rp h hf.1, flats_rp r hf.2]
    rfl
theorem count_rp {F : Hp} {y : V} {b : PyData} (ry : Rp K F y b) (hb : flatD b = true) : ∀ {vs : List V} {ds : List PyData}, RpA K F vs ds → ds.all flatD = true → vs.countP (fun z => eqV z y) = ds.countP (fun d => PyData.eqv d b)
  | _, _, .nil, _ => rfl
  | v :: vs, d :: ds, .cons h r, hf => by
    rw [List.all_cons, Bool.and_eq_true] at hf
    rw [List.countP_cons, List.countP_cons, count_rp ry hb r hf.2, eqV_rp h ry hf.1 hb]
theorem first_rp {F : Hp} {y : V} {b : PyData} (ry : Rp K F y b) (hb : flatD b = true) : ∀ {vs : List V} {ds : List PyData} {n : Nat}, RpA K F vs ds → ds.all flatD = true → firstAt b ds = some n →
    ∃ z, vs[n]? = some z ∧ eqV z y = true ∧ ∀ (m : Nat) (z' : V), m < n → vs[m]? = some z' → eqV z' y = false
  | _, _, _, .nil, _, e => by cases e
  | v :: vs, d :: ds, n, .cons h r, hf, e => by
    rw [List.all_cons, Bool.and_eq_true] at hf
    unfold firstAt at e
    by_cases c : PyData.eqv d b = true
    · rw [if_pos c] at e
      cases e
      exact ⟨v, rfl, (eqV_rp h ry hf.1 hb).trans c, fun m z' hm _ => by omega⟩
    · rw [if_neg c] at e
      obtain ⟨k, hk, rfl⟩ := Option.map_eq_some_iff.mp e
      obtain ⟨z, z1, z2, z3⟩ := first_rp ry hb r hf.2 hk
      refine ⟨z, by simpa using z1, z2, fun m z' hm hz => ?_⟩
      cases m with
      | zero =>
        cases hz
        rw [eqV_rp h ry hf.1 hb]
        simpa using c
      | succ m => exact z3 m z' (by omega) (by simpa using hz)
theorem td_meth {r : V → List V → Hp → VK → Prop} {f : List PyData → PyData → Option PyData} {ma mb : ME}
    (L : ∀ (F H : Hp) (p : Addr) (vs : List V) (ds : List PyData) (y : V) (b z : PyData) (Q : VK), Same F H → F p = some (.lst vs) → RpA K F vs ds → Rp K F y b → f ds b = some z → (∀ v, Rp K F v z → Q v H) → r (.ref p) [y] H Q) :
    ∀ σ H Q, tD K C (mMeth f ma mb) σ H Q → tBM K "list" r (tD K C ma) (tCons (tD K C mb) tNil) σ H Q := by
  rintro σ H Q ⟨F, sd, Qd, R, h, k⟩
  refine ⟨F, sd, _, R, h, fun x H1 F1 a sd1 R1 S1 rx h1 => ?_⟩
  obtain ⟨xs, rfl, h1⟩ := h1
  cases rx with
  | lst hp ra =>
    refine ⟨.inl ⟨rfl, _, .inl (.inl (R1.ext _ _ hp))⟩, F1, sd1, _, R1, h1, fun y H2 F2 b sd2 R2 S2 ry h2 => ?_⟩
    obtain ⟨z, e, q⟩ := h2
    exact L F2 H2 _ _ xs y b z Q R2.ext (S2.fr _ _ hp) (ra.mono S2.fr) ry e fun v rz => k v H2 F2 z sd2 R2 (S1.trans S2) rz q
variable {o e : Expr} {apos cpos : Pos} {ma mb : ME}
theorem pd_count (ho : PE X o (tD X.K C ma)) (he : PE X e (tD X.K C mb)) (t : PE X (.Call (.Attribute o "count" apos) [e] [] cpos) (tBM X.K "list" (rCntF X.K) (tD X.K C ma) (tCons (tD X.K C mb) tNil))) : PE X (.Call (.Attribute o "count" apos) [e] [] cpos) (tD X.K C (mMeth opCnt ma mb)) := pe_imp t (td_meth (by
  intro F H p vs ds y b z Q e hp ra ry h k
  unfold opCnt at h
  split at h
  · rename_i hc
    cases h
    rw [Bool.and_eq_true] at hc
    refine ⟨p, vs, y, rfl, rfl, .inl (.inl (e _ _ hp)), flatV_rp ry hc.1, flats_rp ra hc.2, ?_⟩
    rw [count_rp ry hc.1 ra hc.2]
    exact k _ (.int _)
  · cases h))
theorem pd_index (ho : PE X o (tD X.K C ma)) (he : PE X e (tD X.K C mb)) (t : PE X (.Call (.Attribute o "index" apos) [e] [] cpos) (tBM X.K "list" (rIndex X.K) (tD X.K C ma) (tCons (tD X.K C mb) tNil))) : PE X (.Call (.Attribute o "index" apos) [e] [] cpos) (tD X.K C (mMeth opIdx ma mb)) := pe_imp t (td_meth (by
  intro F H p vs ds y b z Q e hp ra ry h k
  unfold opIdx at h
  split at h
  · rename_i hc
    rw [Bool.and_eq_true] at hc
    obtain ⟨n, hn, rfl⟩ := Option.map_eq_some_iff.mp h
    obtain ⟨z, z1, z2, z3⟩ := first_rp ry hc.1 ra hc.2 hn
    exact ⟨p, vs, y, n, z, rfl, rfl, .inl (.inl (e _ _ hp)), flatV_rp ry hc.1, flats_rp ra hc.2, z1, z2, z3, k _ (.int _)⟩
  · cases h))
end
end DL
namespace DL
open PySem PySem.Spec PyProof.Rows L2
/-- x[k] = e, x a slot that owns its list -/
def mSet (i : Nat) (mi me : ME) : MS := fun D sd => me sd fun v s1 => (∃ ds, sget s1 i = .own ds) ∧ mi s1 fun k s2 => ∃ ds j n, sget s2 i = .own ds ∧ k = .int j ∧ DL.ixN ds.length j = some n ∧ D.nx (sset s2 i (.own (ds.set n v)))
/-- list(e), a list that nobody else holds -/
def mrListOf (me : ME) : MR := fun sd Q => me sd fun d s1 => ∃ ds, items d = some ds ∧ Q (.own ds) s1
theorem RpA.set {K : PySem.W.Frag} {F : Hp} {v : V} {d : PyData} (q : Rp K F v d) : ∀ {vs : List V} {ds : List PyData} (n : Nat), RpA K F vs ds → RpA K F (vs.set n v) (ds.set n d)
  | _, _, _, .nil => .nil
  | _, _, 0, .cons _ r => .cons q r
  | _, _, n + 1, .cons h r => .cons h (RpA.set q n r)
/-- a; b, by what holds between them -/
theorem seq_run {a b : MS} {D : DE} {sd : DSt} (P : DSt → Prop) (h1 : ∀ N : DSt → Prop, (∀ s, P s → N s) → a { D with nx := N } sd) (h2 : ∀ s, P s → b D s) : mSeq a b D sd := h1 _ h2
/-- if t: a else b, where t is known to say c -/
theorem if_run {t : MT} {a b : MS} {D : DE} {sd : DSt} (c : Bool) (ht : ∀ Q : Bool → DSt → Prop, Q c sd → t sd Q) (ha : c = true → a D sd) (hb : c = false → b D sd) : mIf t a b D sd := ht _ (by
  cases c with
  | true => exact ha rfl
  | false => exact hb rfl)
/-- x = e, where e is known to be d -/
theorem asg_run {e : ME} {i : Nat} {D : DE} {sd : DSt} (d : PyData) (he : ∀ Q : PyData → DSt → Prop, Q d sd → e sd Q) (h : D.nx (sset sd i (.va d))) : mAsg e (mgName i) D sd := he _ h
theorem opIn_2 {x a b : Int} : opIn (.int x) (.tuple [.int a, .int b]) = some (.bool (decide (a = x) || decide (b = x))) := by
  simp [opIn, opInS, items, flatD, PyData.eqv]
  congr 1 <;> exact decide_eq_decide.mpr Iff.rfl
theorem opNotIn_2 {x a b : Int} : opNotIn (.int x) (.tuple [.int a, .int b]) = some (.bool (!(decide (a = x) || decide (b = x)))) := by
  simp [opNotIn, opInS, items, flatD, PyData.eqv]
  congr 1 <;> exact decide_eq_decide.mpr Iff.rfl
section
variable {K : PySem.W.Frag} {X : Cx} {C : Ct}
theorem pds_setIx {i : Nat} {tg e : Expr} {pos : Pos} {mi me : ME} (t : PS X (.Assign [tg] e pos) (tAsg (tD X.K C me) (gSub (tVar i) (tD X.K C mi) rSetL))) : PS X (.Assign [tg] e pos) (tDS X.K C (mSet i mi me)) := ps_imp t (by
  rintro D σ H ⟨F, sd, Dd, R, E, h⟩
  refine ⟨F, sd, _, R, h, fun v H1 F1 d sd1 R1 S1 rv hh => ?_⟩
  obtain ⟨⟨ds0, h0⟩, h2⟩ := hh
  have hi := R1.slot i
  rw [h0] at hi
  obtain ⟨q, vs, e1, e2, e3, e4, r⟩ := hi
  refine ⟨.ref q, gv_some.mp e1, F1, sd1, _, R1, h2, fun k H2 F2 kd sd2 R2 S2 rk h3 => ?_⟩
  obtain ⟨ds, j, n, g1, rfl, g2, hnx⟩ := h3
  cases rk
  have hi2 := R2.slot i
  rw [g1] at hi2
  obtain ⟨q', vs2, z1, z2, z3, z4, r2⟩ := hi2
  rw [e1] at z1; cases z1
  refine ⟨q, vs2, j, n, rfl, rfl, z2, by rw [r2.length]; exact g2, ?_⟩
  exact E.nx F2 _ σ _ (S1.fr.trans S2.fr) (R2.setOwn g1 e1 (RpA.set (rv.mono S2.fr) n r2)) hnx)
theorem pdr_listOf {e : Expr} {x : Str} {p pos : Pos} {me : ME} (hm : X.mg x = none) (hv : bootBuiltins x = some (.type "list"))
    (ha : PE X e (tD X.K C me)) (hg : Gl X x := by rfl) (hn : x ≠ "__name__" := by decide) (hdb : (x == ("__debug__" : Str)) = false := by decide)
    (he1 : starEach [e] X.env = (false, eval e X.env) :: starEach [] X.env := by rfl) (hpl : (backTo pos (starEach [] X.env)).any (·.1) = false := by rfl) : PE X (.Call (.Name x p) [e] [] pos) (tDR X.K C (mrListOf me)) :=
  pe_imp (pe_callTy call_list_of hg hm hv (pa_cons ha pa_nil he1) hn hdb he1 hpl) (by
  rintro σ H Q ⟨F, sd, Qd, R, h, k⟩
  refine ⟨F, sd, _, R, h, fun v H1 F1 d sd1 R1 S1 rv hh => ?_⟩
  obtain ⟨ds, hd, q⟩ := hh
  cases d with
  | list xs =>
    cases hd
    cases rv with
    | lst h1 r1 => exact ⟨_, _, rfl, .inl (.inl (.inl (R1.ext _ _ h1))), fun l hl => k (.ref l) _ F1 (.own _) sd1 (R1.allocH hl) (S1.trans ⟨Same.refl _, fun x o e _ => same_new hl x o e, fun _ z => z, fun _ _ z => .inl z, fun x e => by
        by_cases z : x = l
        · subst z; exact hl
        · rw [upd_ne z] at e; exact e⟩) ⟨l, _, rfl, upd_same, R1.free hl, R1.still l hl, r1⟩ (fun _ w ew ow => by
          cases ew
          obtain ⟨i, o1, o2⟩ := ow
          have hi := R1.slot i
          generalize hs : sget sd1 i = s at hi o1
          cases s with
          | own es => obtain ⟨p2, vs2, a1, a2, _⟩ := hi; rw [o2] at a1; cases a1; rw [hl] at a2; cases a2
          | ins c fs => obtain ⟨p2, _, _, _, a1, a2, _⟩ := hi; rw [o2] at a1; cases a1; rw [hl] at a2; cases a2
          | well m => obtain ⟨p2, _, _, _, a1, a2, _⟩ := hi; rw [o2] at a1; cases a1; rw [hl] at a2; cases a2
          | _ => cases o1) (fun _ w ew => by
          cases ew
          exact S1.st l hl) q⟩
  | tuple xs =>
    cases hd
    cases rv with
    | tup h1 r1 => exact ⟨_, _, rfl, .inr (same_t R1.ext h1), fun l hl => k (.ref l) _ F1 (.own _) sd1 (R1.allocH hl) (S1.trans ⟨Same.refl _, fun x o e _ => same_new hl x o e, fun _ z => z, fun _ _ z => .inl z, fun x e => by
        by_cases z : x = l
        · subst z; exact hl
        · rw [upd_ne z] at e; exact e⟩) ⟨l, _, rfl, upd_same, R1.free hl, R1.still l hl, r1⟩ (fun _ w ew ow => by
          cases ew
          obtain ⟨i, o1, o2⟩ := ow
          have hi := R1.slot i
          generalize hs : sget sd1 i = s at hi o1
          cases s with
          | own es => obtain ⟨p2, vs2, a1, a2, _⟩ := hi; rw [o2] at a1; cases a1; rw [hl] at a2; cases a2
          | ins c fs => obtain ⟨p2, _, _, _, a1, a2, _⟩ := hi; rw [o2] at a1; cases a1; rw [hl] at a2; cases a2
          | well m => obtain ⟨p2, _, _, _, a1, a2, _⟩ := hi; rw [o2] at a1; cases a1; rw [hl] at a2; cases a2
          | _ => cases o1) (fun _ w ew => by
          cases ew
          exact S1.st l hl) q⟩
  | _ => cases hd)
end
end DL
namespace DL
open PySem PySem.Spec PyProof.Rows L2
def bLcm : List PyData → Option PyData
  | [.int i, .int j] => if i.natAbs.log2 < 13000 ∧ j.natAbs.log2 < 13000 then some (.int ((Nat.lcm i.natAbs j.natAbs : Nat) : Int)) else none
  | _ => none
def ints? : List PyData → Option (List Int)
  | [] => some []
  | .int i :: r => (ints? r).map (i :: ·)
  | _ :: _ => none
def bSum : List PyData → Option PyData
  | [.list xs] => (ints? xs).map fun ns => .int ns.sum
  | [.tuple xs] => (ints? xs).map fun ns => .int ns.sum
  | _ => none
section
variable {K : PySem.W.Frag} {X : Cx} {C : Ct}
def rLcm : List V → Hp → VK → Prop := fun vs H Q => ∃ a b : Int, vs = [.int a, .int b] ∧ (a.natAbs.log2 < 13000 ∧ b.natAbs.log2 < 13000) ∧ Q (.int ((Nat.lcm a.natAbs b.natAbs : Nat) : Int)) H
theorem max_log {a b k : Nat} (ha : a.log2 < k) (hb : b.log2 < k) : (max a b).log2 < k := by
  rcases Nat.le_total a b with h | h
  · rw [Nat.max_eq_right h]; exact hb
  · rw [Nat.max_eq_left h]; exact ha
theorem cr_lcm : CallR X (.builtin "math.lcm") rLcm := by
  intro pins s σ H vs us Q I r h
  obtain ⟨a, b, rfl, ⟨l1, l2⟩, q⟩ := h
  obtain ⟨t, u, rfl⟩ := Vals.int2 r
  have h1 : (max 1 a.natAbs).log2 < 13000 := max_log (by decide) l1
  have h2 : (max a.natAbs b.natAbs).log2 < 13000 := max_log l1 l2
  have e : ((Nat.lcm 1 a.natAbs).lcm b.natAbs) = Nat.lcm a.natAbs b.natAbs := by rw [Nat.lcm_one_left]
  have hsz : ((((Nat.lcm 1 a.natAbs).lcm b.natAbs : Nat) : Int)).natAbs.log2 < bitsLine := by
    rw [e]
    have pa : a.natAbs < 2 ^ 13000 := by
      by_cases z : a.natAbs = 0
      · rw [z]; exact Nat.two_pow_pos _
      · exact (Nat.log2_lt z).mp l1
    have pb : b.natAbs < 2 ^ 13000 := by
      by_cases z : b.natAbs = 0
      · rw [z]; exact Nat.two_pow_pos _
      · exact (Nat.log2_lt z).mp l2
    by_cases z : (((Nat.lcm a.natAbs b.natAbs : Nat) : Int)).natAbs = 0
    · rw [z, Nat.log2_zero]; decide
    · refine (Nat.log2_lt z).mpr ?_
      rw [Int.natAbs_natCast]
      have le : Nat.lcm a.natAbs b.natAbs ≤ a.natAbs * b.natAbs := Nat.div_le_self _ _
      have lt : a.natAbs * b.natAbs < 2 ^ 13000 * 2 ^ 13000 := Nat.mul_lt_mul_of_lt_of_lt pa pb
      rw [← Nat.pow_add] at lt
      exact Nat.lt_of_lt_of_le (Nat.lt_of_le_of_lt le lt) (Nat.pow_le_pow_right (by decide) (by decide))
  refine call_function_meets PySem.W.MGF.kind_lcm PySem.W.MGF.plain_lcm PySem.W.MGF.entry_lcm (PySem.W.MGF.args_lcm _ _) (PySem.W.mg_run_lcm a t b u (by omega) (by omega) hsz).meets ?_
  rw [e]
  exact ⟨.int _, H, I.tok _, ⟨_, rfl⟩, q⟩
theorem rc_lcm : RLC K rLcm bLcm := by
  intro F H xs as z Q e _ rx h k
  unfold bLcm at h
  split at h
  · obtain ⟨x, y, rfl, r1, r2⟩ := rpA2 rx
    split at h
    · rename_i hl
      cases h
      cases r1; cases r2
      exact ⟨_, _, rfl, hl, k _ F H .id (.int _)⟩
    · cases h
  · cases h
theorem pd_lcm {x : Str} {p pos : Pos} {e : Expr} {es : List Expr} {ma : MA} (hm : X.mg x = some (.builtin "math.lcm")) (ha : PA X (e :: es) (tDA X.K C ma)) (hg : Gl X x := by rfl) (hdb : (x == ("__debug__" : Str)) = false := by decide)
    (he : starEach (e :: es) X.env = (false, eval e X.env) :: starEach es X.env := by rfl) (hpl : (backTo pos (starEach es X.env)).any (·.1) = false := by rfl) : PE X (.Call (.Name x p) (e :: es) [] pos) (tD X.K C (mCallB bLcm ma)) :=
  pe_imp (pe_callBfun cr_lcm hg hm ha hdb he hpl) (td_cb rc_lcm)
def rSum2 (K : PySem.W.Frag) : List V → Hp → VK → Prop := fun vs H Q => ∃ (a : Addr) (ns : List Int), vs = [V.ref a] ∧ (SqL K H a (ns.map V.int) ∨ SqT K H a (ns.map V.int)) ∧ Q (.int ns.sum) H
theorem cr_sum2 (hc : X.calm = true) : CallR X (.builtin "sum") (rSum2 X.K) := by
  intro pins s σ H vs us Q I r h
  obtain ⟨a, ns, rfl, hs, q⟩ := h
  rcases hs with hs | hs
  · exact cr_sum hc pins s σ H _ us Q I r ⟨a, ns, rfl, hs, q⟩
  · obtain ⟨its, rv, hl, _⟩ := I.tuple hs
    rw [Vals.ref1 r]
    have hi := rv.ints
    obtain ⟨xs, e⟩ := hi.allInts.items
    have hn : numsOf (intItems xs).toList = ns := by rw [← e]; exact hi.numsOf
    rw [nums_intItems] at hn
    rw [e] at hl
    refine PySem.W.ktm_sumG (I.ok.hd hc) hl fun h' tk t' hk => ?_
    rw [preSum_eq, List.take_of_length_le (by simp), hn]
    exact ⟨.int _, H, I.kept hk, ⟨_, rfl⟩, q⟩
theorem ints_rp {F : Hp} : ∀ {ds : List PyData} {vs : List V} {ns : List Int}, RpA K F vs ds → ints? ds = some ns → vs = ns.map V.int
  | [], _, _, .nil, h => by cases h; rfl
  | .int i :: r, _, _, .cons h1 h2, h => by
    unfold ints? at h
    obtain ⟨ms, e, rfl⟩ := Option.map_eq_some_iff.mp h
    cases h1
    rw [ints_rp h2 e]
    rfl
theorem rc_sum : RLC K (rSum2 K) bSum := by
  intro F H xs as z Q e _ rx h k
  unfold bSum at h
  split at h
  · obtain ⟨x, rfl, r⟩ := rpA1 rx
    obtain ⟨ns, en, rfl⟩ := Option.map_eq_some_iff.mp h
    cases r with
    | lst h1 r1 =>
      rw [ints_rp r1 en] at h1
      exact ⟨_, ns, rfl, .inl (.inl (.inl (e _ _ h1))), k _ F H .id (.int _)⟩
  · obtain ⟨x, rfl, r⟩ := rpA1 rx
    obtain ⟨ns, en, rfl⟩ := Option.map_eq_some_iff.mp h
    cases r with
    | tup h1 r1 =>
      rw [ints_rp r1 en] at h1
      exact ⟨_, ns, rfl, .inr (same_t e h1), k _ F H .id (.int _)⟩
  · cases h
end
end DL
namespace DL
open PySem PySem.Spec PyProof.Rows L2
section
variable {K : PySem.W.Frag} {X : Cx} {C : Ct}
theorem walk_rev {a : Addr} {xs : List V} : Walk (Itv K a xs.length) xs.length (fun H => SqL K H a xs) (YAt xs.reverse) := by
  refine ⟨fun i H hi q => ⟨hi, xs, xs[xs.length - 1 - i]'(by omega), q, by simp [show xs.length - 1 - i < xs.length by omega]⟩, fun H _ => Nat.le_refl _, fun i H x H' hi q y => ?_⟩
  obtain ⟨rfl, y⟩ := y
  refine ⟨rfl, ?_⟩
  rw [List.getElem?_reverse hi]
  exact y xs q
theorem walk_revT {a : Addr} {xs : List V} : Walk (RT.ItvT K a xs.length) xs.length (fun H => SqT K H a xs) (YAt xs.reverse) := by
  refine ⟨fun i H hi q => ⟨hi, xs, xs[xs.length - 1 - i]'(by omega), q, by simp [show xs.length - 1 - i < xs.length by omega]⟩, fun H _ => Nat.le_refl _, fun i H x H' hi q y => ?_⟩
  obtain ⟨rfl, y⟩ := y
  refine ⟨rfl, ?_⟩
  rw [List.getElem?_reverse hi]
  exact y xs q
theorem wk_revs {J : It} {F : Hp} {xs : List V} {ds : List PyData} {G : Hp → Prop} (hG : ∀ H, Same F H → G H) (w : Walk J xs.length G (YAt xs.reverse)) (r : RpA K F xs ds) : Wk K J F ds.reverse := by
  have l := r.length
  refine ⟨G, YAt xs.reverse, by rw [List.length_reverse, ← l]; exact w, hG, fun i H x H' F' hi e1 e2 y => ?_⟩
  obtain ⟨rfl, y⟩ := y
  rw [List.length_reverse] at hi
  rw [List.getElem?_reverse (by omega)] at y
  obtain ⟨d, hd, q⟩ := rpA_at r y
  refine ⟨F', d, .id, ?_, q.mono e1⟩
  rw [List.getElem?_reverse hi, ← l]
  exact hd
theorem pdi_rev {tg e : Expr} {p pos : Pos} {m : ME} (hm : X.mg "reversed" = none) (h : PE X e (tD X.K C m)) (hg : Gl X "reversed" := by rfl) (hs : starEach [e] X.env = (false, eval e X.env) :: starEach [] X.env := by rfl) :
    PI X tg (.Call (.Name "reversed" p) [e] [] pos) (tDI X.K C (miRev m)) := pi_imp (RT.pi_revA hg hm h hs) (by
  rintro σ H R0 ⟨F, sd, Qd, R, h, k⟩
  refine ⟨F, sd, _, R, h, fun x H1 F1 a sd1 R1 S1 rx h1 => ?_⟩
  obtain ⟨ds, hd, q⟩ := h1
  cases rx with
  | tup h2 r2 => cases hd; exact ⟨_, _, rfl, .inr ⟨same_t R1.ext h2, k _ H1 F1 _ sd1 R1 S1 (wk_revs (fun H e => same_t e h2) walk_revT r2) q⟩⟩
  | lst h2 r2 => cases hd; exact ⟨_, _, rfl, .inl ⟨.inl (.inl (R1.ext _ _ h2)), k _ H1 F1 _ sd1 R1 S1 (wk_revs (fun H e => .inl (.inl (e _ _ h2))) walk_rev r2) q⟩⟩
  | _ => cases hd)
end
end DL
namespace DL
open PySem PySem.Spec PyProof.Rows L2
/-- the least, or None -/
def bMinD : List PyData → List PyData → Option PyData
  | [.list xs], [.none] => match ints? xs with
    | some [] => some .none
    | some (n :: ns) => some (.int (ns.foldl min n))
    | none => none
  | _, _ => none
def mCallBK (f : List PyData → List PyData → Option PyData) (ma mk : MA) : ME := fun sd Q => ma sd fun ds s1 => mk s1 fun es s2 => ∃ r, f ds es = some r ∧ Q r s2
section
variable {K : PySem.W.Frag} {X : Cx} {C : Ct}
theorem alike_ints (ns : List Int) : PySem.W.AlikeAll (ns.map .int) := by
  have h := PySem.W.alikeAll_datum (α := Int) ns
  exact h
theorem depth_ints : ∀ ns : List Int, PyData.depthAll (ns.map .int) ≤ 1
  | [] => by decide
  | n :: ns => by
    have := depth_ints ns
    simp only [List.map_cons, PyData.depthAll, PyData.depth]
    omega
def rMinD (K : PySem.W.Frag) : List V → List V → Hp → VK → Prop := fun vs zs H Q => ∃ (a : Addr) (ns : List Int), vs = [V.ref a] ∧ zs = [V.non] ∧ SqL K H a (ns.map V.int) ∧ match ns with
  | [] => Q .non H
  | n :: r => Q (.int (r.foldl min n)) H
theorem cr_minD (hc : X.calm = true) (hu : X.A.units + 64 < cLine) : CallRK X (.builtin "min") [Str.ofString "default"] (rMinD X.K) := by
  intro pins s σ H vs zs us ws Q I r rz h
  obtain ⟨a, ns, rfl, rfl, hs, q⟩ := h
  obtain ⟨its, rv, hl, _⟩ := I.list hs
  rw [Vals.ref1 r]
  obtain ⟨w1, rfl, e1⟩ := vals1 rz
  obtain rfl : w1 = Value.none := e1
  have hi := rv.ints
  have hd := depth_ints ns
  refine PySem.W.min_list_default (I.ok.hd hc) hl.isList (IntsAre.reads s.heap hi) (alike_ints ns) (by omega) (fun e h' tk hk => ?_) fun y ys i v h' tk bs e hv hr hk => ?_
  · cases ns with
    | nil => exact ⟨.non, H, I.kept hk, rfl, q⟩
    | cons n r => cases e
  · cases ns with
    | nil => cases e
    | cons n r =>
      rw [List.map_cons] at e
      injection e with e1 e2
      subst e1 e2
      rw [PySem.W.minD_ints] at hr
      cases hr
      exact ⟨.int _, H, I.kept hk, ⟨_, rfl⟩, q⟩
theorem td_cbK {r : List V → List V → Hp → VK → Prop} {f : List PyData → List PyData → Option PyData} {ma mk : MA} (L : ∀ (F H : Hp) (xs zs : List V) (as bs : List PyData) (z : PyData) (Q : VK), Same F H → RpA K F xs as → RpA K F zs bs → f as bs = some z → (∀ v, Rp K F v z → Q v H) → r xs zs H Q) : ∀ σ H Q, tD K C (mCallBK f ma mk) σ H Q → tCKw r (tDA K C ma) (tDA K C mk) σ H Q := by
  rintro σ H Q ⟨F, sd, Qd, R, h, k⟩
  refine ⟨F, sd, _, R, h, fun xs H1 F1 as sd1 R1 S1 rx h1 => ?_⟩
  refine ⟨F1, sd1, _, R1, h1, fun zs H2 F2 bs sd2 R2 S2 rz h2 => ?_⟩
  obtain ⟨z, e, q⟩ := h2
  exact L F2 H2 xs zs as bs z Q R2.ext (RpA.mono S2.fr rx) rz e fun v rv => k v H2 F2 z sd2 R2 (S1.trans S2) rv q
theorem rc_minD : ∀ (F H : Hp) (xs zs : List V) (as bs : List PyData) (z : PyData) (Q : VK), Same F H → RpA K F xs as → RpA K F zs bs → bMinD as bs = some z → (∀ v, Rp K F v z → Q v H) → rMinD K xs zs H Q := by
  intro F H xs zs as bs z Q e rx rz h k
  unfold bMinD at h
  split at h
  · obtain ⟨x, rfl, r⟩ := rpA1 rx
    obtain ⟨y, rfl, r'⟩ := rpA1 rz
    cases r'
    cases r with
    | lst h1 r1 =>
      split at h
      · rename_i hn
        cases h
        rw [ints_rp r1 hn] at h1
        exact ⟨_, [], rfl, rfl, .inl (.inl (e _ _ h1)), k _ .non⟩
      · rename_i n ns hn
        cases h
        rw [ints_rp r1 hn] at h1
        exact ⟨_, n :: ns, rfl, rfl, .inl (.inl (e _ _ h1)), k _ (.int _)⟩
      · cases h
  · cases h
theorem pd_minD {p pos : Pos} {e : Expr} {kws : List Keyword} {ma mk : MA} (hc : X.calm = true) (hu : X.A.units + 64 < cLine) (hm : X.mg "min" = none) (ha : PA X [e] (tDA X.K C ma)) (hk : PK X kws (tDA X.K C mk)) (hg : Gl X "min" := by rfl)
    (he : backTo pos (starEach [e] X.env) = (false, eval e X.env) :: backTo pos (starEach [] X.env) := by rfl) (hpl : (backTo pos (starEach [e] X.env)).any (·.1) = false := by rfl)
    (hall : (backToKw pos (keywordEach kws X.env)).all (·.1.isSome) = true := by rfl) (hnone : (backToKw pos (keywordEach kws X.env)).any (·.1.isNone) = false := by rfl) (hks : (backToKw pos (keywordEach kws X.env)).filterMap (·.1) = [Str.ofString "default"] := by rfl) :
    PE X (.Call (.Name "min" p) [e] kws pos) (tD X.K C (mCallBK bMinD ma mk)) :=
  pe_imp (pe_callBK (cr_minD hc hu) hg hm PyProof.Rows.boot_min ha hk (by decide) (by decide) he hpl hall hnone hks) (td_cbK rc_minD)
end
end DL
namespace DL
/-- at k a whole number lies from (g k + b) / c to (G k + B) / C -/
def Btw (g b c G B C k : Int) : Prop := 0 ≤ k ∧ ∃ j, g * k + b ≤ c * j ∧ C * j ≤ G * k + B
def Least (P : Int → Prop) : Option Int → Prop
  | some k => P k ∧ ∀ k', P k' → k ≤ k'
  | none => ∀ k, ¬ P k
theorem least_unique {P : Int → Prop} : ∀ {o o' : Option Int}, Least P o → Least P o' → o = o'
  | none, none, _, _ => rfl
  | some k, none, h, h' => absurd h.1 (h' k)
  | none, some k, h, h' => absurd h'.1 (h k)
  | some k, some k', h, h' => by
    have := h.2 _ h'.1
    have := h'.2 _ h.1
    rw [show k = k' by omega]
theorem least_iff {P P' : Int → Prop} (h : ∀ k, P k ↔ P' k) {o : Option Int} : Least P o → Least P' o := by
  cases o with
  | none => exact fun z k hk => z k ((h k).mpr hk)
  | some k => exact fun z => ⟨(h k).mp z.1, fun k' hk => z.2 k' ((h k').mpr hk)⟩
theorem pos_fac {c x : Int} (hc : 0 < c) (h : 0 < c * x) : 0 < x := by
  refine Classical.byContradiction fun z => ?_
  have := Int.mul_le_mul_of_nonneg_left (show x ≤ 0 by omega) (show 0 ≤ c by omega)
  omega
theorem ceil_spec {b c : Int} (h : 1 ≤ c) : b ≤ c * -(-b / c) ∧ c * -(-b / c) < b + c := by
  have e := Int.emod_add_mul_ediv (-b) c
  have e1 := Int.emod_nonneg (-b) (show c ≠ 0 by omega)
  have e2 := Int.emod_lt_of_pos (-b) (show 0 < c by omega)
  rw [Int.mul_neg]
  omega
theorem ceil_le {b c j : Int} (h : 1 ≤ c) : -(-b / c) ≤ j ↔ b ≤ c * j := by
  obtain ⟨h1, h2⟩ := ceil_spec (b := b) h
  constructor
  · intro z
    have := Int.mul_le_mul_of_nonneg_left z (show 0 ≤ c by omega)
    omega
  · intro z
    refine Classical.byContradiction fun w => ?_
    have := Int.mul_le_mul_of_nonneg_left (show j + 1 ≤ -(-b / c) by omega) (show 0 ≤ c by omega)
    rw [Int.mul_add] at this
    omega
section
variable {g b c G B C : Int}
/-- what the lines keep: no steeper below than above, and if less steep, below at 0 -/
structure Inv (g b c G B C : Int) : Prop where
  c1 : 1 ≤ c
  C1 : 1 ≤ C
  sl : g * C ≤ G * c
  st : g * C < G * c → b * C ≤ B * c
theorem btw_none (I : Inv g b c G B C) (h : ¬ b * C ≤ B * c) : Least (Btw g b c G B C) none := by
  rintro k ⟨k0, j, h1, h2⟩
  have e : g * C = G * c := by
    have := I.sl
    have := I.st
    by_cases z : g * C < G * c
    · exact absurd (I.st z) h
    · omega
  have m1 := Int.mul_le_mul_of_nonneg_right h1 (show 0 ≤ C by have := I.C1; omega)
  have m2 := Int.mul_le_mul_of_nonneg_right h2 (show 0 ≤ c by have := I.c1; omega)
  rw [Int.add_mul] at m1 m2
  have e1 : g * k * C = k * (g * C) := by simp only [Int.mul_assoc, Int.mul_comm, Int.mul_left_comm]
  have e2 : G * k * c = k * (G * c) := by simp only [Int.mul_assoc, Int.mul_comm, Int.mul_left_comm]
  have e3 : c * j * C = C * j * c := by simp only [Int.mul_assoc, Int.mul_comm, Int.mul_left_comm]
  rw [e] at e1
  omega
theorem btw_zero (I : Inv g b c G B C) (h : C * -(-b / c) ≤ B) : Least (Btw g b c G B C) (some 0) := by
  refine ⟨⟨Int.le_refl 0, -(-b / c), ?_, ?_⟩, fun k' z => z.1⟩
  · have := (ceil_spec (b := b) I.c1).1
    omega
  · omega
/-- moved by l whole numbers -/
theorem btw_move (l k : Int) : Btw g (b - l * c) c G (B - l * C) C k ↔ Btw g b c G B C k := by
  have e1 : ∀ j, c * (j + l) = c * j + l * c := fun j => by rw [Int.mul_add, Int.mul_comm l c]
  have e2 : ∀ j, C * (j + l) = C * j + l * C := fun j => by rw [Int.mul_add, Int.mul_comm l C]
  constructor
  · rintro ⟨k0, j, h1, h2⟩
    refine ⟨k0, j + l, ?_, ?_⟩
    · rw [e1]; omega
    · rw [e2]; omega
  · rintro ⟨k0, j, h1, h2⟩
    have a1 := e1 (j - l)
    have a2 := e2 (j - l)
    rw [show j - l + l = j by omega] at a1 a2
    exact ⟨k0, j - l, by omega, by omega⟩
/-- both slopes less by r -/
theorem btw_tilt (r k : Int) : Btw (g - r * c) b c (G - r * C) B C k ↔ Btw g b c G B C k := by
  have e1 : ∀ j, c * (j + r * k) = c * j + r * c * k := fun j => by rw [Int.mul_add]; simp only [Int.mul_assoc, Int.mul_comm, Int.mul_left_comm]
  have e2 : ∀ j, C * (j + r * k) = C * j + r * C * k := fun j => by rw [Int.mul_add]; simp only [Int.mul_assoc, Int.mul_comm, Int.mul_left_comm]
  unfold Btw
  rw [Int.sub_mul, Int.sub_mul]
  constructor
  · rintro ⟨k0, j, h1, h2⟩
    refine ⟨k0, j + r * k, ?_, ?_⟩
    · rw [e1]; omega
    · rw [e2]; omega
  · rintro ⟨k0, j, h1, h2⟩
    have a1 := e1 (j - r * k)
    have a2 := e2 (j - r * k)
    rw [show j - r * k + r * k = j by omega] at a1 a2
    exact ⟨k0, j - r * k, by omega, by omega⟩
/-- what _first_out finds: the line below falls to -1, or the line above rises to 0 -/
def outs (g b c G B : Int) : List Int := (if g < 0 then [-(-(b + c) / -g)] else []) ++ (if G > 0 then [-(B / G)] else [])
def minO : List Int → Option Int
  | [] => none
  | a :: l => match minO l with
    | none => some a
    | some m => some (if m < a then m else a)
theorem btw_out (c1 : 1 ≤ c) (C1 : 1 ≤ C) (b0 : b ≤ 0) (b1 : -c < b) (B0 : B < 0) (st : b * C ≤ B * c) (g0 : g ≤ 0) (G0 : 0 ≤ G) : Least (Btw g b c G B C) (minO (outs g b c G B)) := by
  have BC : -C < B := by
    refine Classical.byContradiction fun z => ?_
    have m1 := Int.mul_le_mul_of_nonneg_right (show B ≤ -C by omega) (show 0 ≤ c by omega)
    have m2 := Int.mul_le_mul_of_nonneg_right (show -c + 1 ≤ b by omega) (show 0 ≤ C by omega)
    rw [Int.add_mul, Int.neg_mul, Int.one_mul] at m2
    rw [Int.neg_mul, Int.mul_comm C c] at m1
    omega
  have low : ∀ k, Btw g b c G B C k → (g < 0 ∧ -(-(b + c) / -g) ≤ k) ∨ (G > 0 ∧ -(B / G) ≤ k) := by
    rintro k ⟨k0, j, h1, h2⟩
    by_cases z : j ≤ -1
    · left
      have m := Int.mul_le_mul_of_nonneg_left z (show 0 ≤ c by omega)
      have hg : g < 0 := by
        by_cases w : g = 0
        · rw [w, Int.zero_mul] at h1
          omega
        · omega
      refine ⟨hg, (ceil_le (by omega)).mpr ?_⟩
      rw [Int.neg_mul]
      omega
    · right
      have m := Int.mul_nonneg (show 0 ≤ C by omega) (show 0 ≤ j by omega)
      have hG : G > 0 := by
        by_cases w : G = 0
        · rw [w, Int.zero_mul] at h2
          omega
        · omega
      refine ⟨hG, ?_⟩
      have := (ceil_le (b := -B) (j := k) (show 1 ≤ G by omega)).mpr (by omega)
      rw [Int.neg_neg] at this
      exact this
  have up1 : g < 0 → Btw g b c G B C (-(-(b + c) / -g)) := by
    intro hg
    obtain ⟨h1, h2⟩ := ceil_spec (b := b + c) (c := -g) (by omega)
    generalize -(-(b + c) / -g) = k at *
    have k0 : 0 ≤ k := by
      refine Classical.byContradiction fun z => ?_
      have := Int.mul_le_mul_of_nonneg_left (show k ≤ 0 by omega) (show 0 ≤ -g by omega)
      omega
    refine ⟨k0, -1, ?_, ?_⟩
    · rw [Int.neg_mul] at h1
      omega
    · have := Int.mul_nonneg G0 k0
      omega
  have up2 : G > 0 → Btw g b c G B C (-(B / G)) := by
    intro hG
    obtain ⟨h1, h2⟩ := ceil_spec (b := -B) (c := G) (by omega)
    rw [Int.neg_neg] at h1 h2
    generalize -(B / G) = k at *
    have k0 : 0 ≤ k := by
      refine Classical.byContradiction fun z => ?_
      have := Int.mul_le_mul_of_nonneg_left (show k ≤ 0 by omega) (show 0 ≤ G by omega)
      omega
    refine ⟨k0, 0, ?_, ?_⟩
    · have := Int.mul_le_mul_of_nonneg_right g0 k0
      omega
    · omega
  unfold outs
  by_cases hg : g < 0
  · by_cases hG : G > 0
    · rw [if_pos hg, if_pos hG]
      show Least _ (some (if -(B / G) < -(-(b + c) / -g) then -(B / G) else -(-(b + c) / -g)))
      split
      · rename_i h
        refine ⟨up2 hG, fun k' z => ?_⟩
        rcases low k' z with ⟨-, l⟩ | ⟨-, l⟩ <;> omega
      · rename_i h
        refine ⟨up1 hg, fun k' z => ?_⟩
        rcases low k' z with ⟨-, l⟩ | ⟨-, l⟩ <;> omega
    · rw [if_pos hg, if_neg hG]
      refine ⟨up1 hg, fun k' z => ?_⟩
      rcases low k' z with ⟨-, l⟩ | ⟨h, -⟩
      · exact l
      · exact absurd h hG
  · by_cases hG : G > 0
    · rw [if_neg hg, if_pos hG]
      refine ⟨up2 hG, fun k' z => ?_⟩
      rcases low k' z with ⟨h, -⟩ | ⟨-, l⟩
      · exact absurd h hg
      · exact l
    · rw [if_neg hg, if_neg hG]
      intro k z
      rcases low k z with ⟨h, -⟩ | ⟨h, -⟩
      · exact hg h
      · exact hG h
/-- lines and whole numbers exchanged -/
theorem btw_turn (b1 : -c < b) (B0 : B < 0) (c1 : 1 ≤ c) (C1 : 1 ≤ C) (g0 : 0 < g) (G0 : 0 < G) {o : Option Int} (h : Least (Btw C (-B) G c (-b) g) o) : Least (Btw g b c G B C) (o.map fun j => -(-(C * j + -B) / G)) := by
  have to : ∀ k j, 0 ≤ k → g * k + b ≤ c * j → C * j ≤ G * k + B → Btw C (-B) G c (-b) g j := by
    intro k j k0 h1 h2
    refine ⟨?_, k, by omega, by omega⟩
    refine Classical.byContradiction fun z => ?_
    have m1 := Int.mul_nonneg (show 0 ≤ g by omega) k0
    have m2 := Int.mul_le_mul_of_nonneg_left (show j ≤ -1 by omega) (show 0 ≤ c by omega)
    omega
  cases o with
  | none =>
    rintro k ⟨k0, j, h1, h2⟩
    exact h j (to k j k0 h1 h2)
  | some j =>
    obtain ⟨⟨j0, k0, h1, h2⟩, h3⟩ := h
    show Least _ (some (-(-(C * j + -B) / G)))
    have l := (ceil_le (b := C * j + -B) (c := G) (j := k0) (by omega)).mpr h1
    obtain ⟨s1, s2⟩ := ceil_spec (b := C * j + -B) (c := G) (by omega)
    have least : ∀ k', Btw g b c G B C k' → -(-(C * j + -B) / G) ≤ k' := by
      rintro k' ⟨k0', j', h1', h2'⟩
      have jj := h3 j' (to k' j' k0' h1' h2')
      refine (ceil_le (by omega)).mpr ?_
      have := Int.mul_le_mul_of_nonneg_left jj (show 0 ≤ C by omega)
      omega
    refine ⟨?_, least⟩
    generalize -(-(C * j + -B) / G) = k at *
    have mj := Int.mul_nonneg (show 0 ≤ C by omega) j0
    refine ⟨?_, j, ?_, by omega⟩
    · refine Classical.byContradiction fun z => ?_
      have := Int.mul_le_mul_of_nonneg_left (show k ≤ 0 by omega) (show 0 ≤ G by omega)
      omega
    · have := Int.mul_le_mul_of_nonneg_left l (show 0 ≤ g by omega)
      omega
/-- the lines behind the move: from -1 to 0 at 0 -/
theorem move_facts (I : Inv g b c G B C) (h0 : b * C ≤ B * c) (h : ¬ C * -(-b / c) ≤ B) {l : Int} (hl : l = -(-b / c)) : -c < b - l * c ∧ b - l * c < 0 ∧ B - l * C < 0 ∧ (b - l * c) * C ≤ (B - l * C) * c := by
  obtain ⟨h1, h2⟩ := ceil_spec (b := b) I.c1
  rw [← hl] at h h1 h2
  have c1 := I.c1
  have C1 := I.C1
  have e1 : l * c = c * l := Int.mul_comm _ _
  have e2 : l * C = C * l := Int.mul_comm _ _
  have st : (b - l * c) * C ≤ (B - l * C) * c := by
    rw [Int.sub_mul, Int.sub_mul]
    have : l * c * C = l * C * c := by simp only [Int.mul_assoc, Int.mul_comm, Int.mul_left_comm]
    omega
  refine ⟨by omega, ?_, by omega, st⟩
  refine Classical.byContradiction fun z => ?_
  have m1 := Int.mul_nonneg (show 0 ≤ b - l * c by omega) (show 0 ≤ C by omega)
  have m2 := Int.mul_lt_mul_of_pos_right (show B - l * C < 0 by omega) (show 0 < c by omega)
  omega
/-- the next pair of lines -/
theorem turn_facts (c1 : 1 ≤ c) (C1 : 1 ≤ C) (sl : g * C ≤ G * c) (b0 : b < 0) (st : b * C ≤ B * c) (h : ¬ C * -(-g / c) ≤ G) {q : Int} (hq : q = g / c) : 0 < g % c ∧ g % c < c ∧ 0 < G - q * C ∧ G - q * C < C ∧ g % c = g - q * c ∧ Inv C (-B) (G - q * C) c (-b) (g % c) := by
  obtain ⟨h1, h2⟩ := ceil_spec (b := g) c1
  have e := Int.emod_add_mul_ediv g c
  have e1 := Int.emod_nonneg g (show c ≠ 0 by omega)
  have e2 := Int.emod_lt_of_pos g (show 0 < c by omega)
  rw [← hq] at e
  have em : g % c = g - q * c := by rw [Int.mul_comm q c]; omega
  have sl' : g % c * C ≤ (G - q * C) * c := by
    rw [em, Int.sub_mul, Int.sub_mul]
    have : q * c * C = q * C * c := by simp only [Int.mul_assoc, Int.mul_comm, Int.mul_left_comm]
    omega
  generalize hr : -(-g / c) = r at *
  have g0 : 0 < g % c := by
    refine Classical.byContradiction fun z => ?_
    have z0 : g % c = 0 := by omega
    have rq : r = q := by
      have a1 : c * q ≤ c * r := by omega
      have a2 : c * r < c * (q + 1) := by rw [Int.mul_add]; omega
      have b1 := Int.le_of_mul_le_mul_left a1 (by omega)
      have b2 := Int.lt_of_mul_lt_mul_left a2 (by omega)
      omega
    rw [z0, Int.zero_mul] at sl'
    rw [rq, Int.mul_comm] at h
    have := Int.mul_lt_mul_of_pos_right (show G - q * C < 0 by omega) (show 0 < c by omega)
    omega
  have rq : r = q + 1 := by
    have a1 : c * q < c * r := by omega
    have a2 : c * r < c * (q + 2) := by rw [Int.mul_add]; omega
    have b1 := Int.lt_of_mul_lt_mul_left a1 (by omega)
    have b2 := Int.lt_of_mul_lt_mul_left a2 (by omega)
    omega
  have G0 : 0 < G - q * C := by
    refine pos_fac (c := c) (by omega) ?_
    rw [Int.mul_comm]
    have := Int.mul_pos g0 (show 0 < C by omega)
    omega
  have GC : G - q * C < C := by
    rw [rq, Int.mul_add, Int.mul_comm C q] at h
    omega
  refine ⟨g0, e2, G0, GC, em, ⟨by omega, by omega, ?_, fun _ => ?_⟩⟩
  · rw [Int.mul_comm C, Int.mul_comm c]
    exact sl'
  · generalize g % c = g' at *
    generalize G - q * C = G' at *
    refine Int.le_of_mul_le_mul_left (a := c) ?_ (by omega)
    have m1 := Int.mul_le_mul_of_nonneg_right st (show 0 ≤ g' by omega)
    have m2 := Int.mul_le_mul_of_nonneg_left sl' (show 0 ≤ -b by omega)
    have q1 : c * (-B * g') = -(B * c * g') := by rw [Int.neg_mul, Int.mul_neg]; congr 1; simp only [Int.mul_assoc, Int.mul_comm, Int.mul_left_comm]
    have q2 : c * (-b * G') = -b * (G' * c) := by simp only [Int.mul_assoc, Int.mul_comm, Int.mul_left_comm]
    have q3 : -b * (g' * C) = -(b * C * g') := by rw [Int.neg_mul]; congr 1; simp only [Int.mul_assoc, Int.mul_comm, Int.mul_left_comm]
    omega
theorem out_bound (c1 : 1 ≤ c) (C1 : 1 ≤ C) (b0 : b < 0) (b1 : -c < b) (B0 : B < 0) (B1 : -C < B) {k : Int} (h : minO (outs g b c G B) = some k) : k ≤ 2 * (c * C) := by
  have cC : c ≤ c * C := by have := Int.mul_le_mul_of_nonneg_left C1 (show 0 ≤ c by omega); omega
  have Cc : C ≤ c * C := by have := Int.mul_le_mul_of_nonneg_right c1 (show 0 ≤ C by omega); omega
  have k1 : g < 0 → -(-(b + c) / -g) ≤ c := fun hg => (ceil_le (by omega)).mpr (by
    have := Int.mul_le_mul_of_nonneg_right (show 1 ≤ -g by omega) (show 0 ≤ c by omega)
    omega)
  have k2 : G > 0 → -(B / G) ≤ C := fun hG => by
    have := (ceil_le (b := -B) (j := C) (show 1 ≤ G by omega)).mpr (by
      have := Int.mul_le_mul_of_nonneg_right (show 1 ≤ G by omega) (show 0 ≤ C by omega)
      omega)
    rw [Int.neg_neg] at this
    exact this
  unfold outs at h
  by_cases hg : g < 0
  · by_cases hG : G > 0
    · rw [if_pos hg, if_pos hG] at h
      have h : some (if -(B / G) < -(-(b + c) / -g) then -(B / G) else -(-(b + c) / -g)) = some k := h
      have h := Option.some.inj h
      have := k1 hg
      have := k2 hG
      split at h <;> omega
    · rw [if_pos hg, if_neg hG] at h
      have h := Option.some.inj h
      have := k1 hg
      omega
  · by_cases hG : G > 0
    · rw [if_neg hg, if_pos hG] at h
      have h := Option.some.inj h
      have := k2 hG
      omega
    · rw [if_neg hg, if_neg hG] at h
      cases h
theorem turn_bound (c1 : 1 ≤ c) (C1 : 1 ≤ C) (gc : g < c) (g0 : 0 < g) (G0 : 0 < G) (B1 : -C < B) {j : Int} (h : j ≤ 2 * (G * g)) : -(-(C * j + -B) / G) ≤ 2 * (c * C) := by
  refine (ceil_le (by omega)).mpr ?_
  have m1 := Int.mul_le_mul_of_nonneg_left h (show 0 ≤ C by omega)
  have e1 : C * (2 * (G * g)) = G * (2 * (g * C)) := by simp only [Int.mul_assoc, Int.mul_comm, Int.mul_left_comm]
  have m2 : g * C + C ≤ c * C := by
    have := Int.mul_le_mul_of_nonneg_right (show g + 1 ≤ c by omega) (show 0 ≤ C by omega)
    rw [Int.add_mul] at this
    omega
  have m3 := Int.mul_le_mul_of_nonneg_left (show 2 * (g * C) + C ≤ 2 * (c * C) by omega) (show 0 ≤ G by omega)
  rw [Int.mul_add] at m3
  have m4 := Int.mul_le_mul_of_nonneg_right (show 1 ≤ G by omega) (show 0 ≤ C by omega)
  omega
/-- two lines -/
structure Two where
  g : Int
  b : Int
  c : Int
  G : Int
  B : Int
  C : Int
def Two.I (p : Two) : Prop := Inv p.g p.b p.c p.G p.B p.C
def Two.Ans (p : Two) (o : Option Int) : Prop := Least (Btw p.g p.b p.c p.G p.B p.C) o ∧ ∀ k, o = some k → k ≤ 2 * (p.c * p.C)
def Two.l (p : Two) : Int := -(-p.b / p.c)
/-- moved -/
def Two.mv (p : Two) : Two := ⟨p.g, p.b - p.l * p.c, p.c, p.G, p.B - p.l * p.C, p.C⟩
def Two.turn (p : Two) : Two := ⟨p.C, -(p.B - p.l * p.C), p.G - p.g / p.c * p.C, p.c, -(p.b - p.l * p.c), p.g % p.c⟩
def Two.back (p : Two) (j : Int) : Int := -(-(p.C * j + -(p.B - p.l * p.C)) / (p.G - p.g / p.c * p.C))
theorem Two.none (p : Two) (I : p.I) (h : ¬ p.b * p.C ≤ p.B * p.c) : p.Ans .none := ⟨btw_none I h, fun _ e => by cases e⟩
theorem Two.zero (p : Two) (I : p.I) (h : p.C * p.l ≤ p.B) : p.Ans (some 0) := ⟨btw_zero I h, fun k e => by
  cases e
  have := Int.mul_pos (show 0 < p.c by have := I.c1; omega) (show 0 < p.C by have := I.C1; omega)
  omega⟩
theorem Two.low (p : Two) (I : p.I) (h0 : p.b * p.C ≤ p.B * p.c) (h : ¬ p.C * p.l ≤ p.B) : -p.C < p.B - p.l * p.C := by
  obtain ⟨a1, a2, a3, a4⟩ := move_facts I h0 h rfl
  have c1 := I.c1
  have C1 := I.C1
  refine Classical.byContradiction fun z => ?_
  have m1 := Int.mul_le_mul_of_nonneg_right (show p.B - p.l * p.C ≤ -p.C from by omega) (show 0 ≤ p.c by omega)
  have m2 := Int.mul_lt_mul_of_pos_right a1 (show 0 < p.C by omega)
  have a4 : (p.b - p.l * p.c) * p.C ≤ (p.B - p.l * p.C) * p.c := a4
  rw [Int.neg_mul] at m1 m2
  have : p.C * p.c = p.c * p.C := Int.mul_comm _ _
  have m2 : -(p.c * p.C) < (p.b - p.l * p.c) * p.C := m2
  omega
theorem Two.out (p : Two) (I : p.I) (h0 : p.b * p.C ≤ p.B * p.c) (h : ¬ p.C * p.l ≤ p.B) (hr : p.C * -(-p.g / p.c) ≤ p.G) : p.Ans (minO (outs (p.g - -(-p.g / p.c) * p.c) (p.b - p.l * p.c) p.c (p.G - -(-p.g / p.c) * p.C) (p.B - p.l * p.C))) := by
  obtain ⟨a1, a2, a3, a4⟩ := move_facts I h0 h rfl
  obtain ⟨r1, r2⟩ := ceil_spec (b := p.g) I.c1
  have B1 := p.low I h0 h
  have e1 : -(-p.g / p.c) * p.c = p.c * -(-p.g / p.c) := Int.mul_comm _ _
  have e2 : -(-p.g / p.c) * p.C = p.C * -(-p.g / p.c) := Int.mul_comm _ _
  have L := btw_out (g := p.g - -(-p.g / p.c) * p.c) (G := p.G - -(-p.g / p.c) * p.C) I.c1 I.C1 (Int.le_of_lt a2) a1 a3 a4 (by omega) (by omega)
  exact ⟨least_iff (fun k => (btw_tilt _ k).trans (btw_move _ k)) L, fun k e => out_bound I.c1 I.C1 a2 a1 a3 B1 e⟩
/-- what a turn of the loop leaves -/
theorem Two.turns (p : Two) (I : p.I) (h0 : p.b * p.C ≤ p.B * p.c) (h : ¬ p.C * p.l ≤ p.B) (hr : ¬ p.C * -(-p.g / p.c) ≤ p.G) : p.turn.I ∧ 0 < p.turn.c ∧ p.turn.c < p.C ∧ 0 < p.turn.C ∧ p.turn.C < p.c ∧ (0 < p.turn.b ∧ p.turn.b < p.C) ∧ (0 < p.turn.B ∧ p.turn.B < p.c) ∧ ∀ o, p.turn.Ans o → p.Ans (o.map p.back) := by
  obtain ⟨a1, a2, a3, a4⟩ := move_facts I h0 h rfl
  have B1 := p.low I h0 h
  obtain ⟨t1, t2, t3, t4, t5, t6⟩ := turn_facts I.c1 I.C1 I.sl a2 a4 hr rfl
  have a1 : -p.c < p.b - p.l * p.c := a1
  have a2 : p.b - p.l * p.c < 0 := a2
  have a3 : p.B - p.l * p.C < 0 := a3
  refine ⟨t6, t3, t4, t1, t2, ⟨?_, ?_⟩, ⟨?_, ?_⟩, ?_⟩
  · show 0 < -(p.B - p.l * p.C); omega
  · show -(p.B - p.l * p.C) < p.C; omega
  · show 0 < -(p.b - p.l * p.c); omega
  · show -(p.b - p.l * p.c) < p.c; omega
  · rintro o ⟨A, bd⟩
    have L := btw_turn (g := p.g % p.c) (G := p.G - p.g / p.c * p.C) a1 a3 I.c1 I.C1 t1 t3 A
    rw [t5] at L
    refine ⟨least_iff (fun k => (btw_tilt _ k).trans (btw_move _ k)) L, fun k e => ?_⟩
    cases o with
    | none => cases e
    | some j =>
      cases e
      exact turn_bound I.c1 I.C1 t2 t1 t3 B1 (bd j rfl)
/-- the problems that the turns go through, the last one first, each with the line that was kept -/
inductive Chain (p0 : Two) : List Two → Two → Prop
  | nil : Chain p0 [] p0
  | cons {ps p} : Chain p0 ps p → (∀ o, p.turn.Ans o → p.Ans (o.map p.back)) → Chain p0 (p :: ps) p.turn
end
end DL
namespace DL
open PySem
theorem seq_step {a b : MS} {D : DE} {sd : DSt} (h : ∀ N : DSt → Prop, N = b D → a { D with nx := N } sd) : mSeq a b D sd := h _ rfl
end DL
namespace DL
open PySem PySem.Spec PyProof.Rows L2
/-- the value is these data, as it stands in the module -/
def cstOk (K : PySem.W.Frag) : Nat → Value → PyData → Bool
  | _ + 1, .none, .none => true
  | _ + 1, .bool b, .bool c => b == c
  | _ + 1, .int i _, .int j => i == j
  | _ + 1, .str x _, .str y => x == y
  | n + 1, .ref a, .tuple ds => match K.lookup a with
    | some o => (o.cls == .type "tuple" && o.dict.isNone) && (match o.data with
      | .seq its _ => its.size ≤ 100000 && (its.toList.length == ds.length && (its.toList.zip ds).all fun p => cstOk K n p.1 p.2)
      | _ => false)
    | none => false
  | _, _, _ => false
theorem cst_tup {K : PySem.W.Frag} {n : Nat} {a : Addr} {ds : List PyData} (h : cstOk K (n + 1) (.ref a) (.tuple ds) = true) : ∃ (o : Obj) (its : Array Value) (k : Nat), K.lookup a = some o ∧ o.cls = .type "tuple" ∧ o.dict = none ∧ o.data = .seq its k ∧ its.size ≤ 100000 ∧ its.toList.length = ds.length ∧ ((its.toList.zip ds).all fun p => cstOk K n p.1 p.2) = true := by
  unfold cstOk at h
  split at h
  · rename_i o ho
    rw [Bool.and_eq_true, Bool.and_eq_true] at h
    obtain ⟨⟨h1, h3⟩, h2⟩ := h
    have h1 : o.cls = .type "tuple" := by simpa using h1
    have h3 : o.dict = none := by simpa using h3
    split at h2
    · rename_i its k hd
      simp only [Bool.and_eq_true, decide_eq_true_eq, beq_iff_eq] at h2
      exact ⟨o, its, k, ho, h1, h3, hd, h2.1, h2.2.1, h2.2.2⟩
    · cases h2
  · cases h
theorem cst_rp {K : PySem.W.Frag} {F : Hp} : ∀ (n : Nat) (u : Value) (d : PyData), cstOk K n u d = true → ∃ v, RelV v u ∧ Rp K F v d
  | 0, _, _, h => by simp [cstOk] at h
  | n + 1, u, d, h => by
    cases u with
    | none =>
      cases d with
      | none => exact ⟨.non, rfl, .non⟩
      | _ => cases h
    | bool b =>
      cases d with
      | bool c =>
        have e : b = c := by simpa [cstOk] using h
        subst e
        exact ⟨.bl b, rfl, .bl b⟩
      | _ => cases h
    | int i t =>
      cases d with
      | int j =>
        have e : i = j := by simpa [cstOk] using h
        subst e
        exact ⟨.int i, ⟨t, rfl⟩, .int i⟩
      | _ => cases h
    | str x t =>
      cases d with
      | str y =>
        have e : x = y := by simpa [cstOk] using h
        subst e
        exact ⟨.str x, ⟨t, rfl⟩, .str x⟩
      | _ => cases h
    | ref a =>
      cases d with
      | tuple ds =>
        obtain ⟨o, its, k, ho, h1, h3, hd, hs, hl, ha⟩ := cst_tup h
        have main : ∀ (us : List Value) (ds : List PyData), us.length = ds.length → ((us.zip ds).all fun p => cstOk K n p.1 p.2) = true → ∃ vs, Vals vs us ∧ RpA K F vs ds := by
          intro us
          induction us with
          | nil =>
            intro ds hl _
            cases ds with
            | nil => exact ⟨[], .nil, .nil⟩
            | cons _ _ => cases hl
          | cons u us ih =>
            intro ds hl ha
            cases ds with
            | nil => cases hl
            | cons d ds =>
              simp only [List.zip_cons_cons, List.all_cons, Bool.and_eq_true] at ha
              obtain ⟨v, r1, r2⟩ := cst_rp n u d ha.1
              obtain ⟨vs, q1, q2⟩ := ih ds (by simpa using hl) ha.2
              exact ⟨v :: vs, .cons r1 q1, .cons r2 q2⟩
        obtain ⟨vs, q1, q2⟩ := main _ _ hl ha
        exact ⟨.ref a, rfl, .tup (.inr ⟨o, its, k, ho, h1, hd, line_of hs, q1⟩) q2⟩
      | _ => cases h
    | _ => cases h
theorem relV_ref {v : V} {a : Addr} (r : RelV v (.ref a)) : v = .ref a := by
  have e := r.abs
  cases v <;> simp_all [absV]
theorem cst_ref {K : PySem.W.Frag} {n : Nat} {a : Addr} {d : PyData} (h : cstOk K n (.ref a) d = true) (F : Hp) : Rp K F (.ref a) d := by
  obtain ⟨v, r, q⟩ := cst_rp (F := F) n _ d h
  rw [relV_ref r] at q
  exact q
section
variable {K : PySem.W.Frag} {X : Cx} {C : Ct}
/-- a module's tuple -/
theorem pd_cst {x : Str} {d : PyData} {pos : Pos} (h : ∃ a, X.mg x = some (.ref a) ∧ cstOk X.K 4 (.ref a) d = true) (hg : Gl X x := by rfl) (hd : (x == ("__debug__" : Str)) = false := by decide) : PE X (.Name x pos) (tD X.K C (mC d)) := by
  obtain ⟨a, h1, h2⟩ := h
  exact pd_glob (v := .ref a) h1 rfl (cst_ref h2) hg hd
def mIdxC (xs : List PyData) (mb : ME) : ME := fun sd Q => mb sd fun b s2 => ∃ r, opIdx xs b = some r ∧ Q r s2
def rIndexT (K : PySem.W.Frag) : V → List V → Hp → VK → Prop := fun x xs H Q => ∃ (a : Addr) (ys : List V) (y : V) (j : Nat) (z : V), x = V.ref a ∧ xs = [y] ∧ SqT K H a ys ∧ flatV y = true ∧ ys.all flatV = true ∧ ys[j]? = some z ∧ eqV z y = true ∧
  (∀ (m : Nat) (z' : V), m < j → ys[m]? = some z' → eqV z' y = false) ∧ Q (.int (j : Nat)) H
theorem mt_indexT : MtR X "tuple.index" (rIndexT X.K) := by
  intro pins s σ H x xs v us Q I rx rxs h
  obtain ⟨a, ys, y, j, z, rfl, rfl, hs, fy, fys, hz, hzj, hno, q⟩ := h
  cases rx
  cases rxs with
  | cons ry rt =>
    rename_i uy ut
    cases rt
    obtain ⟨its, rv, ⟨⟨cls, dd, data, sl⟩, ho, hc, n, hd⟩, hlen⟩ := I.tuple hs
    simp only at hc hd
    subst hc hd
    obtain ⟨u, hu, ru⟩ := rv.get hz
    obtain ⟨hjl, hje⟩ := List.getElem?_eq_some_iff.mp hu
    have hvl := rv.length
    have hj : j < its.toArray.size := by simpa using hjl
    refine call_meets PySem.F.slot_tuple_index ⟨_, ho, rfl⟩ PySem.F.entry_tuple_index (PySem.F.args_tuple_index_2 _ _)
      (TI.tuple_indexAt a its.toArray n dd sl uy (eqU y) j hj ?_ ?_) ⟨ho, fun u' hu' => mem_eqAt ry fy rv fys u' (by simpa using hu'), ⟨.int (j : Nat), H, I.tok _, ⟨_, rfl⟩, q⟩⟩
    · have e1 : its.toArray[j] = u := by simpa using hje
      rw [e1, eqU_of ru (flat_at fys hz)]
      exact hzj
    · intro m hm hmj
      have hml : m < its.length := by simpa using hm
      have hmy : m < ys.length := by omega
      have hy' : ys[m]? = some ys[m] := List.getElem?_eq_getElem hmy
      obtain ⟨u2, hu2, ru2⟩ := rv.get hy'
      obtain ⟨_, hme⟩ := List.getElem?_eq_some_iff.mp hu2
      have e1 : its.toArray[m] = u2 := by simpa using hme
      rw [e1, eqU_of ru2 (flat_at fys hy')]
      exact hno m _ hmj hy'
variable {e : Expr} {p apos cpos : Pos} {mb : ME}
theorem pd_idxC {x : Str} {ds : List PyData} (h : ∃ a, X.mg x = some (.ref a) ∧ cstOk X.K 4 (.ref a) (.tuple ds) = true) (he : PE X e (tD X.K C mb)) (t : ∀ a, X.mg x = some (.ref a) → PE X (.Call (.Attribute (.Name x p) "index" apos) [e] [] cpos) (tBM X.K "tuple" (rIndexT X.K) (tC (.ref a)) (tCons (tD X.K C mb) tNil))) : PE X (.Call (.Attribute (.Name x p) "index" apos) [e] [] cpos) (tD X.K C (mIdxC ds mb)) := by
  obtain ⟨a, h1, h2⟩ := h
  refine pe_imp (t a h1) ?_
  rintro σ H Q ⟨F, sd, Qd, R, h, k⟩
  obtain ⟨o, its, n, ho, hc, hdn, hd, hs, hl, ha⟩ := cst_tup h2
  refine ⟨.inr (.inl ⟨rfl, o, ho, hc, hdn⟩), F, sd, _, R, h, fun y H2 F2 b sd2 R2 S2 ry hh => ?_⟩
  obtain ⟨z, e, q⟩ := hh
  have rp := cst_ref h2 F2
  cases rp with
  | tup hp ra =>
    unfold opIdx at e
    split at e
    · rename_i hc
      rw [Bool.and_eq_true] at hc
      obtain ⟨n, hn, rfl⟩ := Option.map_eq_some_iff.mp e
      obtain ⟨z, z1, z2, z3⟩ := first_rp ry hc.1 ra hc.2 hn
      exact ⟨_, _, y, n, z, rfl, rfl, same_t R2.ext hp, flatV_rp ry hc.1, flats_rp ra hc.2, z1, z2, z3, k _ H2 F2 _ sd2 R2 S2 (.int _) q⟩
    · cases e
end
end DL
namespace DL
open PySem PySem.Spec PyProof.Rows L2
def miEnumT (ma : MA) : MI := fun sd Q => ma sd fun ds s1 => ∃ xs, ds = [.tuple xs] ∧ Q (enumL 0 xs) s1
end DL
namespace PySem
open Sem (wp)
set_option maxHeartbeats 1000000 in
theorem dl_enumerate_newB {v : Value} {o : Obj} {H : Heap → Prop} (B : Begins v o H) :
    Meets (Builtin.«enumerate.__new__» ⟨[.type "enumerate", v], []⟩) (fun _ R s => H s.heap ∧
      R (.ok (.ret (.ref (s.heap.push o).objs.size))) { s with heap := (s.heap.push o).push { cls := .type "enumerate", data := .fields #[.none, .bool false, .ref s.heap.objs.size, rawInt 0, .none, .none] } }) :=
  .of_wp fun prog w A R s h => by
    obtain ⟨hp, g, d, tk, os⟩ := s; obtain ⟨h1, h⟩ := h
    have hsub := sub_enumerate
    have q1 : ∀ {A' : Around} {E : Value → Shared → Prop} {Q : Value → Shared → Prop}, Q (.ref hp.objs.size) ⟨hp.push o, g, d, tk, os⟩ → wpAny (model prog w) A' (pyIter v) Q E ⟨hp, g, d, tk, os⟩ :=
      fun q => B.iter prog w _ _ ⟨hp, g, d, tk, os⟩ _ h1 q
    wp_walk using q1
    refine wpAny_stack_any fun st => wpAny_pure ?_
    split
    · rename_i c _ _ _ _ _
      cases (c == Value.type "enumerate")
      · wp_walk using q1
        exact ⟨_, rfl, h⟩
      · wp_walk using q1
        exact ⟨_, rfl, h⟩
    · wp_walk using q1
      exact ⟨_, rfl, h⟩
section
variable {prog : Program} {w : World} {A : Around} {E : Value → Shared → Prop} {s : Shared}
theorem dl_call_enumerate {v : Value} {o : Obj} {H : Heap → Prop} {Q : Value → Shared → Prop} (B : Begins v o H) (h1 : H s.heap)
    (h : ∀ h', IsEnum h' (s.heap.objs.size + 1) s.heap.objs.size 0 .none → h'.get? s.heap.objs.size = some o → h'.objs.size = s.heap.objs.size + 2 →
      (∀ b o, s.heap.get? b = some o → h'.get? b = some o) → Q (.ref (s.heap.objs.size + 1)) { s with heap := h' }) :
    wpAny (model prog w) A (call (.type "enumerate") [v]) Q E s := by
  refine callType_new F.called_enumerate (by decide) (F.typeCall_enumerate_1 _) (F.newCall_enumerate_1 _) (fun obj => F.args_object_init_2 obj _) F.entry_enumerate_new
    (dl_enumerate_newB B) ⟨h1, ?_⟩
  have hz : (s.heap.push o).objs.size = s.heap.objs.size + 1 := Heap.size_push ..
  show _ ∧ _
  rw [hz]
  have he : IsEnum ((s.heap.push o).push { cls := .type "enumerate", data := .fields #[.none, .bool false, .ref s.heap.objs.size, rawInt 0, .none, .none] }) (s.heap.objs.size + 1) s.heap.objs.size 0 .none := by
    have := Heap.get?_push_size (s.heap.push o) (o := { cls := .type "enumerate", data := .fields #[.none, .bool false, .ref s.heap.objs.size, rawInt 0, .none, .none] }) rfl
    rw [hz] at this; exact this
  refine ⟨⟨_, he, rfl⟩, h _ he (Heap.get?_push_of_some _ (Heap.get?_push_size _ B.free)) (by rw [Heap.size_push, hz]) fun b o x => Heap.get?_push_of_some _ (Heap.get?_push_of_some _ x)⟩
end
end PySem
namespace DL
open PySem PySem.Spec PyProof.Rows L2
/-- the tuple at a as it stands at each turn, each item in a new pair -/
def IteT (K : PySem.W.Frag) (a : Addr) : It :=
  ⟨fun i H => ∃ (xs : List V) (x : V), SqT K H a xs ∧ xs[i]? = some x, fun i H v H' => ∃ T x, v = .ref T ∧ H T = none ∧ H' = upd H T (.tup [.int (i : Nat), x]) ∧ ∀ xs, SqT K H a xs → xs[i]? = some x, fun i H => ∃ xs : List V, SqT K H a xs ∧ xs.length = i⟩
theorem turn_enumT {P : Program} {w : World} {K : PySem.W.Frag} {elts : List Expr} {kk : Nat} {tpos : Pos} (a e it : Addr) :
    Turn P w K (.Tuple elts kk tpos) (IteT K a) [e, it] e (fun i h => (∃ old, IsEnum h e it ((i : Nat) : Int) old) ∧ h.IsTupleIter it a i ∧ e ≠ it ∧ e ≠ a ∧ a ≠ it) where
  mem := by simp
  obj := fun i h st b hb => by
    obtain ⟨⟨old, he⟩, ⟨o, ho, hc, hd⟩, _⟩ := st
    have e' : b = e ∨ b = it := by simpa using hb
    rcases e' with z | z
    · rw [z]; exact ⟨_, he, fun v q => nomatch q⟩
    · rw [z]; exact ⟨o, ho, fun v q => by rw [hd] at q; cases q⟩
  keep := fun i h h' st k => let ⟨⟨old, he⟩, hi, hne⟩ := st; ⟨⟨old, k e (by simp) _ he⟩, hi.at fun o q => k it (by simp) o q, hne⟩
  item := by
    intro X hP hw hK hc i pins s σ H E I hf st hg
    subst hP hw hK
    obtain ⟨⟨old, he⟩, hit, hne, hea, hai⟩ := st
    obtain ⟨xs, x, hq, hx⟩ := hg
    obtain ⟨its, rv, p, hz⟩ := I.tuple hq
    obtain ⟨u, hu, ru⟩ := rv.get hx
    obtain ⟨hul, hue⟩ := List.getElem?_eq_some_iff.mp hu
    have hel : e < s.heap.objs.size := Heap.lt_size he
    have hil : it < s.heap.objs.size := by obtain ⟨_, q, _⟩ := hit; exact Heap.lt_size q
    have D := Draws.tuple (prog := X.prog) (w := X.w) (A := X.A.in1) (show X.A.in1.handled = none from I.ok.hd hc) it a hai its.toArray
    refine wpAny_pyNext_enum_itemC D he ⟨hit, p⟩ (by simpa using hul) hne (by simp [hne, hea]) fun x' h' tk hP ho hs' hT hsz hk => ?_
    obtain ⟨hit', p'⟩ := hs'
    have ex : x' = u := by
      have h1 : its[i]? = some x' := by simpa using hP
      rw [hu] at h1
      exact (Option.some.inj h1).symm
    subst ex
    refine ⟨_, rfl, wpAny_letOwnedTupleGo_enum (s := { s with heap := h', toks := tk + 1 }) ho fun h'' he' sb => ?_⟩
    have hT2 : h''.get? s.heap.objs.size = some { cls := .type "tuple", data := .seq #[.int i tk, x'] } := (sb.2 _ (Nat.ne_of_gt hel)).trans hT
    have new : ObjOk X.prog X.w (upd H s.heap.objs.size (.tup [.int (i : Nat), x])) h'' s.heap.objs.size (.tup [.int (i : Nat), x]) :=
      ⟨by show 2 ≤ sizeLine; decide, [.int i tk, x'], .cons ⟨_, rfl⟩ (.cons ru .nil), ⟨_, hT2, rfl, _, rfl⟩⟩
    have I1 : L2.Inv X pins σ (upd H s.heap.objs.size (.tup [.int (i : Nat), x])) { s with heap := h'', toks := tk + 1 } :=
      I.turnedNew (ch := [e, it]) (fun b ob hb q => (sb.2 b (fun z => hb (by simp [z]))).trans (hk b ob (fun z => hb (by simp [z])) (fun z => hb (by simp [z])) q)) hf (Nat.le_refl _) new
    refine ⟨.ref s.heap.objs.size, _, I1, rfl, ⟨_, x, rfl, I.hok.fresh (Nat.le_refl _), rfl, fun ys hy => by rw [I.tuple_inj hy hq]; exact hx⟩, ⟨⟨x', ?_⟩, hit'.at fun o q => (sb.2 it (Ne.symm hne)).trans q, hne, hea, hai⟩, fun b hb => ?_⟩
    · have e1 : ((i + 1 : Nat) : Int) = (i : Int) + 1 := by omega
      rw [e1]; exact he'
    · have hb' : b < s.heap.objs.size := by
        have e' : b = e ∨ b = it := by simpa using hb
        rcases e' with z | z
        · rw [z]; exact hel
        · rw [z]; exact hil
      rw [upd_ne (Nat.ne_of_lt hb')]
      exact (hf b hb).1
  done := by
    intro X hP hw hK hc i pins s σ H E I hf st hg
    subst hP hw hK
    obtain ⟨⟨old, he⟩, hit, hne, hea, hai⟩ := st
    obtain ⟨xs, hq, hx⟩ := hg
    obtain ⟨its, rv, p, hz⟩ := I.tuple hq
    obtain ⟨f0, f1, f2, f3, f4, f5⟩ := hf it (by simp)
    have hl := rv.length
    have ei : i = its.toArray.size := by simp; omega
    have D := Draws.tuple (prog := X.prog) (w := X.w) (A := X.A.in1) (show X.A.in1.handled = none from I.ok.hd hc) it a hai its.toArray
    refine wpAny_pyNext_enum_endD D he ⟨by rw [← ei]; exact hit, p⟩ fun h' eb => ⟨rfl, I.turned (t' := s.toks) (fun b o hb q => eb b o hb q) f0 f1 f3 f4 f5⟩
  self := fun A i s Q E st h => let ⟨⟨_, he⟩, _⟩ := st; wpAny_pyIter_enum he h
theorem walk_enumT {K : PySem.W.Frag} {a : Addr} {xs : List V} : Walk (IteT K a) xs.length (fun H => SqT K H a xs) (YPair (fun i => some (.int (i : Nat))) (fun i => xs[i]?)) := by
  refine ⟨fun i _ hi q => ⟨xs, xs[i], q, by simp [hi]⟩, fun _ q => ⟨xs, q, rfl⟩, fun i H v H' _ q y => ?_⟩
  obtain ⟨T, x, h1, h2, h3, h4⟩ := y
  exact ⟨T, _, x, h1, h2, h3, rfl, h4 xs q⟩
section
variable {X : Cx} {C : Ct}
def iEnumT (K : PySem.W.Frag) (ta : TA) : TI := fun σ H R => ta σ H fun vs H1 => ∃ a xs, vs = [.ref a] ∧ SqT K H1 a xs ∧ R (IteT K a) H1
theorem pi_enumT {e : Expr} {ta : TA} {p pos tpos : Pos} {elts : List Expr} {kk : Nat} (hg : Gl X "enumerate") (hm : X.mg "enumerate" = none) (ha : PA X [e] ta) (hs : starEach [e] X.env = [(false, eval e X.env)] := by rfl) :
    PI X (.Tuple elts kk tpos) (.Call (.Name "enumerate" p) [e] [] pos) (iEnumT X.K ta) := by
  refine ⟨fun pins s σ H R I h => ?_⟩
  refine Call_ (ld_blt I hg hm boot_enumerate (PyProof.Rows.callWith_type1 (thn (ha.run pos pins s σ H _ I h) fun us s1 ⟨vs, H1, I1, r1, q1⟩ => ?_) hs rfl))
  obtain ⟨a, xs, ex, hq, q⟩ := q1
  subst ex
  cases r1 with
  | cons r rr =>
    cases rr
    cases r
    obtain ⟨its, rv, p', hz⟩ := I1.tuple hq
    have hal : a < s1.heap.objs.size := by obtain ⟨_, q, _⟩ := p'; exact Heap.lt_size q
    refine dl_call_enumerate (begins_tuple a its.toArray) p' fun h' he hit hsz hk => wpAny_pyIter_enum he ?_
    have I2 : L2.Inv X pins σ H1 { s1 with heap := h' } := I1.kept (t' := s1.toks) hk
    refine ⟨s1.heap.objs.size + 1, [s1.heap.objs.size + 1, s1.heap.objs.size], _, _, H1, rfl, I2, turn_enumT a (s1.heap.objs.size + 1) s1.heap.objs.size, ⟨⟨.none, he⟩, ⟨_, hit, rfl, rfl⟩, Nat.succ_ne_self _, fun e => absurd hal (by rw [← e]; exact Nat.not_lt.mpr (Nat.le_succ _)), fun e => absurd hal (by rw [e]; exact Nat.lt_irrefl _)⟩, fun b hb => ?_, q⟩
    have e' : b = s1.heap.objs.size + 1 ∨ b = s1.heap.objs.size := by simpa using hb
    have hle : s1.heap.objs.size ≤ b := by
      rcases e' with z | z
      · rw [z]; exact Nat.le_add_right _ _
      · rw [z]; exact Nat.le_refl _
    exact I1.fpOk hle (I1.hok.fresh hle)
theorem pdi_enumT {elts : List Expr} {kk : Nat} {tpos : Pos} {e : Expr} {p pos : Pos} {m : MA} (t : PI X (.Tuple elts kk tpos) (.Call (.Name "enumerate" p) [e] [] pos) (iEnumT X.K (tDA X.K C m))) :
    PI X (.Tuple elts kk tpos) (.Call (.Name "enumerate" p) [e] [] pos) (tDI X.K C (miEnumT m)) := pi_imp t (by
  rintro σ H R0 ⟨F, sd, Qd, R, h, k⟩
  refine ⟨F, sd, _, R, h, fun vs H1 F1 ds sd1 R1 S1 rs q => ?_⟩
  obtain ⟨xs, rfl, q⟩ := q
  obtain ⟨x, rfl, r⟩ := rpA1 rs
  cases r with
  | @tup a ys _ h2 r2 =>
    refine ⟨_, _, rfl, same_t R1.ext h2, k _ H1 F1 _ sd1 R1 S1 ?_ q⟩
    have hl : (enumL 0 xs).length = ys.length := by
      rw [r2.length]
      have : ∀ (l : List PyData) n, (enumL n l).length = l.length := fun l => by
        induction l with
        | nil => intro _; rfl
        | cons d l ih => intro n; simp [enumL, ih]
      exact this xs 0
    refine ⟨fun H => SqT X.K H a ys, YPair (fun i => some (.int (i : Nat))) (fun i => ys[i]?), by rw [hl]; exact walk_enumT, fun H e => same_t e h2, fun i H x H' F' hi e1 e2 y => ?_⟩
    obtain ⟨T, x1, x2, rfl, hT, hH, y1, y2⟩ := y
    cases y1
    obtain ⟨d, hd, rd⟩ := rpA_at r2 y2
    obtain ⟨F2, al, rr⟩ := pair_al hT e2 hH (.int (i : Int)) (rd.mono e1)
    refine ⟨F2, _, al, ?_, rr⟩
    rw [enumL_get, hd]
    simp)
end
end DL
namespace DL
open PySem PySem.Spec PyProof.Rows L2
def miZipM (ma : MA) : MI := fun sd Q => ma sd fun ds s1 => ∃ z ys, ds = [.str z, .tuple ys] ∧ Q (zipL (signsD z) ys) s1
/-- the text z, and the tuple at b as it stands at each turn, the items in new pairs -/
def ItzM (K : PySem.W.Frag) (z : Str) (b : Addr) : It :=
  ⟨fun i H => i < z.cps.size ∧ ∃ (ys : List V) (y : V), SqT K H b ys ∧ ys[i]? = some y,
    fun i H v H' => ∃ T c y, v = .ref T ∧ H T = none ∧ H' = upd H T (.tup [.str ⟨#[c]⟩, y]) ∧ z.cps[i]? = some c ∧ ∀ ys, SqT K H b ys → ys[i]? = some y,
    fun i H => ∃ ys : List V, SqT K H b ys ∧ i = min z.cps.size ys.length⟩
theorem turn_zipM {P : Program} {w : World} {K : PySem.W.Frag} {elts : List Expr} {kk : Nat} {tpos : Pos} {x : Str} {t : Tok} {b z TI TO i1 i2 : Addr} (S : ZipSep2 z TI TO i1 i2 [i1] [i2, b]) :
    Turn P w K (.Tuple elts kk tpos) (ItzM K x b) [z, TI, TO, i1, i2] z (fun i h => IsZip h z TI TO .none ∧ IsTupOf2 h TI (.ref i1) (.ref i2) ∧ (∃ a1 a2, IsTupOf2 h TO a1 a2) ∧ h.IsStrIter i1 (strIterType x) x t i ∧ h.IsTupleIter i2 b i) where
  mem := by simp
  obj := fun i h st c hc => by
    obtain ⟨hz, hTI, ⟨a1, a2, hTO⟩, ⟨o1, e1, _, d1⟩, ⟨o2, e2, _, d2⟩⟩ := st
    have e' : c = z ∨ c = TI ∨ c = TO ∨ c = i1 ∨ c = i2 := by simpa using hc
    rcases e' with q | q | q | q | q
    · rw [q]; exact ⟨_, hz, fun v q => nomatch q⟩
    · rw [q]; exact ⟨_, hTI, fun v q => nomatch q⟩
    · rw [q]; exact ⟨_, hTO, fun v q => nomatch q⟩
    · rw [q]; exact ⟨o1, e1, fun v q => by rw [d1] at q; cases q⟩
    · rw [q]; exact ⟨o2, e2, fun v q => by rw [d2] at q; cases q⟩
  keep := fun i h h' st k => by
    obtain ⟨hz, hTI, ⟨a1, a2, hTO⟩, ⟨o1, e1, r1⟩, h2⟩ := st
    exact ⟨k z (by simp) _ hz, k TI (by simp) _ hTI, ⟨a1, a2, k TO (by simp) _ hTO⟩, ⟨o1, k i1 (by simp) _ e1, r1⟩, h2.at fun o q => k i2 (by simp) o q⟩
  item := by
    intro X hP hw hK hc i pins s σ H E I hf st hg
    subst hP hw hK
    obtain ⟨hz, hTI, ⟨a1, a2, hTO⟩, h1, h2⟩ := st
    obtain ⟨hlt, ys, y, hqy, hy⟩ := hg
    obtain ⟨its, rv, p, _⟩ := I.tuple hqy
    obtain ⟨u, hu, ru⟩ := rv.get hy
    obtain ⟨hul, hue⟩ := List.getElem?_eq_some_iff.mp hu
    have hzl : z < s.heap.objs.size := Heap.lt_size hz
    have D1 := Draws.text (prog := X.prog) (w := X.w) (A := X.A.in1) (show X.A.in1.handled = none from I.ok.hd hc) i1 x t
    have D2 := Draws.tuple (prog := X.prog) (w := X.w) (A := X.A.in1) (show X.A.in1.handled = none from I.ok.hd hc) i2 b (fun e => by have := S.mem2; exact absurd e (by have hbz := hf i2 (by simp); intro e; obtain ⟨f0, _⟩ := hbz; obtain ⟨o, ho, _⟩ := p; obtain ⟨o', ho', hc', _⟩ := h2; subst e; rw [ho] at ho'; cases ho'; simp_all)) its.toArray
    refine wpAny_pyNext_zipD2_item S D1 D2 hz hTI hTO h1 ⟨h2, p⟩ hlt (by simpa using hul) fun x1 x2 h' tk p1 p2 z' TO' h1' h2' hT hsz hk => ?_
    obtain ⟨c, u1, hc1, rfl⟩ := p1
    have ex : x2 = u := by
      have q1 : its[i]? = some x2 := by simpa using p2
      rw [hu] at q1
      exact (Option.some.inj q1).symm
    subst ex
    refine ⟨_, rfl, wpAny_letOwnedTupleGo_zip (s := { s with heap := h', toks := tk }) z' fun h'' z'' sb => ?_⟩
    have hT2 : h''.get? s.heap.objs.size = some { cls := .type "tuple", data := .seq #[.str ⟨#[c]⟩ u1, x2] } := (sb.2 _ (Nat.ne_of_gt hzl)).trans hT
    have new : ObjOk X.prog X.w (upd H s.heap.objs.size (.tup [.str ⟨#[c]⟩, y])) h'' s.heap.objs.size (.tup [.str ⟨#[c]⟩, y]) :=
      ⟨by show 2 ≤ sizeLine; decide, [.str ⟨#[c]⟩ u1, x2], .cons ⟨_, rfl⟩ (.cons ru .nil), ⟨_, hT2, rfl, _, rfl⟩⟩
    have I1 : L2.Inv X pins σ (upd H s.heap.objs.size (.tup [.str ⟨#[c]⟩, y])) { s with heap := h'', toks := tk } :=
      I.turnedNew (ch := [z, TI, TO, i1, i2]) (fun c o hb q => (sb.2 c (fun q' => hb (by simp [q']))).trans (hk c o (fun q' => hb (by simp [q'])) (fun q' => hb (by simp [q'])) (fun q' => hb (by simp [q'])) (fun q' => hb (by simp [q'])) q)) hf (Nat.le_refl _) new
    refine ⟨.ref s.heap.objs.size, _, I1, rfl, ⟨_, c, y, rfl, I.hok.fresh (Nat.le_refl _), rfl, hc1, fun l hl => by rw [I.tuple_inj hl hqy]; exact hy⟩, ⟨z'', ?_, ⟨.str ⟨#[c]⟩ u1, x2, ?_⟩, ?_, ?_⟩, fun c hcm => ?_⟩
    · exact (sb.2 _ S.TIz).trans (hk _ _ S.TIz S.TITO S.TIi1 S.TIi2 hTI)
    · exact (sb.2 _ S.TOz).trans TO'
    · obtain ⟨o1, e1, r1⟩ := h1'
      exact ⟨o1, (sb.2 _ S.zi1.symm).trans e1, r1⟩
    · exact h2'.1.at fun o q => (sb.2 _ S.zi2.symm).trans q
    · have hlt : c < s.heap.objs.size := by
        have e' : c = z ∨ c = TI ∨ c = TO ∨ c = i1 ∨ c = i2 := by simpa using hcm
        rcases e' with q | q | q | q | q
        · rw [q]; exact hzl
        · rw [q]; exact Heap.lt_size hTI
        · rw [q]; exact Heap.lt_size hTO
        · rw [q]; obtain ⟨_, e1, _⟩ := h1; exact Heap.lt_size e1
        · rw [q]; obtain ⟨_, e2, _⟩ := h2; exact Heap.lt_size e2
      rw [upd_ne (Nat.ne_of_lt hlt)]
      exact (hf c hcm).1
  done := by
    intro X hP hw hK hc i pins s σ H E I hf st hg
    subst hP hw hK
    obtain ⟨hz, hTI, ⟨a1, a2, hTO⟩, h1, h2⟩ := st
    obtain ⟨ys, hqy, hend⟩ := hg
    obtain ⟨its, rv, p, _⟩ := I.tuple hqy
    have l2 := rv.length
    have hsz : its.toArray.size = ys.length := by simp; omega
    have D1 := Draws.text (prog := X.prog) (w := X.w) (A := X.A.in1) (show X.A.in1.handled = none from I.ok.hd hc) i1 x t
    have D2 := Draws.tuple (prog := X.prog) (w := X.w) (A := X.A.in1) (show X.A.in1.handled = none from I.ok.hd hc) i2 b (fun e => by obtain ⟨o, ho, _⟩ := p; obtain ⟨o', ho', hc', _⟩ := h2; subst e; rw [ho] at ho'; cases ho'; simp_all) its.toArray
    exact wpAny_pyNext_zipD2_end S D1 D2 hz hTI hTO h1 ⟨h2, p⟩ (by omega) (by omega) (by omega) fun h' tk hk => ⟨rfl, I.turnedL (t' := tk) (ch := [z, TI, TO, i1, i2]) (fun c o hb q =>
      hk c o (fun q' => hb (by simp [q'])) (fun q' => hb (by simp [q'])) (fun q' => hb (by simp [q'])) (fun q' => hb (by simp [q'])) q) hf⟩
  self := fun A i s Q E st h => wpAny_pyIter_zip st.1 h
theorem walk_zipM {K : PySem.W.Frag} {z : Str} {b : Addr} {ys : List V} : Walk (ItzM K z b) (min z.cps.size ys.length) (fun H => SqT K H b ys) (YPair (fun i => z.cps[i]?.map fun c => .str ⟨#[c]⟩) (fun i => ys[i]?)) := by
  refine ⟨fun i _ hi q => ?_, fun _ q => ⟨ys, q, rfl⟩, fun i H v H' _ q y => ?_⟩
  · have h2 : i < ys.length := by omega
    exact ⟨by omega, ys, ys[i], q, by simp [h2]⟩
  · obtain ⟨T, c, y, h1, h2, h3, h4, h5⟩ := y
    exact ⟨T, .str ⟨#[c]⟩, y, h1, h2, h3, by show z.cps[i]?.map _ = _; rw [h4]; rfl, h5 ys q⟩
section
variable {X : Cx} {C : Ct}
def iZipM (K : PySem.W.Frag) (ta : TA) : TI := fun σ H R => ta σ H fun vs H1 => ∃ z b ys, vs = [.str z, .ref b] ∧ SqT K H1 b ys ∧ R (ItzM K z b) H1
theorem pi_zipM {e e2 : Expr} {ta : TA} {p pos tpos : Pos} {elts : List Expr} {kk : Nat} (hg : Gl X "zip") (hm : X.mg "zip" = none) (ha : PA X [e, e2] ta)
    (hs : starEach [e, e2] X.env = (false, eval e X.env) :: starEach [e2] X.env := by rfl) (hpl : (backTo pos (starEach [e2] X.env)).any (·.1) = false := by rfl) :
    PI X (.Tuple elts kk tpos) (.Call (.Name "zip" p) [e, e2] [] pos) (iZipM X.K ta) := by
  refine ⟨fun pins s σ H R I h => ?_⟩
  refine Call_ (ld_blt I hg hm PyProof.Rows.boot_zip (PyProof.Rows.callWith_type1 (thn (ha.run pos pins s σ H _ I h) fun us s1 ⟨vs, H1, I1, r1, q1⟩ => ?_) hs hpl))
  obtain ⟨z, b, ys, ex, hqy, q⟩ := q1
  subst ex
  cases r1 with
  | cons r rr =>
    cases rr with
    | cons r' rr =>
      cases rr
      obtain ⟨t, rfl⟩ := r
      cases r'
      have fresh5 : ∀ c, c ∈ [s1.heap.objs.size + 4, s1.heap.objs.size + 2, s1.heap.objs.size + 3, s1.heap.objs.size, s1.heap.objs.size + 1] → FpOk X pins H1 c := fun c hcm => by
        have e' : c = s1.heap.objs.size + 4 ∨ c = s1.heap.objs.size + 2 ∨ c = s1.heap.objs.size + 3 ∨ c = s1.heap.objs.size ∨ c = s1.heap.objs.size + 1 := by simpa using hcm
        have hle : s1.heap.objs.size ≤ c := by
          rcases e' with z | z | z | z | z
          · rw [z]; exact Nat.le_add_right _ _
          · rw [z]; exact Nat.le_add_right _ _
          · rw [z]; exact Nat.le_add_right _ _
          · rw [z]; exact Nat.le_refl _
          · rw [z]; exact Nat.le_add_right _ _
        exact I1.fpOk hle (I1.hok.fresh hle)
      obtain ⟨its2, rv2, p2, _⟩ := I1.tuple hqy
      obtain ⟨o2, ho2, _⟩ := id p2
      have hbl : b < s1.heap.objs.size := Heap.lt_size ho2
      refine zip_begins2 (begins_text z t) (begins_tuple b its2.toArray) trivial p2 fun h' hz hTI hTO h1 h2 hsz hk => wpAny_pyIter_zip hz ?_
      have I2 : L2.Inv X pins σ H1 { s1 with heap := h' } := I1.kept (t' := s1.toks) hk
      have sep : ZipSep2 (s1.heap.objs.size + 4) (s1.heap.objs.size + 2) (s1.heap.objs.size + 3) s1.heap.objs.size (s1.heap.objs.size + 1) [s1.heap.objs.size] [s1.heap.objs.size + 1, b] :=
        zip_sep2 (fp1 := []) (fp2 := [b]) (fun _ h => by cases h) (fun c h => by rw [List.mem_singleton.mp h]; exact hbl)
      exact ⟨s1.heap.objs.size + 4, [s1.heap.objs.size + 4, s1.heap.objs.size + 2, s1.heap.objs.size + 3, s1.heap.objs.size, s1.heap.objs.size + 1], _, _, H1, rfl, I2, turn_zipM (t := t) sep, ⟨hz, hTI, ⟨_, _, hTO⟩, ⟨_, h1, rfl, rfl⟩, ⟨_, h2, rfl, rfl⟩⟩, fresh5, q⟩
theorem pdi_zipM {elts : List Expr} {kk : Nat} {tpos : Pos} {e e2 : Expr} {p pos : Pos} {m : MA} (t : PI X (.Tuple elts kk tpos) (.Call (.Name "zip" p) [e, e2] [] pos) (iZipM X.K (tDA X.K C m))) :
    PI X (.Tuple elts kk tpos) (.Call (.Name "zip" p) [e, e2] [] pos) (tDI X.K C (miZipM m)) := pi_imp t (by
  rintro σ H R0 ⟨F, sd, Qd, R, h, k⟩
  refine ⟨F, sd, _, R, h, fun vs H1 F1 ds sd1 R1 S1 rs q => ?_⟩
  obtain ⟨z, ys, rfl, q⟩ := q
  obtain ⟨x, y, rfl, r, r'⟩ := rpA2 rs
  cases r
  cases r' with
  | @tup a zs _ h2 r2 =>
    refine ⟨_, _, _, rfl, same_t R1.ext h2, k _ H1 F1 _ sd1 R1 S1 ?_ q⟩
    have zl : ∀ (l m : List PyData), (zipL l m).length = min l.length m.length := fun l => by
      induction l with
      | nil => intro m; simp [zipL]
      | cons a l ih => intro m; cases m with
        | nil => simp [zipL]
        | cons b m => simp only [zipL, List.length_cons, ih]; omega
    have zg : ∀ (l m : List PyData) (i : Nat) (a b : PyData), l[i]? = some a → m[i]? = some b → (zipL l m)[i]? = some (.tuple [a, b]) := fun l => by
      induction l with
      | nil => intro m i a b h; simp at h
      | cons a l ih =>
        intro m i a' b' h1 h2
        cases m with
        | nil => simp at h2
        | cons b m =>
          cases i with
          | zero => simp at h1 h2; subst h1; subst h2; rfl
          | succ i => simp at h1 h2; simp only [zipL]; rw [List.getElem?_cons_succ]; exact ih m i a' b' h1 h2
    have hl : (zipL (signsD z) ys).length = min z.cps.size zs.length := by
      rw [zl, r2.length]
      simp [signsD]
    refine ⟨fun H => SqT X.K H a zs, YPair (fun i => z.cps[i]?.map fun c => .str ⟨#[c]⟩) (fun i => zs[i]?), by rw [hl]; exact walk_zipM, fun H e => same_t e h2, fun i H x H' F' hi e1 e2 y => ?_⟩
    obtain ⟨T, x1, x2, rfl, hT, hH, y1, y2⟩ := y
    obtain ⟨d, hd, rd⟩ := rpA_at r2 y2
    have y1 : z.cps[i]?.map (fun c => V.str ⟨#[c]⟩) = some x1 := y1
    cases hcz : z.cps[i]? with
    | none => rw [hcz] at y1; cases y1
    | some c =>
      rw [hcz] at y1
      cases y1
      obtain ⟨F2, al, rr⟩ := pair_al hT e2 hH (.str _) (rd.mono e1)
      refine ⟨F2, _, al, ?_, rr⟩
      refine zg _ _ _ _ _ ?_ hd
      unfold signsD
      rw [List.getElem?_map, Array.getElem?_toList, hcz]
      rfl)
end
end DL
namespace DL
open PySem PySem.Spec PyProof.Rows L2
/-- behind each item of the first source the second source's own loop; the list goes on growing -/
def lc2L (mg : MG) (mt : MT) (mi1 : MI) (mg1 : MG) (mt1 : MT) (me : ME) (vs vs1 : List Nat) (Q : List PyData → DSt → Prop) : List PyData → DSt → List PyData → Prop
  | [], s, acc => Q acc s
  | d :: ds, s, acc => mg d (swipe s vs) fun s1 => mt s1 fun b s2 => if b = true then mi1 s2 fun ds1 s3 => unOwn s3 vs1 = true ∧ lcL mg1 mt1 me vs1 (fun acc' s4 => lc2L mg mt mi1 mg1 mt1 me vs vs1 Q ds (swipe s4 vs1) acc') ds1 s3 acc
      else lc2L mg mt mi1 mg1 mt1 me vs vs1 Q ds s2 acc
def mLc2 (mi : MI) (mg : MG) (mt : MT) (mi1 : MI) (mg1 : MG) (mt1 : MT) (me : ME) (vs vs1 : List Nat) : ME := fun sd Q => mi sd fun ds s => unOwn s vs = true ∧ lc2L mg mt mi1 mg1 mt1 me vs vs1 (fun out s' => Q (.list out) (sback s s' vs)) ds s []
theorem wipe_sub {σ : L2.St} {vs : List Nat} : ∀ {vs1 : List Nat}, (∀ i ∈ vs1, i ∈ vs) → wipe (wipe σ vs1) vs = wipe σ vs
  | [], _ => rfl
  | v :: vs1, h => by
    show wipe ((wipe σ vs1).set v none) vs = _
    rw [wipe_set (h v (by simp)), wipe_sub fun i hi => h i (by simp [hi])]
section
variable {K : PySem.W.Frag} {X : Cx} {C : Ct}
/-- one turn's beginning, the slots vb of σb wiped -/
structure LcG (K : PySem.W.Frag) (C : Ct) (σ : L2.St) (s1 : DSt) (F1 H1 : Hp) (σb : L2.St) (vb : List Nat) (Dl : Addr) (F' H' : Hp) (s : DSt) (acc : List PyData) : Prop where
  R : Rs K C F' H' (wipe σb vb) (swipe s vb)
  fr : Same F1 F'
  kp : ∀ a o, H1 a = some o → ¬ Owned σ s1 a → H' a = some o
  ow : ∀ a, Owned (wipe σb vb) (swipe s vb) a → Owned σ s1 a
  nw : ∀ a o, F' a = some o → F1 a = some o ∨ H1 a = none ∨ Owned σ s1 a
  st : ∀ a, H' a = none → H1 a = none
  dl : ∃ vacc, H' Dl = some (.lst vacc) ∧ RpA K F' vacc acc
  df : F' Dl = none
theorem LcG.to {σ : L2.St} {s1 s : DSt} {F1 H1 F' H' : Hp} {vs : List Nat} {Dl : Addr} {acc : List PyData} (L : LcG K C σ s1 F1 H1 σ vs Dl F' H' s acc) : LcSt K C σ s1 F1 H1 vs Dl F' H' s acc := ⟨L.R, L.fr, L.kp, L.ow, L.nw, L.st, L.dl, L.df⟩
theorem lcg_turn {σ σb σ2 σc : L2.St} {s1 s s2 : DSt} {F1 H1 F' H' F2 H2 F3 H3 : Hp} {vb vc : List Nat} {Dl : Addr} {acc : List PyData} (R1 : Rs K C F1 H1 σ s1) (hD : H1 Dl = none) (L : LcG K C σ s1 F1 H1 σb vb Dl F' H' s acc) (al : Al F' H' F2 H2)
    {s0 : DSt} (ho : ∀ a, Owned σ2 s0 a → Owned (wipe σb vb) (swipe s vb) a) (S3 : Stp σ2 s0 F2 H2 F3 H3 s2) (Rn : Rs K C F3 H3 (wipe σc vc) (swipe s2 vc)) (on : ∀ a, Owned (wipe σc vc) (swipe s2 vc) a → Owned σ2 s2 a) : LcG K C σ s1 F1 H1 σc vc Dl F3 H3 s2 acc ∧ ¬ Owned (wipe σc vc) (swipe s2 vc) Dl ∧ C.H0 Dl = none := by
  have A := Stp.al L.R al
  have ow3 : ∀ a, Owned (wipe σc vc) (swipe s2 vc) a → Owned σ s1 a := fun a z => L.ow a (ho a (S3.ow a (on a z)))
  have nD : ¬ Owned σ s1 Dl := fun z => by
    obtain ⟨x, e⟩ := owned_at R1 z
    rw [hD] at e; cases e
  obtain ⟨vacc, h1, h2⟩ := L.dl
  have h12 : H2 Dl = some (.lst vacc) := A.kp _ _ h1 fun z => nD (L.ow _ z)
  have nD0 : ¬ Owned σ2 s0 Dl := fun z => nD (L.ow _ (ho _ z))
  refine ⟨⟨Rn, (L.fr.trans A.fr).trans S3.fr, fun a o e n => S3.kp a o (A.kp a o (L.kp a o e n) fun z => n (L.ow a z)) fun z => n (L.ow a (ho a z)), ow3, fun a o e => ?_, fun a e => L.st a (A.st a (S3.st a e)), ⟨vacc, S3.kp _ _ h12 nD0, (h2.mono A.fr).mono S3.fr⟩, ?_⟩, fun z => nD (ow3 _ z), R1.still _ hD⟩
  · rcases S3.nw a o e with e | e | e
    · rcases A.nw a o e with e | e | e
      · exact L.nw a o e
      · exact .inr (.inl (L.st a e))
      · exact .inr (.inr (L.ow a e))
    · exact .inr (.inl (L.st a (A.st a e)))
    · exact .inr (.inr (L.ow a (ho a e)))
  · cases e : F3 Dl with
    | none => rfl
    | some o =>
      rcases S3.nw _ o e with e | e | e
      · rcases A.nw _ o e with e | e | e
        · rw [L.df] at e; cases e
        · rw [h1] at e; cases e
        · exact (nD (L.ow _ e)).elim
      · rw [h12] at e; cases e
      · exact (nD0 e).elim
/-- the new list grows by an item -/
theorem LcG.push {σ σb : L2.St} {s1 s : DSt} {F1 H1 F' H' : Hp} {vb : List Nat} {Dl : Addr} {acc : List PyData} {vacc : List V} {y : V} {dy : PyData} (hD : H1 Dl = none) (L : LcG K C σ s1 F1 H1 σb vb Dl F' H' s acc) (no : ¬ Owned (wipe σb vb) (swipe s vb) Dl) (h0 : C.H0 Dl = none)
    (e1 : H' Dl = some (.lst vacc)) (e2 : RpA K F' vacc acc) (ry : Rp K F' y dy) : LcG K C σ s1 F1 H1 σb vb Dl F' (upd H' Dl (.lst (vacc ++ [y]))) s (acc ++ [dy]) := by
  refine ⟨L.R.updH L.df no h0, L.fr, fun a o e n => ?_, L.ow, L.nw, fun a e => ?_, ⟨_, upd_same, e2.snoc ry⟩, L.df⟩
  · have : a ≠ Dl := fun z => by subst z; rw [hD] at e; cases e
    rw [upd_ne this]; exact L.kp a o e n
  · by_cases z : a = Dl
    · subst z; exact hD
    · rw [upd_ne z] at e; exact L.st a e
theorem td_lc2 {mi mi1 : MI} {mg mg1 : MG} {mt mt1 : MT} {me : ME} {vs vs1 : List Nat} (hv : ∀ i ∈ vs1, i ∈ vs) {σ : L2.St} {H : Hp} {Q : VK} {F : Hp} {sd : DSt} {P : List PyData → DSt → Prop} (R : Rs K C F H σ sd) (h : mi sd fun ds s => unOwn s vs = true ∧ lc2L mg mt mi1 mg1 mt1 me vs vs1 (fun out s' => P out (sback s s' vs)) ds s [])
    (k : ∀ Dl H' F' out vout sd', Rs K C F' H' σ sd' → Stp σ sd F H F' H' sd' → H' Dl = some (.lst vout) → RpA K F' vout out → F' Dl = none → C.H0 Dl = none → ¬ Owned σ sd' Dl → H Dl = none → P out sd' → Q (.ref Dl) H') :
    tLc2 (tDI K C mi) (tDGv K C vs mg) (tDT K C mt) (tDI K C mi1) (tDGv K C vs1 mg1) (tDT K C mt1) (tD K C me) vs vs1 σ H Q := by
  refine ⟨F, sd, _, R, h, fun J H1 F1 ds s1 R1 S1 W h1 => fun Dl hD => ?_⟩
  obtain ⟨hu, h1⟩ := h1
  obtain ⟨G, Y, w, hG, hY⟩ := W.ex
  have nD : ¬ Owned σ s1 Dl := fun z => by
    obtain ⟨x, e⟩ := owned_at R1 z
    rw [hD] at e; cases e
  let Pv : Nat → Hp → Prop := fun i H' => ∃ F' s acc, LcG K C σ s1 F1 H1 σ vs Dl F' H' s acc ∧ lc2L mg mt mi1 mg1 mt1 me vs vs1 (fun out s' => P out (sback s1 s' vs)) (ds.drop i) s acc
  have p0 : Pv 0 (upd H1 Dl (.lst [])) := by
    refine ⟨F1, s1, [], ⟨rs_wipe (R1.allocH hD) vs, Same.refl _, fun a o e _ => same_new hD a o e, fun a z => owned_wipe z, fun a o e => .inl e, fun a e => ?_, ⟨[], upd_same, .nil⟩, R1.free hD⟩, h1⟩
    by_cases z : a = Dl
    · subst z; exact hD
    · rw [upd_ne z] at e; exact e
  refine ⟨fun i m H => m = ds.length - i ∧ i ≤ ds.length ∧ Pv i H, ⟨_, rfl, Nat.zero_le _, p0⟩, ?_⟩
  rintro i m H' ⟨rfl, hi, p⟩
  obtain ⟨F', s, acc, L, q⟩ := p
  have gH : G H' := hG H' (L.fr.trans L.R.ext)
  by_cases hge : ds.length ≤ i
  · have e : i = ds.length := by omega
    subst e
    rw [List.drop_length] at q
    obtain ⟨vacc, a1, a2, a3, a4, a5, a6, a7⟩ := lc_end R1 hu hD L.to
    exact .inl ⟨w.stops H' gH, k Dl H' F' acc vacc _ a5 (S1.trans a6) a1 a2 a3 a4 a7 (S1.st _ hD) q⟩
  have hlt : i < ds.length := by omega
  refine .inr ⟨w.goes i H' hlt gH, Pv (i + 1), fun H2 p2 => ⟨ds.length - (i + 1), by omega, rfl, hlt, p2⟩, fun x H'' y => ?_⟩
  have y := w.yields i H' x H'' hlt gH y
  obtain ⟨F2, d, al, hd, rd⟩ := hY i H' x H'' F' hlt L.fr L.R.ext y
  rw [drop_get hd] at q
  refine ⟨F2, swipe s vs, d, _, L.R.al al, rd, q, fun σ2 s2 R2 hw ho q2 => ⟨by rw [hw, wipe_wipe], F2, s2, _, R2, q2, fun b H3 F3 s3 R3 S3 q3 => ?_⟩⟩
  rw [wipe_wipe] at hw
  cases b with
  | false =>
    obtain ⟨L4, _, _⟩ := lcg_turn (σc := σ) (vc := vs) R1 hD L al ho S3 (by rw [← hw]; exact rs_wipe R3 vs) (fun a z => by rw [← hw] at z; exact owned_wipe z)
    exact ⟨F3, s3, acc, L4, q3⟩
  | true =>
    refine ⟨F3, s3, _, R3, q3, fun J1 H4 F4 ds1 s4 R4 S4 W4 q4 => ?_⟩
    obtain ⟨hu1, q4⟩ := q4
    obtain ⟨G1, Y1, w1, hG1, hY1⟩ := W4.ex
    obtain ⟨L4, _, _⟩ := lcg_turn (σc := σ2) (vc := vs1) R1 hD L al ho (S3.trans S4) (rs_wipe R4 vs1) (fun a z => owned_wipe z)
    let Pv1 : Nat → Hp → Prop := fun j H5 => ∃ F5 s5 acc5, LcG K C σ s1 F1 H1 σ2 vs1 Dl F5 H5 s5 acc5 ∧ Same F4 F5 ∧ lcL mg1 mt1 me vs1 (fun acc' s' => lc2L mg mt mi1 mg1 mt1 me vs vs1 (fun out s' => P out (sback s1 s' vs)) (ds.drop (i + 1)) (swipe s' vs1) acc') (ds1.drop j) s5 acc5
    refine ⟨fun j m H => m = ds1.length - j ∧ j ≤ ds1.length ∧ Pv1 j H, ⟨_, rfl, Nat.zero_le _, F4, s4, acc, L4, Same.refl _, q4⟩, ?_⟩
    rintro j m H5 ⟨rfl, hj, F5, s5, acc5, L5, sm, q5⟩
    have gH1 : G1 H5 := hG1 H5 (sm.trans L5.R.ext)
    by_cases hge1 : ds1.length ≤ j
    · have e : j = ds1.length := by omega
      subst e
      rw [List.drop_length] at q5
      refine .inl ⟨w1.stops H5 gH1, F5, swipe s5 vs1, acc5, ⟨?_, L5.fr, L5.kp, fun a z => ?_, L5.nw, L5.st, L5.dl, L5.df⟩, q5⟩
      · have := rs_wipe L5.R vs
        rw [wipe_sub hv, hw] at this
        exact this
      · rw [← hw, ← wipe_sub hv] at z
        exact L5.ow a (owned_wipe z)
    have hlt1 : j < ds1.length := by omega
    refine .inr ⟨w1.goes j H5 hlt1 gH1, Pv1 (j + 1), fun H6 p6 => ⟨ds1.length - (j + 1), by omega, rfl, hlt1, p6⟩, fun x1 H6 y1 => ?_⟩
    have y1 := w1.yields j H5 x1 H6 hlt1 gH1 y1
    obtain ⟨F6, d1, al1, hd1, rd1⟩ := hY1 j H5 x1 H6 F5 hlt1 sm L5.R.ext y1
    rw [drop_get hd1] at q5
    refine ⟨F6, swipe s5 vs1, d1, _, L5.R.al al1, rd1, q5, fun σ3 s6 R6 hw1 ho1 q6 => ⟨by rw [hw1, wipe_wipe], F6, s6, _, R6, q6, fun b H7 F7 s7 R7 S7 q7 => ?_⟩⟩
    rw [wipe_wipe] at hw1
    have smal : ∀ {Fa : Hp}, Same F6 Fa → Same F4 Fa := fun h => (sm.trans (Stp.al L5.R al1).fr).trans h
    cases b with
    | false =>
      obtain ⟨L7, _, _⟩ := lcg_turn (σc := σ2) (vc := vs1) R1 hD L5 al1 ho1 S7 (by rw [← hw1]; exact rs_wipe R7 vs1) (fun a z => by rw [← hw1] at z; exact owned_wipe z)
      exact ⟨F7, s7, acc5, L7, smal S7.fr, q7⟩
    | true =>
      refine ⟨F7, s7, _, R7, q7, fun y H8 F8 dy s8 R8 S8 ry q8 => ?_⟩
      obtain ⟨L8, no8, h08⟩ := lcg_turn (σc := σ2) (vc := vs1) R1 hD L5 al1 ho1 (S7.trans S8) (by rw [← hw1]; exact rs_wipe R8 vs1) (fun a z => by rw [← hw1] at z; exact owned_wipe z)
      obtain ⟨vacc, e1, e2⟩ := L8.dl
      exact ⟨vacc, e1, by rw [e2.length]; exact line_lt q8.1, F8, s8, acc5 ++ [dy], L8.push hD no8 h08 e1 e2 ry, smal (S7.fr.trans S8.fr), q8.2⟩
theorem td_lc2V {mi mi1 : MI} {mg mg1 : MG} {mt mt1 : MT} {me : ME} {vs vs1 : List Nat} (hv : ∀ i ∈ vs1, i ∈ vs) : ∀ σ H Q, tD K C (mLc2 mi mg mt mi1 mg1 mt1 me vs vs1) σ H Q → tLc2 (tDI K C mi) (tDGv K C vs mg) (tDT K C mt) (tDI K C mi1) (tDGv K C vs1 mg1) (tDT K C mt1) (tD K C me) vs vs1 σ H Q := by
  rintro σ H Q ⟨F, sd, Qd, R, h, k⟩
  refine td_lc2 hv R h fun Dl H' F' out vout sd' R' S h1 r hF h0 ho hn q => ?_
  obtain ⟨R2, rp⟩ := R'.freezeD h1 hF h0 ho r
  exact k _ H' _ _ sd' R2 (S.freezeD hF hn) rp q
variable {elt tg iter tg1 iter1 : Expr} {ifs ifs1 : List Expr} {scope : Scope} {pos : Pos} {mi mi1 : MI} {mg mg1 : MG} {mt mt1 : MT} {me : ME} {vs vs1 : List Nat}
theorem pd_lc2 (hv : ∀ i ∈ vs1, i ∈ vs) (t : PE X (.ListComp elt [⟨tg, iter, ifs, 0⟩, ⟨tg1, iter1, ifs1, 0⟩] scope pos) (tLc2 (tDI X.K C mi) (tDGv X.K C vs mg) (tDT X.K C mt) (tDI X.K C mi1) (tDGv X.K C vs1 mg1) (tDT X.K C mt1) (tD X.K C me) vs vs1)) : PE X (.ListComp elt [⟨tg, iter, ifs, 0⟩, ⟨tg1, iter1, ifs1, 0⟩] scope pos) (tD X.K C (mLc2 mi mg mt mi1 mg1 mt1 me vs vs1)) := pe_imp t (td_lc2V hv)
theorem pds_setLc2 (hv : ∀ i ∈ vs1, i ∈ vs) {y : Expr} {spos : Pos} {i : Nat} (t : PS X (.Assign [y] (.ListComp elt [⟨tg, iter, ifs, 0⟩, ⟨tg1, iter1, ifs1, 0⟩] scope pos) spos) (tAsg (tLc2 (tDI X.K C mi) (tDGv X.K C vs mg) (tDT X.K C mt) (tDI X.K C mi1) (tDGv X.K C vs1 mg1) (tDT X.K C mt1) (tD X.K C me) vs vs1) (gName i))) :
    PS X (.Assign [y] (.ListComp elt [⟨tg, iter, ifs, 0⟩, ⟨tg1, iter1, ifs1, 0⟩] scope pos) spos) (tDS X.K C (mAsg (mLc2 mi mg mt mi1 mg1 mt1 me vs vs1) (mgName i))) := ps_imp t (by
  rintro D σ H ⟨F, sd, Dd, R, E, h⟩
  refine td_lc2V hv σ H _ ⟨F, sd, _, R, h, fun v H1 F1 d sd1 R1 S1 r q => ?_⟩
  exact E.nx F1 H1 _ _ S1.fr (R1.setva r) q)
end
end DL
namespace DL
open PySem PySem.Spec PyProof.Rows L2
def CDivZ (i j : Int) : Prop := j ≠ 0 ∧ j.natAbs.log2 < 9000
theorem op_fdivZ {X : Cx} : OpR X (binaryOp .FloorDiv) (rI CDivZ fun i j => .int (i.fdiv j)) := opI fun i j _ _ _ _ _ hc q => floordiv_int hc.1 q (.inl (PyProof.noPylong_of_log2 hc.2))
def opFdivZ : PyData → PyData → Option PyData
  | .int a, .int b => if b ≠ 0 ∧ b.natAbs.log2 < 9000 then some (.int (a.fdiv b)) else none
  | _, _ => none
theorem rl_fdivZ {K : PySem.W.Frag} : RL2 K (rI CDivZ fun i j => V.int (i.fdiv j)) opFdivZ := by
  intro F H x y a b z Q e _ rx ry h k
  unfold opFdivZ at h
  split at h
  · cases rx; cases ry
    split at h
    · rename_i hs
      cases h
      exact ⟨_, _, rfl, rfl, hs, k _ F H .id (.int _)⟩
    · cases h
  · cases h
theorem opFdivZ_ok {a b : Int} {k : Nat} (h : b ≠ 0) (hb : sz k b) (hk : k < 9000) : opFdivZ (.int a) (.int b) = some (.int (a.fdiv b)) := by
  have := sz_log hb
  show (if b ≠ 0 ∧ b.natAbs.log2 < 9000 then _ else _) = _
  rw [if_pos ⟨h, by omega⟩]
/-- a comprehension with two fors by what each pair gives -/
theorem lc2L_run {mg mg1 : MG} {mt mt1 : MT} {mi1 : MI} {me : ME} {vs vs1 : List Nat} {Q : List PyData → DSt → Prop} (I : DSt → Prop) (k : PyData → PyData → Option PyData) (ds1 : List PyData) : ∀ ds : List PyData,
    (∀ d ∈ ds, ∀ s, I s → ∀ (N : List PyData → DSt → Prop) (acc : List PyData), acc.length + ds1.length ≤ 100000 → (∀ s', I s' → N (acc ++ ds1.filterMap (k d)) s') →
      mg d (swipe s vs) fun s1 => mt s1 fun b s2 => if b = true then mi1 s2 fun ds2 s3 => unOwn s3 vs1 = true ∧ lcL mg1 mt1 me vs1 (fun acc' s4 => N acc' (swipe s4 vs1)) ds2 s3 acc else N acc s2) →
    ∀ s acc, I s → acc.length + ds.length * ds1.length ≤ 100000 → (∀ s', I s' → Q (acc ++ ds.flatMap fun d => ds1.filterMap (k d)) s') → lc2L mg mt mi1 mg1 mt1 me vs vs1 Q ds s acc
  | [], _, s, acc, hI, _, q => by
    have := q s hI
    simpa [lc2L] using this
  | d :: ds, h, s, acc, hI, hl, q => by
    have e : (d :: ds).length * ds1.length = ds1.length + ds.length * ds1.length := by rw [List.length_cons, Nat.succ_mul, Nat.add_comm]
    rw [e] at hl
    refine h d (by simp) s hI (fun acc' s' => lc2L mg mt mi1 mg1 mt1 me vs vs1 Q ds s' acc') acc (by omega) fun s' hI' => ?_
    refine lc2L_run I k ds1 ds (fun d' hd' => h d' (by simp [hd'])) s' _ hI' ?_ fun s'' hI'' => ?_
    · have := List.length_filterMap_le (k d) ds1
      rw [List.length_append]
      omega
    · have := q s'' hI''
      rw [List.append_assoc]
      simpa using this
/-- min(a list of ints), not empty -/
def bMinL : List PyData → Option PyData
  | [.list xs] => match ints? xs with
    | some (n :: ns) => some (.int (ns.foldl min n))
    | _ => none
  | _ => none
theorem foldl_min : ∀ (ns : List Int) (n : Int), (ns.foldl min n ∈ n :: ns) ∧ ∀ a ∈ n :: ns, ns.foldl min n ≤ a
  | [], n => ⟨by simp, fun a ha => by simp at ha; subst ha; exact Int.le_refl _⟩
  | m :: ns, n => by
    obtain ⟨h1, h2⟩ := foldl_min ns (min n m)
    rw [List.foldl_cons]
    refine ⟨?_, fun a ha => ?_⟩
    · rcases List.mem_cons.mp h1 with h | h
      · rw [h]
        by_cases c : n ≤ m
        · rw [Int.min_eq_left c]; simp
        · rw [Int.min_eq_right (by omega)]; simp
      · simp [h]
    · have h0 := h2 (min n m) (by simp)
      rcases List.mem_cons.mp ha with rfl | ha
      · exact Int.le_trans h0 (Int.min_le_left _ _)
      · rcases List.mem_cons.mp ha with rfl | ha
        · exact Int.le_trans h0 (Int.min_le_right _ _)
        · exact h2 a (by simp [ha])
theorem rc_minL {K : PySem.W.Frag} : RLC K (rMin K) bMinL := by
  intro F H xs as z Q e _ rx h k
  unfold bMinL at h
  split at h
  · obtain ⟨x, rfl, r⟩ := rpA1 rx
    cases r with
    | lst h1 r1 =>
      split at h
      · rename_i n ns hn
        cases h
        rw [ints_rp r1 hn] at h1
        refine ⟨_, n :: ns, rfl, .inl (.inl (e _ _ h1)), by simp, fun m hm hle => ?_⟩
        obtain ⟨f1, f2⟩ := foldl_min ns n
        have : m = ns.foldl min n := by
          have a1 := hle _ f1
          have a2 := f2 _ hm
          omega
        rw [this]
        exact k _ F H .id (.int _)
      · cases h
  · cases h
end DL
namespace DL
open PySem PySem.Spec PyProof.Rows L2
def zipL3 : List PyData → List PyData → List PyData → List PyData
  | x :: xs, y :: ys, z :: zs => .tuple [x, y, z] :: zipL3 xs ys zs
  | _, _, _ => []
def miZip3 (ma : MA) : MI := fun sd Q => ma sd fun ds s1 => ∃ xs ys zs, ds = [.tuple xs, .tuple ys, .tuple zs] ∧ Q (zipL3 xs ys zs) s1
/-- the tuples at a, b, c as they stand at each turn, the items in new triples -/
def Itz3 (K : PySem.W.Frag) (a b c : Addr) : It :=
  ⟨fun i H => ∃ (xs ys zs : List V) (x y z : V), SqT K H a xs ∧ SqT K H b ys ∧ SqT K H c zs ∧ xs[i]? = some x ∧ ys[i]? = some y ∧ zs[i]? = some z,
    fun i H v H' => ∃ T x y z, v = .ref T ∧ H T = none ∧ H' = upd H T (.tup [x, y, z]) ∧ (∀ xs, SqT K H a xs → xs[i]? = some x) ∧ (∀ ys, SqT K H b ys → ys[i]? = some y) ∧ ∀ zs, SqT K H c zs → zs[i]? = some z,
    fun i H => ∃ xs ys zs : List V, SqT K H a xs ∧ SqT K H b ys ∧ SqT K H c zs ∧ i = min xs.length (min ys.length zs.length)⟩
theorem turn_zip3 {P : Program} {w : World} {K : PySem.W.Frag} {elts : List Expr} {kk : Nat} {tpos : Pos} {a b c z TI TO i1 i2 i3 : Addr} (S : ZipSep3 z TI TO i1 i2 i3 [i1, a] [i2, b] [i3, c]) :
    Turn P w K (.Tuple elts kk tpos) (Itz3 K a b c) [z, TI, TO, i1, i2, i3] z (fun i h => IsZip h z TI TO .none ∧ IsTupOf3 h TI (.ref i1) (.ref i2) (.ref i3) ∧ (∃ a1 a2 a3, IsTupOf3 h TO a1 a2 a3) ∧ h.IsTupleIter i1 a i ∧ h.IsTupleIter i2 b i ∧ h.IsTupleIter i3 c i) where
  mem := by simp
  obj := fun i h st d hd => by
    obtain ⟨hz, hTI, ⟨a1, a2, a3, hTO⟩, ⟨o1, e1, _, d1⟩, ⟨o2, e2, _, d2⟩, ⟨o3, e3, _, d3⟩⟩ := st
    have e' : d = z ∨ d = TI ∨ d = TO ∨ d = i1 ∨ d = i2 ∨ d = i3 := by simpa using hd
    rcases e' with q | q | q | q | q | q
    · rw [q]; exact ⟨_, hz, fun v q => nomatch q⟩
    · rw [q]; exact ⟨_, hTI, fun v q => nomatch q⟩
    · rw [q]; exact ⟨_, hTO, fun v q => nomatch q⟩
    · rw [q]; exact ⟨o1, e1, fun v q => by rw [d1] at q; cases q⟩
    · rw [q]; exact ⟨o2, e2, fun v q => by rw [d2] at q; cases q⟩
    · rw [q]; exact ⟨o3, e3, fun v q => by rw [d3] at q; cases q⟩
  keep := fun i h h' st k => by
    obtain ⟨hz, hTI, ⟨a1, a2, a3, hTO⟩, h1, h2, h3⟩ := st
    exact ⟨k z (by simp) _ hz, k TI (by simp) _ hTI, ⟨a1, a2, a3, k TO (by simp) _ hTO⟩, h1.at fun o q => k i1 (by simp) o q, h2.at fun o q => k i2 (by simp) o q, h3.at fun o q => k i3 (by simp) o q⟩
  item := by
    intro X hP hw hK hc i pins s σ H E I hf st hg
    subst hP hw hK
    obtain ⟨hz, hTI, ⟨a1, a2, a3, hTO⟩, h1, h2, h3⟩ := st
    obtain ⟨xs, ys, zs, x, y, zz, hqx, hqy, hqz, hx, hy, hzz⟩ := hg
    obtain ⟨its1, rv1, p1, _⟩ := I.tuple hqx
    obtain ⟨its2, rv2, p2, _⟩ := I.tuple hqy
    obtain ⟨its3, rv3, p3, _⟩ := I.tuple hqz
    obtain ⟨u1, hu1, ru1⟩ := rv1.get hx
    obtain ⟨u2, hu2, ru2⟩ := rv2.get hy
    obtain ⟨u3, hu3, ru3⟩ := rv3.get hzz
    obtain ⟨hl1, -⟩ := List.getElem?_eq_some_iff.mp hu1
    obtain ⟨hl2, -⟩ := List.getElem?_eq_some_iff.mp hu2
    obtain ⟨hl3, -⟩ := List.getElem?_eq_some_iff.mp hu3
    have hzl : z < s.heap.objs.size := Heap.lt_size hz
    have hh : X.A.in1.handled = none := I.ok.hd hc
    have nt : ∀ {i a : Addr} {its : Array Value} {k : Nat}, s.heap.IsTuple a its → s.heap.IsTupleIter i a k → a ≠ i := fun {i a its k} p h e => by
      obtain ⟨o, ho, _⟩ := p; obtain ⟨o', ho', hc', _⟩ := h; subst e; rw [ho] at ho'; cases ho'; simp_all
    have D1 := Draws.tuple (prog := X.prog) (w := X.w) (A := X.A.in1) hh i1 a (nt p1 h1) its1.toArray
    have D2 := Draws.tuple (prog := X.prog) (w := X.w) (A := X.A.in1) hh i2 b (nt p2 h2) its2.toArray
    have D3 := Draws.tuple (prog := X.prog) (w := X.w) (A := X.A.in1) hh i3 c (nt p3 h3) its3.toArray
    refine wpAny_pyNext_zipD3_item S D1 D2 D3 hz hTI hTO ⟨h1, p1⟩ ⟨h2, p2⟩ ⟨h3, p3⟩ (by simpa using hl1) (by simpa using hl2) (by simpa using hl3) fun x1 x2 x3 h' tk q1 q2 q3 z' TO' h1' h2' h3' hT hsz hk => ?_
    have ex : ∀ {its : List Value} {v u : Value}, its.toArray[i]? = some v → its[i]? = some u → v = u := fun {its v u} a b => by
      have : its[i]? = some v := by simpa using a
      rw [b] at this
      exact (Option.some.inj this).symm
    obtain rfl := ex q1 hu1
    obtain rfl := ex q2 hu2
    obtain rfl := ex q3 hu3
    refine ⟨_, rfl, wpAny_letOwnedTupleGo_zip (s := { s with heap := h', toks := tk }) z' fun h'' z'' sb => ?_⟩
    have hT2 : h''.get? s.heap.objs.size = some { cls := .type "tuple", data := .seq #[x1, x2, x3] } := (sb.2 _ (Nat.ne_of_gt hzl)).trans hT
    have new : ObjOk X.prog X.w (upd H s.heap.objs.size (.tup [x, y, zz])) h'' s.heap.objs.size (.tup [x, y, zz]) :=
      ⟨by show 3 ≤ sizeLine; decide, [x1, x2, x3], .cons ru1 (.cons ru2 (.cons ru3 .nil)), ⟨_, hT2, rfl, _, rfl⟩⟩
    have I1 : L2.Inv X pins σ (upd H s.heap.objs.size (.tup [x, y, zz])) { s with heap := h'', toks := tk } :=
      I.turnedNew (ch := [z, TI, TO, i1, i2, i3]) (fun c o hb q => (sb.2 c (fun q' => hb (by simp [q']))).trans (hk c o (fun q' => hb (by simp [q'])) (fun q' => hb (by simp [q'])) (fun q' => hb (by simp [q'])) (fun q' => hb (by simp [q'])) (fun q' => hb (by simp [q'])) q)) hf (Nat.le_refl _) new
    refine ⟨.ref s.heap.objs.size, _, I1, rfl, ⟨_, x, y, zz, rfl, I.hok.fresh (Nat.le_refl _), rfl, fun l hl => by rw [I.tuple_inj hl hqx]; exact hx, fun l hl => by rw [I.tuple_inj hl hqy]; exact hy, fun l hl => by rw [I.tuple_inj hl hqz]; exact hzz⟩, ⟨z'', ?_, ⟨x1, x2, x3, ?_⟩, ?_, ?_, ?_⟩, fun d hcm => ?_⟩
    · exact (sb.2 _ S.TIz).trans (hk _ _ S.TIz S.TITO S.TIi1 S.TIi2 S.TIi3 hTI)
    · exact (sb.2 _ S.TOz).trans TO'
    · exact h1'.1.at fun o q => (sb.2 _ S.zi1.symm).trans q
    · exact h2'.1.at fun o q => (sb.2 _ S.zi2.symm).trans q
    · exact h3'.1.at fun o q => (sb.2 _ S.zi3.symm).trans q
    · have hlt : d < s.heap.objs.size := by
        have e' : d = z ∨ d = TI ∨ d = TO ∨ d = i1 ∨ d = i2 ∨ d = i3 := by simpa using hcm
        rcases e' with q | q | q | q | q | q
        · rw [q]; exact hzl
        · rw [q]; exact Heap.lt_size hTI
        · rw [q]; exact Heap.lt_size hTO
        · rw [q]; obtain ⟨_, e1, _⟩ := h1; exact Heap.lt_size e1
        · rw [q]; obtain ⟨_, e2, _⟩ := h2; exact Heap.lt_size e2
        · rw [q]; obtain ⟨_, e3, _⟩ := h3; exact Heap.lt_size e3
      rw [upd_ne (Nat.ne_of_lt hlt)]
      exact (hf d hcm).1
  done := by
    intro X hP hw hK hc i pins s σ H E I hf st hg
    subst hP hw hK
    obtain ⟨hz, hTI, ⟨a1, a2, a3, hTO⟩, h1, h2, h3⟩ := st
    obtain ⟨xs, ys, zs, hqx, hqy, hqz, hend⟩ := hg
    obtain ⟨its1, rv1, p1, _⟩ := I.tuple hqx
    obtain ⟨its2, rv2, p2, _⟩ := I.tuple hqy
    obtain ⟨its3, rv3, p3, _⟩ := I.tuple hqz
    have l1 := rv1.length
    have l2 := rv2.length
    have l3 := rv3.length
    have s1 : its1.toArray.size = xs.length := by simp; omega
    have s2 : its2.toArray.size = ys.length := by simp; omega
    have s3 : its3.toArray.size = zs.length := by simp; omega
    have hh : X.A.in1.handled = none := I.ok.hd hc
    have nt : ∀ {i a : Addr} {its : Array Value} {k : Nat}, s.heap.IsTuple a its → s.heap.IsTupleIter i a k → a ≠ i := fun {i a its k} p h e => by
      obtain ⟨o, ho, _⟩ := p; obtain ⟨o', ho', hc', _⟩ := h; subst e; rw [ho] at ho'; cases ho'; simp_all
    have D1 := Draws.tuple (prog := X.prog) (w := X.w) (A := X.A.in1) hh i1 a (nt p1 h1) its1.toArray
    have D2 := Draws.tuple (prog := X.prog) (w := X.w) (A := X.A.in1) hh i2 b (nt p2 h2) its2.toArray
    have D3 := Draws.tuple (prog := X.prog) (w := X.w) (A := X.A.in1) hh i3 c (nt p3 h3) its3.toArray
    exact wpAny_pyNext_zipD3_end S D1 D2 D3 hz hTI hTO ⟨h1, p1⟩ ⟨h2, p2⟩ ⟨h3, p3⟩ (by omega) (by omega) (by omega) (by omega) fun h' tk hk => ⟨rfl, I.turnedL (t' := tk) (ch := [z, TI, TO, i1, i2, i3]) (fun c o hb q =>
      hk c o (fun q' => hb (by simp [q'])) (fun q' => hb (by simp [q'])) (fun q' => hb (by simp [q'])) (fun q' => hb (by simp [q'])) (fun q' => hb (by simp [q'])) q) hf⟩
  self := fun A i s Q E st h => wpAny_pyIter_zip st.1 h
def YTri (xs ys zs : Nat → Option V) : Nat → Hp → V → Hp → Prop := fun i H v H' => ∃ T x y z, v = .ref T ∧ H T = none ∧ H' = upd H T (.tup [x, y, z]) ∧ xs i = some x ∧ ys i = some y ∧ zs i = some z
theorem walk_zip3 {K : PySem.W.Frag} {a b c : Addr} {xs ys zs : List V} : Walk (Itz3 K a b c) (min xs.length (min ys.length zs.length)) (fun H => SqT K H a xs ∧ SqT K H b ys ∧ SqT K H c zs) (YTri (fun i => xs[i]?) (fun i => ys[i]?) (fun i => zs[i]?)) := by
  refine ⟨fun i _ hi q => ?_, fun _ q => ⟨xs, ys, zs, q.1, q.2.1, q.2.2, rfl⟩, fun i H v H' _ q y => ?_⟩
  · have h1 : i < xs.length := by omega
    have h2 : i < ys.length := by omega
    have h3 : i < zs.length := by omega
    exact ⟨xs, ys, zs, xs[i], ys[i], zs[i], q.1, q.2.1, q.2.2, by simp [h1], by simp [h2], by simp [h3]⟩
  · obtain ⟨T, x, y, z, h1, h2, h3, h4, h5, h6⟩ := y
    exact ⟨T, x, y, z, h1, h2, h3, h4 xs q.1, h5 ys q.2.1, h6 zs q.2.2⟩
theorem tri_al {K : PySem.W.Frag} {F H H' : Hp} {T : Addr} {x y z : V} {d e f : PyData} (hT : H T = none) (e2 : Same F H) (hH : H' = upd H T (.tup [x, y, z])) (r1 : Rp K F x d) (r2 : Rp K F y e) (r3 : Rp K F z f) : ∃ F', Al F H F' H' ∧ Rp K F' (.ref T) (.tuple [d, e, f]) := by
  subst hH
  have s := same_new (o := .tup [x, y, z]) (free_of e2 hT)
  exact ⟨_, .new hT, .tup (.inl (.inl upd_same)) (.cons (r1.mono s) (.cons (r2.mono s) (.cons (r3.mono s) .nil)))⟩
theorem zipL3_len : ∀ (l m n : List PyData), (zipL3 l m n).length = min l.length (min m.length n.length)
  | [], m, n => by simp [zipL3]
  | a :: l, [], n => by simp [zipL3]
  | a :: l, b :: m, [] => by simp [zipL3]
  | a :: l, b :: m, c :: n => by simp only [zipL3, List.length_cons, zipL3_len]; omega
theorem zipL3_get : ∀ (l m n : List PyData) (i : Nat) (a b c : PyData), l[i]? = some a → m[i]? = some b → n[i]? = some c → (zipL3 l m n)[i]? = some (.tuple [a, b, c])
  | [], m, n, i, a, b, c, h, _, _ => by simp at h
  | a' :: l, [], n, i, a, b, c, _, h, _ => by simp at h
  | a' :: l, b' :: m, [], i, a, b, c, _, _, h => by simp at h
  | a' :: l, b' :: m, c' :: n, 0, a, b, c, h1, h2, h3 => by simp at h1 h2 h3; subst h1 h2 h3; rfl
  | a' :: l, b' :: m, c' :: n, i + 1, a, b, c, h1, h2, h3 => by
    simp at h1 h2 h3
    simp only [zipL3]
    rw [List.getElem?_cons_succ]
    exact zipL3_get l m n i a b c h1 h2 h3
section
variable {X : Cx} {C : Ct}
def iZip3 (K : PySem.W.Frag) (ta : TA) : TI := fun σ H R => ta σ H fun vs H1 => ∃ a b c xs ys zs, vs = [.ref a, .ref b, .ref c] ∧ SqT K H1 a xs ∧ SqT K H1 b ys ∧ SqT K H1 c zs ∧ R (Itz3 K a b c) H1
theorem pi_zip3 {e e2 e3 : Expr} {ta : TA} {p pos tpos : Pos} {elts : List Expr} {kk : Nat} (hg : Gl X "zip") (hm : X.mg "zip" = none) (ha : PA X [e, e2, e3] ta)
    (hs : starEach [e, e2, e3] X.env = (false, eval e X.env) :: starEach [e2, e3] X.env := by rfl) (hpl : (backTo pos (starEach [e2, e3] X.env)).any (·.1) = false := by rfl) :
    PI X (.Tuple elts kk tpos) (.Call (.Name "zip" p) [e, e2, e3] [] pos) (iZip3 X.K ta) := by
  refine ⟨fun pins s σ H R I h => ?_⟩
  refine Call_ (ld_blt I hg hm PyProof.Rows.boot_zip (PyProof.Rows.callWith_type1 (thn (ha.run pos pins s σ H _ I h) fun us s1 ⟨vs, H1, I1, r1, q1⟩ => ?_) hs hpl))
  obtain ⟨a, b, c, xs, ys, zs, ex, hqx, hqy, hqz, q⟩ := q1
  subst ex
  cases r1 with
  | cons r rr =>
    cases rr with
    | cons r' rr =>
      cases rr with
      | cons r'' rr =>
        cases rr
        cases r
        cases r'
        cases r''
        have fresh6 : ∀ d, d ∈ [s1.heap.objs.size + 5, s1.heap.objs.size + 3, s1.heap.objs.size + 4, s1.heap.objs.size, s1.heap.objs.size + 1, s1.heap.objs.size + 2] → FpOk X pins H1 d := fun d hcm => by
          have e' : d = s1.heap.objs.size + 5 ∨ d = s1.heap.objs.size + 3 ∨ d = s1.heap.objs.size + 4 ∨ d = s1.heap.objs.size ∨ d = s1.heap.objs.size + 1 ∨ d = s1.heap.objs.size + 2 := by simpa using hcm
          have hle : s1.heap.objs.size ≤ d := by
            rcases e' with z | z | z | z | z | z
            · rw [z]; exact Nat.le_add_right _ _
            · rw [z]; exact Nat.le_add_right _ _
            · rw [z]; exact Nat.le_add_right _ _
            · rw [z]; exact Nat.le_refl _
            · rw [z]; exact Nat.le_add_right _ _
            · rw [z]; exact Nat.le_add_right _ _
          exact I1.fpOk hle (I1.hok.fresh hle)
        obtain ⟨its1, rv1, p1, _⟩ := I1.tuple hqx
        obtain ⟨its2, rv2, p2, _⟩ := I1.tuple hqy
        obtain ⟨its3, rv3, p3, _⟩ := I1.tuple hqz
        have lt1 : a < s1.heap.objs.size := by obtain ⟨o, ho, _⟩ := id p1; exact Heap.lt_size ho
        have lt2 : b < s1.heap.objs.size := by obtain ⟨o, ho, _⟩ := id p2; exact Heap.lt_size ho
        have lt3 : c < s1.heap.objs.size := by obtain ⟨o, ho, _⟩ := id p3; exact Heap.lt_size ho
        refine zip_begins3 (begins_tuple a its1.toArray) (begins_tuple b its2.toArray) (begins_tuple c its3.toArray) p1 p2 p3 fun h' hz hTI hTO h1 h2 h3 hsz hk => wpAny_pyIter_zip hz ?_
        have I2 : L2.Inv X pins σ H1 { s1 with heap := h' } := I1.kept (t' := s1.toks) hk
        have sep : ZipSep3 (s1.heap.objs.size + 5) (s1.heap.objs.size + 3) (s1.heap.objs.size + 4) s1.heap.objs.size (s1.heap.objs.size + 1) (s1.heap.objs.size + 2) [s1.heap.objs.size, a] [s1.heap.objs.size + 1, b] [s1.heap.objs.size + 2, c] :=
          zip_sep3 (fp1 := [a]) (fp2 := [b]) (fp3 := [c]) (fun d h => by rw [List.mem_singleton.mp h]; exact lt1) (fun d h => by rw [List.mem_singleton.mp h]; exact lt2) (fun d h => by rw [List.mem_singleton.mp h]; exact lt3)
        exact ⟨s1.heap.objs.size + 5, [s1.heap.objs.size + 5, s1.heap.objs.size + 3, s1.heap.objs.size + 4, s1.heap.objs.size, s1.heap.objs.size + 1, s1.heap.objs.size + 2], _, _, H1, rfl, I2, turn_zip3 sep, ⟨hz, hTI, ⟨_, _, _, hTO⟩, ⟨_, h1, rfl, rfl⟩, ⟨_, h2, rfl, rfl⟩, ⟨_, h3, rfl, rfl⟩⟩, fresh6, q⟩
theorem pdi_zip3 {elts : List Expr} {kk : Nat} {tpos : Pos} {e e2 e3 : Expr} {p pos : Pos} {m : MA} (t : PI X (.Tuple elts kk tpos) (.Call (.Name "zip" p) [e, e2, e3] [] pos) (iZip3 X.K (tDA X.K C m))) :
    PI X (.Tuple elts kk tpos) (.Call (.Name "zip" p) [e, e2, e3] [] pos) (tDI X.K C (miZip3 m)) := pi_imp t (by
  rintro σ H R0 ⟨F, sd, Qd, R, h, k⟩
  refine ⟨F, sd, _, R, h, fun vs H1 F1 ds sd1 R1 S1 rs q => ?_⟩
  obtain ⟨xs, ys, zs, rfl, q⟩ := q
  cases rs with
  | cons r rs =>
    cases rs with
    | cons r' rs =>
      cases rs with
      | cons r'' rs =>
        cases rs
        cases r with
        | @tup a xs' _ h1 r1 =>
          cases r' with
          | @tup b ys' _ h2 r2 =>
            cases r'' with
            | @tup c zs' _ h3 r3 =>
              refine ⟨_, _, _, _, _, _, rfl, same_t R1.ext h1, same_t R1.ext h2, same_t R1.ext h3, k _ H1 F1 _ sd1 R1 S1 ?_ q⟩
              have hl : (zipL3 xs ys zs).length = min xs'.length (min ys'.length zs'.length) := by rw [zipL3_len, r1.length, r2.length, r3.length]
              refine ⟨fun H => SqT X.K H a xs' ∧ SqT X.K H b ys' ∧ SqT X.K H c zs', YTri (fun i => xs'[i]?) (fun i => ys'[i]?) (fun i => zs'[i]?), by rw [hl]; exact walk_zip3, fun H e => ⟨same_t e h1, same_t e h2, same_t e h3⟩, fun i H x H' F' hi e1 e2 y => ?_⟩
              obtain ⟨T, x1, x2, x3, rfl, hT, hH, y1, y2, y3⟩ := y
              obtain ⟨d1, hd1, rd1⟩ := rpA_at r1 y1
              obtain ⟨d2, hd2, rd2⟩ := rpA_at r2 y2
              obtain ⟨d3, hd3, rd3⟩ := rpA_at r3 y3
              obtain ⟨F2, al, rr⟩ := tri_al hT e2 hH (rd1.mono e1) (rd2.mono e1) (rd3.mono e1)
              exact ⟨F2, _, al, zipL3_get _ _ _ _ _ _ _ hd1 hd2 hd3, rr⟩)
end
end DL
namespace DL
open PySem PySem.Spec PyProof.Rows L2
/-- a op b op' c op'' d -/
def tChain3 (r r' r'' : R2) (ta tb tc td : TE) : TE := fun σ H Q => ta σ H fun x H1 => tb σ H1 fun y H2 => r x y H2 fun z H3 => ∃ k, z = .bl k ∧
  (if k = true then tc σ H3 fun w H4 => r' y w H4 fun z2 H5 => ∃ k2, z2 = .bl k2 ∧ (if k2 = true then td σ H5 fun u H6 => r'' w u H6 Q else Q (.bl false) H5) else Q (.bl false) H3)
def mChain3 (f g h : PyData → PyData → Option PyData) (ma mb mc md : ME) : ME := fun sd Q => ma sd fun a s1 => mb s1 fun b s2 => ∃ c, f a b = some (.bool c) ∧
  if c = true then mc s2 fun d s3 => ∃ c2, g b d = some (.bool c2) ∧ if c2 = true then md s3 fun e s4 => ∃ r, h d e = some r ∧ Q r s4 else Q (.bool false) s3 else Q (.bool false) s2
section
variable {K : PySem.W.Frag} {X : Cx} {C : Ct}
theorem pe_chain3 {op op' op'' : CmpOp} {r r' r'' : R2} {a b c d : Expr} {ta tb tc td : TE} {pos : Pos} (ho : OpR X (compareOp op) r) (ho' : OpR X (compareOp op') r') (ho'' : OpR X (compareOp op'') r'') (ha : PE X a ta) (hb : PE X b tb) (hc : PE X c tc) (hd : PE X d td)
    (hm : lastMarks [op, op', op''] [b, c, d] = false := by with_unfolding_all rfl) : PE X (.Compare a [op, op', op''] [b, c, d] pos) (tChain3 r r' r'' ta tb tc td) := by
  refine ⟨fun pins s σ H Q I h => ?_⟩
  refine Compare_chain (thn (ha.run pins s σ H _ I h) fun v s1 ⟨x, H1, I1, r1, q1⟩ => chain_link (thn (hb.run pins s1 σ H1 _ I1 q1) fun u s2 ⟨y, H2, I2, r2, q2⟩ =>
    thn (ho pins s2 σ H2 x y v u _ I2 r1 r2 q2) fun d0 s3 ⟨z, H3, I3, r3, k, e, q3⟩ => ?_)) hm
  subst e
  cases r3
  refine wpAny_truthy_bool ?_
  cases k with
  | false => exact ite_ff ⟨.bl false, H3, I3, rfl, q3⟩
  | true =>
    refine ite_tt (chain_link (thn (hc.run pins s3 σ H3 _ I3 q3) fun w' s4 ⟨z', H4, I4, r4, q4⟩ => thn (ho' pins s4 σ H4 y z' u w' _ I4 r2 r4 q4) fun d1 s5 ⟨z2, H5, I5, r5, k2, e2, q5⟩ => ?_))
    subst e2
    cases r5
    refine wpAny_truthy_bool ?_
    cases k2 with
    | false => exact ite_ff ⟨.bl false, H5, I5, rfl, q5⟩
    | true => exact ite_tt (chain_last (thn (hd.run pins s5 σ H5 _ I5 q5) fun w2 s6 ⟨z3, H6, I6, r6, q6⟩ => ho'' pins s6 σ H6 z' z3 w' w2 Q I6 r4 r6 q6))
theorem pd_chain3 {op op' op''} {r r' r'' : R2} {f g f3 : PyData → PyData → Option PyData} {a b c d : Expr} {ma mb mc md : ME} {pos : Pos} (ho : OpR X (compareOp op) r) (ho' : OpR X (compareOp op') r') (ho'' : OpR X (compareOp op'') r'') (L : RL2 X.K r f) (L' : RL2 X.K r' g) (L'' : RL2 X.K r'' f3)
    (ha : PE X a (tD X.K C ma)) (hb : PE X b (tD X.K C mb)) (hc : PE X c (tD X.K C mc)) (hd : PE X d (tD X.K C md)) (hm : lastMarks [op, op', op''] [b, c, d] = false := by with_unfolding_all rfl) :
    PE X (.Compare a [op, op', op''] [b, c, d] pos) (tD X.K C (mChain3 f g f3 ma mb mc md)) := pe_imp (pe_chain3 ho ho' ho'' ha hb hc hd hm) (by
  rintro σ H Q ⟨F, sd, Qd, R, h, k⟩
  refine ⟨F, sd, _, R, h, fun x H1 F1 a sd1 R1 S1 rx h1 => ⟨F1, sd1, _, R1, h1, fun y H2 F2 b sd2 R2 S2 ry h2 => ?_⟩⟩
  obtain ⟨cc, e, q⟩ := h2
  refine L F2 H2 x y a b (.bool cc) _ R2.ext (fun p => R2.free) (rx.mono S2.fr) ry e fun v F' H' al rz => ?_
  cases rz
  refine ⟨cc, rfl, ?_⟩
  have S' := (S1.trans S2).trans (.al R2 al)
  cases cc with
  | false => exact k (.bl false) H' F' _ sd2 (R2.al al) S' (.bl false) q
  | true =>
    refine ⟨F', sd2, _, R2.al al, q, fun w H3 F3 d sd3 R3 S3 rw_ h3 => ?_⟩
    obtain ⟨cc2, e2, q2⟩ := h3
    refine L' F3 H3 y w b d (.bool cc2) _ R3.ext (fun p => R3.free) (ry.mono ((Stp.al R2 al).fr.trans S3.fr)) rw_ e2 fun v F4 H4 al2 rz2 => ?_
    cases rz2
    refine ⟨cc2, rfl, ?_⟩
    have S3' := (S'.trans S3).trans (.al R3 al2)
    cases cc2 with
    | false => exact k (.bl false) H4 F4 _ sd3 (R3.al al2) S3' (.bl false) q2
    | true =>
      refine ⟨F4, sd3, _, R3.al al2, q2, fun w2 H5 F5 d2 sd5 R5 S5 rw2 h5 => ?_⟩
      obtain ⟨z3, e3, q3⟩ := h5
      exact L'' F5 H5 w w2 d d2 z3 _ R5.ext (fun p => R5.free) (rw_.mono ((Stp.al R3 al2).fr.trans S5.fr)) rw2 e3 fun v F6 H6 al3 rz3 => k v H6 F6 z3 sd5 (R5.al al3) ((S3'.trans S5).trans (.al R5 al3)) rz3 q3)
end
def insI (x : Int) : List Int → List Int
  | [] => [x]
  | y :: ys => if x ≤ y then x :: y :: ys else y :: insI x ys
def srtI : List Int → List Int
  | [] => []
  | x :: xs => insI x (srtI xs)
theorem insI_perm (x : Int) : ∀ xs, (insI x xs).Perm (x :: xs)
  | [] => .refl _
  | y :: ys => by
    unfold insI
    split
    · exact .refl _
    · exact ((insI_perm x ys).cons y).trans (.swap x y ys)
theorem srtI_perm : ∀ xs, (srtI xs).Perm xs
  | [] => .refl _
  | x :: xs => (insI_perm x _).trans ((srtI_perm xs).cons x)
theorem insI_sorted (x : Int) : ∀ xs : List Int, xs.Pairwise (· ≤ ·) → (insI x xs).Pairwise (· ≤ ·)
  | [], _ => by unfold insI; exact List.pairwise_singleton _ _
  | y :: ys, h => by
    obtain ⟨h1, h2⟩ := List.pairwise_cons.mp h
    unfold insI
    split
    · rename_i le
      refine List.pairwise_cons.mpr ⟨fun z hz => ?_, h⟩
      rcases List.mem_cons.mp hz with rfl | hz
      · exact le
      · exact Int.le_trans le (h1 z hz)
    · rename_i le
      refine List.pairwise_cons.mpr ⟨fun z hz => ?_, insI_sorted x ys h2⟩
      rcases List.mem_cons.mp ((insI_perm x ys).mem_iff.mp hz) with rfl | hz
      · omega
      · exact h1 z hz
theorem srtI_sorted : ∀ xs : List Int, (srtI xs).Pairwise (· ≤ ·)
  | [] => List.Pairwise.nil
  | x :: xs => insI_sorted x _ (srtI_sorted xs)
theorem sorted_uniq : ∀ {xs ys : List Int}, xs.Perm ys → xs.Pairwise (· ≤ ·) → ys.Pairwise (· ≤ ·) → xs = ys := by
  intro xs ys p h1 h2
  exact p.eq_of_pairwise (le := (· ≤ ·)) (fun a b _ _ h1 h2 => by have : a ≤ b := h1; have : b ≤ a := h2; omega) h1 h2
def bSrtI : List PyData → Option PyData
  | [.list xs] => (ints? xs).map fun ns => .list ((srtI ns).map .int)
  | _ => none
section
variable {K : PySem.W.Frag}
theorem rpA_ints {F : Hp} : ∀ ns : List Int, RpA K F (ns.map V.int) (ns.map .int)
  | [] => .nil
  | n :: ns => .cons (.int n) (rpA_ints ns)
theorem rc_srtI : RLC K (rSortedI K) bSrtI := by
  intro F H xs as z Q e f rx h k
  unfold bSrtI at h
  split at h
  · obtain ⟨x, rfl, r⟩ := rpA1 rx
    rename_i ds
    cases en : ints? ds with
    | none => rw [en] at h; cases h
    | some ns =>
      rw [en] at h
      cases h
      cases r with
      | lst h1 r1 =>
        rw [ints_rp r1 en] at h1
        refine ⟨_, ns, rfl, .inl (.inl (e _ _ h1)), fun ns' p pm so hp => ?_⟩
        have : ns' = srtI ns := sorted_uniq (pm.trans (srtI_perm ns).symm) so (srtI_sorted ns)
        subst this
        exact k _ _ _ (.new hp) (.lst upd_same (rpA_ints _))
  · cases h
end
end DL
namespace DL
open PySem PySem.Spec PyProof.Rows L2
def mCallWT (spec : WSpec) (i : Nat) (me : ME) : ME := fun sd Q => mWell i me sd fun r s1 => ∃ n, r = .well n ∧ spec n [] fun r n' => ∃ d, fz r = some d ∧ Q d s1
section
variable {K : PySem.W.Frag} {X : Cx} {C : Ct} {F H F' H' F0 H0 : Hp} {σ : L2.St} {sd sd0 : DSt}
theorem Rs.postT {n' : Nat} {p : Addr} (R : Rs K C F H σ sd) (hp : ∃ o, H p = some o) (no : ¬ Owned σ sd p) (hc : C.H0 p = none) (hF : F p = none) (P : PostW K p F H F' H' n') (S1 : Stp σ sd0 F0 H0 F H sd) (h0 : H0 p = none) :
    Rs K C F' H' σ sd ∧ Stp σ sd0 F0 H0 F' H' sd := by
  obtain ⟨o0, hp⟩ := hp
  obtain ⟨a2, b2, c2, w1, w2⟩ := P.wl
  have ns : ∀ a, H' a = none → H a = none := fun a z => by
    by_cases za : a = p
    · subst za; rw [w1] at z; cases z
    · cases q : H a with
      | none => rfl
      | some o => rw [P.kp a o za q] at z; cases z
  refine ⟨⟨R.len, R.grow.trans P.fr, P.ext, fun a o q => ?_, fun a o q n => ?_, fun a z => R.still a (ns a z), fun j => ?_, R.sep⟩, ⟨S1.fr.trans P.fr, fun a o q n => ?_, S1.ow, fun a o q => ?_, fun a e => S1.st a (ns a e)⟩⟩
  · rcases P.nw a o q with q | q
    · exact R.new a o q
    · exact .inr (R.still a q)
  · refine P.kp a o (fun z => ?_) (R.keep a o q n)
    subst z
    rw [hc] at q; cases q
  · refine (R.slot j).grow P.fr fun q x ho eq eh en => ⟨P.kp q x (fun z => no (z ▸ ⟨j, ho, eq⟩)) eh, ?_⟩
    cases z : F' q with
    | none => rfl
    | some y =>
      rcases P.nw q y z with z | z
      · rw [en] at z; cases z
      · rw [eh] at z; cases z
  · refine P.kp a o (fun z => ?_) (S1.kp a o q n)
    subst z
    rw [h0] at q; cases q
  · rcases P.nw a o q with q | q
    · exact S1.nw a o q
    · exact .inr (.inl (S1.st a q))
theorem td_callWT {spec : WSpec} {i : Nat} {me : ME} {E : L2.St → XK} : ∀ σ H Q, tD K C (mCallWT spec i me) σ H Q → tCallG (spW K spec) E (tCons (tDR K C (mWell i me)) tNil) σ H Q := by
  rintro σ H Q ⟨F, sd, Qd, R, h, k⟩
  refine ⟨F, sd, _, R, h, fun v H1 F1 r sd1 R1 S1 rv nown fresh q => ?_⟩
  obtain ⟨n, rfl, q⟩ := q
  obtain ⟨p, a, b, c, e1, z2, z3, z4, z5⟩ := rv
  cases e1
  have nw := nown rfl p rfl
  have h0 := fresh rfl p rfl
  refine ⟨F1, p, [], n, a, b, c, [], _, rfl, R1.ext, z3, z2, z5, .nil, q, fun v H' F' r n' P ro q => ?_⟩
  obtain ⟨d, hf, q⟩ := q
  obtain ⟨R2, S2⟩ := R1.postT ⟨_, z2⟩ nw (R.still p h0) z3 P S1 h0
  obtain ⟨F2, R3, S3, rp⟩ := R2.res S2 ro (fun p hp => ⟨S1.st p hp, fun z => (R1.fresh hp).1 z, (R1.fresh hp).2⟩) hf
  exact k v H' F2 d _ R3 S3 rp q
theorem pd_callWT {spec : WSpec} {i : Nat} {me : ME} {x : Str} {p pos : Pos} {ew : Expr} {k j : Nat} {W : WX} (c : CalW X.prog X.w X.K X.mg X.base k x spec) (hr : RoomG j X.A) (hk : k ≤ j) (tk : Takes X W) (hy : PE X ew (tDR X.K C (mWell i me))) (hg : Gl X x := by rfl)
    (hdb : (x == ("__debug__" : Str)) = false := by decide) (he : starEach (ew :: []) X.env = (false, eval ew X.env) :: starEach [] X.env := by rfl) (hpl : (backTo pos (starEach [] X.env)).any (·.1) = false := by rfl) :
    PE X (.Call (.Name x p) [ew] [] pos) (tD X.K C (mCallWT spec i me)) := by
  obtain ⟨f, fd, ps, F, hm, hkp, hb⟩ := c.ex
  exact pe_imp (pe_callG F (hr.mono hk) hg hm hkp hb (passAt tk) (pa_cons hy pa_nil he) hdb he hpl) td_callWT
end
end DL
namespace DL
open PySem PySem.Spec PyProof.Rows L2
/-- xs[e] of a list that nobody else holds, which stays so -/
def mIxOwn (i : Nat) (me : ME) : ME := fun sd Q => (∃ ds, sget sd i = .own ds) ∧ me sd fun j s1 => ∃ ds n d, sget s1 i = .own ds ∧ j = .int n ∧ atI ds n = some d ∧ Q d s1
section
variable {X : Cx} {C : Ct}
theorem pd_ixOwn {i : Nat} {mb : ME} {y : Str} {p2 pos : Pos} {b : Expr} (hy : PE X (.Name y p2) (tVar i)) (hb : PE X b (tD X.K C mb)) (hs : PlainIx b := by exact fun _ _ => rfl) :
    PE X (.Subscript (.Name y p2) b pos) (tD X.K C (mIxOwn i mb)) := pe_imp (pe_ix ix_seq hy hb hs) (by
  rintro σ H Q ⟨F, sd, Qd, R, ⟨⟨ds0, h0⟩, h⟩, k⟩
  have hi := R.slot i
  rw [h0] at hi
  obtain ⟨p, vs0, e1, _⟩ := hi
  refine ⟨.ref p, gv_some.mp e1, F, sd, _, R, h, fun v H1 F1 j sd1 R1 S1 rj q => ?_⟩
  obtain ⟨ds, n, d, hs1, rfl, hat, q⟩ := q
  have hi1 := R1.slot i
  rw [hs1] at hi1
  obtain ⟨p', vs, z1, z2, z3, z4, rs⟩ := hi1
  rw [e1] at z1; cases z1
  cases rj
  obtain ⟨w, e2, r⟩ := atI_rpA rs hat
  exact .inl ⟨_, _, _, w, rfl, rfl, .inl (.inl z2), e2, k w H1 F1 d sd1 R1 S1 r q⟩)
end
theorem if_runC {t : MT} {x y : MS} {D : DE} {sd : DSt} (c : Bool) (sd2 : DSt) (ht : ∀ Q : Bool → DSt → Prop, Q c sd2 → t sd Q) (h : if c = true then x D sd2 else y D sd2) : mIf t x y D sd := ht _ h
end DL
namespace DL
open PySem PySem.Spec PyProof.Rows L2
theorem note_same {u : Value} {e e' : Env} (h : e.frame = e'.frame) : noteFrame u e = noteFrame u e' := by
  unfold PySem.noteFrame PySem.frameOf
  rw [h]
/-- a heap as h, at C as g -/
theorem mixed (h g : Heap) (C : Addr) {o o' : Obj} (eh : h.get? C = some o) (eg : g.get? C = some o') : ∃ G : Heap, G.get? C = some o' ∧ ∀ b, b ≠ C → G.get? b = h.get? b :=
  ⟨h.update C fun _ => o', Heap.get?_update_self _ eh (Heap.get?_some_iff.mp eg).2, fun b hb => Heap.get?_update_other _ _ (Ne.symm hb)⟩
theorem frames_mixed {h h' B B' : Heap} {C : Addr} {oC : Obj} (bC : B.get? C = some oC) (hb : ∀ b, b ≠ C → h'.get? b = h.get? b) (hB : ∀ b, b ≠ C → B'.get? b = B.get? b) : ∀ {l : List Env}, h.FunFrames B l → h'.FunFrames B' l
  | [], x => x
  | e :: l, ⟨k, ⟨L, o, f, n, g, d⟩, r⟩ => by
    have ne : L ≠ C := fun z => by rw [z, bC] at n; cases n
    exact ⟨k, ⟨L, o, f, (hB L ne).trans n, (hb L ne).trans g, d⟩, frames_mixed bC hb hB r⟩
/-- what left a call within a comprehension is in the def's air, the comprehension's names let go -/
theorem air_out {X : Cx} {pins : List (Addr × Obj)} {σ : L2.St} {H : Hp} {s s' : Shared} {E : XK} {W : WX} {u : Value} {C : Addr} {ce : Env} {E₁ : Value → Shared → Prop} {m : Str → Option Value} (hs : X.stack = X.env :: X.outer) (hf : X.env.frame = some X.env.locals) (tk : Takes X W) (hW : ∀ cls d H', E cls d H' → W cls d σ H')
    (I : L2.Inv X pins σ H s) (hC : FpOk X pins H C) (hn : s.heap.Ns C m) (hfr : ce.frame = X.env.frame) (c : L2.CX X.prog X.w X.stack H s E u s') :
    wpAny (model X.prog X.w) X.A (noteFrame u ce) (fun _ s2 => s2.heap.Ns C m ∧ ∀ h' m', h'.Ns C m' → Heap.SameBut C s2.heap h' → wpAny (model X.prog X.w) X.A (passOn "comprehension.variables-let-go" u ce : Sem Value) (fun _ _ => False) X.xe { s2 with heap := h' }) E₁ s' := by
  obtain ⟨a, B, H', cls, d, rfl, fl, hok, ub, na, os, ag, hE⟩ := c
  obtain ⟨oC, es, ep, eC, dC, kC, fC⟩ := hn
  obtain ⟨c1, c2, c3, c4, c5, c6⟩ := hC
  have nC : C ∉ frs X.stack := fun z => by
    rw [hs] at z
    unfold frs at z
    rw [List.filterMap_cons_some hf] at z
    rcases List.mem_cons.mp z with z | z
    · exact c2 z
    · exact c3 z
  have BC : B.get? C = some oC := ub.keep C oC eC c1 nC
  have C' : H' C = none := ub.free C oC eC c1
  -- the state without the exception
  obtain ⟨G0, g1, g2⟩ := restrict s'.heap fun b => (B.get? b).isSome || decide (b ∈ frs X.stack)
  have stay : B.StaysIn s'.heap := fl.1
  have gB : ∀ b o, B.get? b = some o → G0.get? b = some o := fun b o e => (g1 b (by simp [e])).trans (stay b o e)
  have gF : ∀ b, b ∈ frs X.stack → G0.get? b = s'.heap.get? b := fun b hb => g1 b (by simp [hb])
  have gO : ∀ b o, G0.get? b = some o → s'.heap.get? b = some o ∧ ((B.get? b).isSome = true ∨ b ∈ frs X.stack) := fun b o e => by
    cases q : ((B.get? b).isSome || decide (b ∈ frs X.stack)) with
    | false => rw [g2 b q] at e; cases e
    | true => exact ⟨(g1 b q).symm.trans e, by simpa [Bool.or_eq_true] using q⟩
  have I0 : L2.Inv X pins σ H' { s with heap := G0, gens := s'.gens, drawn := s'.drawn, toks := s'.toks } := by
    refine I.call (ch := []) ⟨fun b o e n hb _ => gB b o (ub.keep b o e n hb), fun b o e _ hb _ => ?_, fun b o e n _ => ub.free b o e n, fun b o e _ => ?_, ub.tups, ub.frzs, ub.tbls⟩ (hok.kept gB) ag (fun _ z => nomatch z)
    · obtain ⟨sl, q⟩ := ub.slot b o e hb
      exact ⟨sl, (gF b hb).trans q⟩
    · by_cases hb : b ∈ frs X.stack
      · obtain ⟨sl, q⟩ := ub.slot b o e hb
        exact ⟨_, (gF b hb).trans q⟩
      · obtain ⟨o', q⟩ := ub.there b o e hb
        exact ⟨o', gB b o' q⟩
  have nb0 : ∀ b o, G0.get? b = some o → b ∉ frs X.stack → B.get? b = some o := fun b o e hb => by
    obtain ⟨e', z⟩ := gO b o e
    rcases z with z | z
    · obtain ⟨o', q⟩ := Option.isSome_iff_exists.mp z
      have w := stay b o' q
      rw [e'] at w; cases w
      exact q
    · exact absurd z hb
  rw [note_same hfr]
  refine HandSPX.looks_onZ (outer := X.outer) Zc.steady (by rw [I.ok.frames, hs]) hf (by rw [hs] at fl; exact fl) fun h1 hh up => ?_
  refine ⟨up.ns ⟨oC, es, ep, stay C oC BC, dC, kC, fC⟩, fun h' m' hn' sb => ?_⟩
  obtain ⟨k1, k2, k3, oe, vs, T, oT, ts, he, hz, hd, h1v, hnT, hTe, hT, hdT, h3⟩ := hh
  obtain ⟨oC', es', ep', eC', dC', kC', fC'⟩ := hn'
  have aC : a ≠ C := fun z => by rw [z, BC] at k2; cases k2
  have TC : T ≠ C := fun z => by rw [z, BC] at hnT; cases hnT
  obtain ⟨B2, b1, b2⟩ := mixed B h' C BC eC'
  obtain ⟨G, q1, q2⟩ := mixed G0 h' C (gB C oC BC) eC'
  have held : HandSPX.HeldZ B2 (X.env :: X.outer) a (Zc cls d) X.env.locals h' := by
    refine ⟨fun b o e => ?_, (b2 a aC).trans k2, frames_mixed BC sb.2 b2 k3, oe, vs, T, oT, ts, (sb.2 a aC).trans he, hz, hd, h1v, (b2 T TC).trans hnT, hTe, (sb.2 T TC).trans hT, hdT, h3⟩
    by_cases z : b = C
    · subst z; rw [b1] at e; cases e; exact eC'
    · exact (sb.2 b z).trans (k1 b o ((b2 b z).symm.trans e))
  unfold PySem.passOn
  refine wpAny_bind (wpAny_field ((sb.2 a aC).trans he) hd h1v ?_)
  rw [if_neg (by simp)]
  refine wpAny_bind ?_
  rw [hfr, hf]
  refine HandSPX.setFlight_onZ held fun h2 hh2 up2 => wpAny_throw (tk _ _ ⟨a, B2, { s with heap := G, gens := s'.gens, drawn := s'.drawn, toks := s'.toks }, pins, σ, H', cls, d, rfl, ?_, fun b o e hb => ?_, fun b o e nf => ?_, .inr (.inr (by rw [hs]; exact hh2)), na, os, ag, hW _ _ _ hE⟩)
  · exact I0.turned (fun b o hb e => (q2 b hb).trans e) C' c2 c4 (fun x c e => c5 x c e) c6
  · by_cases z : b = C
    · subst z; exact b1.trans (q1.symm.trans e)
    · exact (b2 b z).trans (nb0 b o ((q2 b z).symm.trans e) hb)
  · by_cases z : b = C
    · subst z
      rw [q1] at e; cases e
      exact up2 b _ eC' nf
    · obtain ⟨e', -⟩ := gO b o ((q2 b z).symm.trans e)
      obtain ⟨sl, w⟩ := up b o e' nf
      obtain ⟨sl', w'⟩ := up2 b { o with slots := sl } ((sb.2 b z).trans w) nf
      exact ⟨sl', w'⟩
theorem comp_once {Mo : Model} {A : Around} {Ex : Value → Shared → Prop} {st : Shared} {env : Env} {e : Expr} {sc : Scope} {pos : Pos} {mk first : Sem Value} {c0 : Comprehension} {cs : List Comprehension} {clo : List (Str × Addr)} {Q : Value → Shared → Prop}
    (h1 : clausesOf e = c0 :: cs) (h2 : ∀ x, foldedSetIterable c0.iter env x = pure x) (h3 : closureFor sc env = pure clo) (h4 : sc.kind = .function) (h5 : ∀ x ∈ sc.names, x.2 = .local → sc.names.lookup x.1 = some .local)
    (h : wpAny Mo A first (fun v t1 => wpAny Mo A (pyIter v) (fun it t2 => wpAny Mo A mk (fun ac t3 => wpAny Mo A (newFunctionEnv sc env.globals clo [] env.qual none .none (some env)) (fun ce t4 =>
      codeAny Mo A (.compStart e 0 it ac { ce with scope := relabel sc env }) (fun r t5 => match r with
        | .ok _ => ∃ m, t5.heap.Ns ce.locals m ∧ ∀ h', Heap.SameBut ce.locals t5.heap h' → Q ac { t5 with heap := h' }
        | .error u => ∃ m, t5.heap.Ns ce.locals m ∧ ∀ h' m', h'.Ns ce.locals m' → Heap.SameBut ce.locals t5.heap h' → wpAny Mo A (PySem.passOn "comprehension.variables-let-go" u { ce with scope := relabel sc env } : Sem Value) (fun _ _ => False) Ex { t5 with heap := h' }) t4) Ex t3) Ex t2) Ex t1) Ex st) :
    wpAny Mo A (comprehension e sc env pos mk false first none) Q Ex st := by
  unfold comprehension
  rw [h3, h1]
  refine wpAny_bind (wpAny_mono h (fun v t1 g1 => ?_) fun _ _ y => y)
  refine wpAny_bind (wpAny_standAt (wpAny_bind (wpAny_of_eq (h2 v) (wpAny_bind (wpAny_holding (wpAny_mono g1 (fun it t2 g2 => ?_) fun _ _ y => y))))))
  refine wpAny_standIf (wpAny_bind (wpAny_mono g2 (fun ac t3 g3 => ?_) fun _ _ y => y))
  refine wpAny_bind (wpAny_pure (wpAny_bind (wpAny_mono g3 (fun ce t4 g4 => ?_) fun _ _ y => y)))
  dsimp only
  have names : ∀ x ∈ (sc.names.filter fun x => (x.2 == .local || x.2 == .cell) && x.1 != (".0" : Str)).reverse, x.2 = .local → Env.kindOf { ce with scope := relabel sc env } x.1 = some .local := fun x hx hl =>
    lookup_relabel_local (h5 x (List.mem_filter.mp (List.mem_reverse.mp hx)).1 hl)
  refine wpAny_holding (wpAny_bind (wpAny_attempt (wpAny_holding (wpAny_run (codeAny_mono g4 fun r t5 hr => ?_)))))
  cases r with
  | ok f =>
    obtain ⟨m, hn, hr⟩ := hr
    exact wpAny_bind (wpAny_holding (wpAny_comp_letGo (cenv := { ce with scope := relabel sc env }) h4 _ t5 m names hn fun h' m' _ sb => wpAny_pure (hr h' sb)))
  | error u =>
    obtain ⟨m, hn, hr⟩ := hr
    exact wpAny_bind (wpAny_holding (wpAny_comp_letGo (cenv := { ce with scope := relabel sc env }) h4 _ t5 m names hn fun h' m' hn' sb => wpAny_mono (hr h' m' hn' sb) (fun _ _ f => f.elim) fun _ _ y => y))
/-- the block's context, where calls may let something out -/
abbrev blkE (X : Cx) (s : Shared) (H : Hp) (sc : Scope) (ce : Env) (fp : List Addr) (E : XK) : Cx :=
  { X.blk s H sc ce fp with xe := fun u s' => ∃ pins σ H9 s9, L2.Inv (X.blk s H sc ce fp) pins σ H9 s9 ∧ L2.CX X.prog X.w X.stack H9 s9 E u s' }
theorem inv_xe {X : Cx} {y : Value → Shared → Prop} {pins : List (Addr × Obj)} {σ : L2.St} {H : Hp} {s : Shared} (I : L2.Inv X pins σ H s) : L2.Inv { X with xe := y } pins σ H s :=
  ⟨⟨I.ok.mod, I.ok.kind, I.ok.glob, I.ok.blt, I.ok.above, I.ok.inj, I.ok.has, I.ok.cab, I.ok.hd, I.ok.frames, I.ok.stk, I.ok.exf, I.ok.bs, I.ok.bsz, I.ok.noex, I.ok.exfs, I.ok.funs, I.ok.frf⟩, I.os, I.bare, I.base, I.loc, I.cell, I.free, I.freeC, I.pin, I.hok, I.len⟩
/-- behind the block: the list, or what is passed on -/
def lcPost (X : Cx) (pins : List (Addr × Obj)) (σ : L2.St) (Q : VK) (D C : Addr) (ce : Env) (r : Result) (t : Shared) : Prop := match r with
  | .ok _ => ∃ m, t.heap.Ns C m ∧ ∀ h', Heap.SameBut C t.heap h' → EP X pins σ Q (.ref D) { t with heap := h' }
  | .error u => ∃ m, t.heap.Ns C m ∧ ∀ (h' : Heap) m', h'.Ns C m' → Heap.SameBut C t.heap h' → wpAny (model X.prog X.w) X.A (PySem.passOn "comprehension.variables-let-go" u ce : Sem Value) (fun _ _ => False) X.xe { t with heap := h' }
theorem lc_out {X : Cx} {pins : List (Addr × Obj)} {s : Shared} {σ : L2.St} {H : Hp} {Q : VK} {E : XK} {W : WX} {elt tg iter : Expr} {ifs : List Expr} {sc : Scope} {own : List (Str × Nat)} {pos pos' : Pos} {wi : TI} {g : TG} {tt : TT} {te : TE}
    (hs : X.stack = X.env :: X.outer) (hf : X.env.frame = some X.env.locals) (tk : Takes X W) (hW : ∀ σ cls d H', E cls d H' → W cls d σ H')
    (hc : X.calm = true) (hN : X.N.Nodup) (I : L2.Inv X pins σ H s) (hi : PI X tg iter wi) (ok : BlkOk X.N X.env.scope sc own)
    (pgs : ∀ (s : Shared) (H : Hp) (C : Addr) (cl : List (Str × Addr)) (fp : List Addr), PG (X.blk s H sc (compEnvC sc cl C X.env) fp) tg g)
    (pts : ∀ (s : Shared) (H : Hp) (C : Addr) (cl : List (Str × Addr)) (fp : List Addr), PTs (X.blk s H sc (compEnvC sc cl C X.env) fp) ifs tt)
    (pes : ∀ (s : Shared) (H : Hp) (C : Addr) (cl : List (Str × Addr)) (fp : List Addr), PE (blkE X s H sc (compEnvC sc cl C X.env) fp E) elt te)
    (flat : ∀ x, foldedSetIterable iter X.env x = pure x) (h : tLc wi g tt te (own.map (·.2)) σ H Q) :
    wpAny (model X.prog X.w) X.A (comprehension (.ListComp elt [⟨tg, iter, ifs, 0⟩] sc pos) sc X.env pos' (newList []) false (eval iter X.env) none) (EP X pins σ Q) X.xe s := by
  have hfree : ∀ y ∈ sc.names, y.2 = .free → ∃ c, X.env.cells.lookup y.1 = some c := fun y hy e => I.ok.has _ (ok.free y hy e)
  refine comp_once rfl flat (closure_ok hfree) ok.kind (fun y hy e => by rw [ok.uniq y hy, e]) (thn (hi.run pins s σ H _ I h) fun xv s1 hx => thn hx fun itv s2 k2 => ?_)
  obtain ⟨it, fp, tn, J, H2, e, I2, T, st2, f2, q⟩ := k2
  subst e
  refine wpAny_newObj_type (newEnv_comp ?_) (show 0 ≤ sizeLine by decide)
  generalize hD : s2.heap.objs.size = D
  have hDn : H2 D = none := I2.hok.fresh (Nat.le_of_eq hD)
  obtain ⟨V, ⟨m0, w0⟩, turn⟩ := q D hDn
  generalize hs3 : ({ s2 with heap := s2.heap.push { cls := .type "list", data := .seq ([] : List Value).toArray } } : Shared) = s3
  have old3 : ∀ b o, s2.heap.get? b = some o → s3.heap.get? b = some o := fun b o e => by
    rw [← hs3]
    exact Heap.get?_push_of_some _ e
  have I3 : L2.Inv X pins σ (upd H2 D (.lst [])) s3 := by
    rw [← hs3]
    refine I2.laid (t' := s2.toks) (fun b o e => Heap.get?_push_of_some _ e) (Nat.le_of_eq hD) ⟨Nat.zero_le _, [], 0, .nil, ?_⟩
    rw [← hD]
    exact Heap.get?_push_size _ rfl
  have size3 : s3.heap.objs.size = s2.heap.objs.size + 1 := by rw [← hs3]; exact Heap.size_push ..
  have low : ∀ b ∈ fp, b < s2.heap.objs.size := fun b hb => by
    obtain ⟨o, e, _⟩ := T.obj _ _ st2 b hb
    exact Heap.lt_size e
  have f3 : ∀ b ∈ fp, FpOk X pins (upd H2 D (.lst [])) b ∧ b < s3.heap.objs.size := fun b hb => by
    have lt := low b hb
    refine ⟨⟨?_, (f2 b hb).2⟩, by rw [size3]; exact Nat.lt_succ_of_lt lt⟩
    rw [upd_ne (show b ≠ D by rw [← hD]; exact Nat.ne_of_lt lt)]
    exact (f2 b hb).1
  have st3 : tn 0 s3.heap := T.keep _ _ _ st2 fun b _ o e => old3 b o e
  have I4 := block_start I3 ok hN f3
  have pg := pgs s3 (upd H2 D (.lst [])) s3.heap.objs.size (cellsFrom (s3.heap.objs.size + 1) sc.names (cloFrom X.env.cells sc.names [])) fp
  have pt := pts s3 (upd H2 D (.lst [])) s3.heap.objs.size (cellsFrom (s3.heap.objs.size + 1) sc.names (cloFrom X.env.cells sc.names [])) fp
  have pe := pes s3 (upd H2 D (.lst [])) s3.heap.objs.size (cellsFrom (s3.heap.objs.size + 1) sc.names (cloFrom X.env.cells sc.names [])) fp
  have none3 : ∀ b ∈ fp, (upd H2 D (.lst [])) b = none := fun b hb => (f3 b hb).1.1
  have frame : (compEnvC sc (cellsFrom (s3.heap.objs.size + 1) sc.names (cloFrom X.env.cells sc.names [])) s3.heap.objs.size X.env).frame = X.env.frame := rfl
  have locs : (compEnvC sc (cellsFrom (s3.heap.objs.size + 1) sc.names (cloFrom X.env.cells sc.names [])) s3.heap.objs.size X.env).locals = s3.heap.objs.size := rfl
  show codeAny _ _ (.compStart (.ListComp elt [⟨tg, iter, ifs, 0⟩] sc pos) 0 (.ref it) (.ref D) (compEnvC sc (cellsFrom (s3.heap.objs.size + 1) sc.names (cloFrom X.env.cells sc.names [])) s3.heap.objs.size X.env)) (lcPost X pins σ Q D s3.heap.objs.size (compEnvC sc (cellsFrom (s3.heap.objs.size + 1) sc.names (cloFrom X.env.cells sc.names [])) s3.heap.objs.size X.env)) { s3 with heap := pushCells (s3.heap.push { cls := .type "dict", data := .dict #[] }) sc.names }
  generalize hce : compEnvC sc (cellsFrom (s3.heap.objs.size + 1) sc.names (cloFrom X.env.cells sc.names [])) s3.heap.objs.size X.env = ce at I4 pg pt pe frame locs ⊢
  generalize hH3 : upd H2 D (.lst []) = H3 at I3 I4 pg pt pe w0 none3 f3
  generalize hs4 : ({ s3 with heap := pushCells (s3.heap.push { cls := .type "dict", data := .dict #[] }) sc.names } : Shared) = s4 at I4 ⊢
  have st4 : tn 0 s4.heap := T.keep _ _ _ st3 fun b _ o e => by rw [← hs4]; exact pushCells_keeps _ _ _ _ (Heap.get?_push_of_some _ e)
  have stat : ∀ {σ' : L2.St} {H' : Hp} {s' : Shared}, L2.Inv (X.blk s3 H3 sc ce fp) [] σ' H' s' → (∀ b ∈ fp, H' b = none) → ∀ b ∈ fp, FpOk (X.blk s3 H3 sc ce fp) [] H' b := fun {σ' H' s'} J' hn b hb =>
    ⟨hn b hb, (J'.ok.exf b hb).1, J'.ok.exfs b hb, .inl hb, fun x c e => (J'.ok.exf b hb).2 x c e, fun p hp => absurd (show p ∈ ([] : List (Addr × Obj)) ++ [] from hp) (by simp)⟩
  -- back in the def's context
  have outer : ∀ {p : List (Addr × Obj)} {σ' : L2.St} {H' : Hp} {s' : Shared}, L2.Inv (X.blk s3 H3 sc ce fp) p σ' H' s' → L2.Inv X pins σ H' s' := fun J' =>
    I3.call' (ch := fp) J'.os J'.base J'.hok J'.bare fun b hb => ⟨(f3 b hb).1.2.2.2.1, (f3 b hb).1.2.1, (f3 b hb).1.2.2.2.2.1, (f3 b hb).1.2.2.2.2.2⟩
  have space : ∀ {p : List (Addr × Obj)} {σ' : L2.St} {H' : Hp} {s' : Shared}, L2.Inv (X.blk s3 H3 sc ce fp) p σ' H' s' → H' s3.heap.objs.size = none ∧ ∃ m, s'.heap.Ns s3.heap.objs.size m := fun {p σ' H' s'} J' => by
    have z : H' ce.locals = none := J'.free
    obtain ⟨m, hn, _⟩ := J'.loc
    have hn : s'.heap.Ns ce.locals m := hn
    rw [locs] at z hn
    exact ⟨z, m, hn⟩
  have err : ∀ u s', (blkE X s3 H3 sc ce fp E).xe u s' → notedBy (model X.prog X.w) X.A ce (fun e s' => lcPost X pins σ Q D s3.heap.objs.size ce (.error e) s') u s' := by
    rintro u s' ⟨p, σ', H', s0, J', c⟩
    obtain ⟨n0, m, hn⟩ := space J'
    refine wpAny_mono (air_out hs hf tk (hW σ) (outer J') (I3.fpOk (Nat.le_refl _) n0) hn frame c) (fun _ s2 k => ?_) fun _ _ y => y
    exact ⟨m, k.1, k.2⟩
  have loop : codeAny (model X.prog X.w) X.A (.compLoop (.ListComp elt [⟨tg, iter, ifs, 0⟩] sc pos) 0 (.ref it) (.ref D) ce) (lcPost X pins σ Q D s3.heap.objs.size ce) s4 := by
    refine compLoop_any (fun n s' => ∃ i H', L2.Inv (X.blk s3 H3 sc ce fp) [] (wipe σ (own.map (·.2))) H' s' ∧ tn i s'.heap ∧ (∀ b ∈ fp, H' b = none) ∧ V i n H') ?_ m0 ⟨0, H3, I4, st4, none3, w0⟩
    rintro n s5 ⟨i, H5, I5, st5, n5, w5⟩
    rcases turn i n H5 w5 with ⟨stop, qq⟩ | ⟨go, Nx, hNx, step⟩
    · refine thnF (T.done (X.blk s3 H3 sc ce fp) rfl rfl rfl hc i [] s5 _ H5 (fun _ _ => False) I5 (stat I5 n5) st5 stop) fun r s6 ⟨hr, I6⟩ => ?_
      subst hr
      obtain ⟨n0, m, hn⟩ := space I6
      obtain ⟨p0, p1, p2, p3, p4, p5⟩ := I3.fpOk (H' := H5) (Nat.le_refl _) n0
      exact ⟨m, hn, fun h' sb => ⟨.ref D, H5, (outer I6).turned (t' := s6.toks) (fun b o hb e => (sb.2 b hb).trans e) p0 p1 p3 p4 p5, rfl, qq⟩⟩
    · refine thnF (T.item (X.blk s3 H3 sc ce fp) rfl rfl rfl hc i [] s5 _ H5 (fun _ _ => False) I5 (stat I5 n5) st5 go) fun r s6 ⟨u, hr, h6⟩ => ?_
      subst hr
      refine thnF h6 fun _ s7 ⟨x, H7, I7, r7, y7, st7, n7⟩ => ?_
      have P7 := I7.pinned (stat I7 n7) (T.obj _ _ st7)
      refine thnF (pg.run _ s7 _ H7 x u _ P7 r7 (step x H7 y7)) fun _ s8 ⟨σ8, H8, I8, hw8, q8⟩ => ?_
      refine thnF (pt.run _ s8 σ8 H8 _ I8 q8) fun b s9 ⟨H9, I9, q9⟩ => ?_
      have fin : ∀ {s' : Shared} {H' : Hp}, L2.Inv (X.blk s3 H3 sc ce fp) ([] ++ pinsAt fp s7.heap) σ8 H' s' → Nx H' → ∃ m, m < n ∧ ∃ i H', L2.Inv (X.blk s3 H3 sc ce fp) [] (wipe σ (own.map (·.2))) H' s' ∧ tn i s'.heap ∧ (∀ b ∈ fp, H' b = none) ∧ V i m H' := fun {s' H'} J' nx => by
        obtain ⟨m', hm, w'⟩ := hNx H' nx
        have kept : ∀ b ∈ fp, ∀ o, s7.heap.get? b = some o → s'.heap.get? b = some o ∧ H' b = none := fun b hb o e => by
          have z := J'.pin (b, o) (List.mem_append_right _ (List.mem_append_right _ (mem_pinsAt hb e)))
          exact ⟨z.1, z.2.1⟩
        refine ⟨m', hm, i + 1, H', (J'.unpinned (pins := [])).weak (by rw [← hw8, wipe_length]) (fun j v e => ?_), T.keep _ _ _ st7 fun b hb o e => (kept b hb o e).1, fun b hb => ?_, w'⟩
        · rw [← hw8] at e
          exact (wipe_some e).1
        · obtain ⟨o, e, _⟩ := T.obj _ _ st7 b hb
          exact (kept b hb o e).2
      cases b with
      | false =>
        rw [if_neg (by decide)] at q9 ⊢
        exact fin I9 q9
      | true =>
        rw [if_pos rfl] at q9 ⊢
        refine wpAny_mono (pe.run _ s9 σ8 H9 _ (inv_xe I9) q9) (fun z s10 ⟨yv, H10, I10, r10, acc, hD10, hz10, nx⟩ => ?_) fun u s' hx => err u s' hx
        exact app_ok (X := X.blk s3 H3 sc ce fp) (inv_xe I10) hD10 hz10 r10 fun s11 I11 => fin I11 nx
  exact codeAny_compStart_list loop (T.self X.A 0 _ _ _ st4 loop)
/-- what is wished of a raise, whatever the slots hold -/
def anyW (W : WD) : WD := fun c _ => ∀ sd, W c sd
def lcX (K : PySem.W.Frag) (C : Ct) (CN : String → Option Addr) (W : WD) : XK := fun cls d H => ∃ cn a F, CN cn = some a ∧ cls = .ref a ∧ d = none ∧ Same C.F0 F ∧ Same F H ∧ (∀ a o, F a = some o → C.F0 a = some o ∨ C.H0 a = none) ∧
  (∀ a o, C.H0 a = some o → ¬ C.B a → H a = some o) ∧ (∀ a, H a = none → C.H0 a = none) ∧ ∀ sd, W cn sd
section
variable {X : Cx} {K : PySem.W.Frag} {C : Ct} {CN : String → Option Addr} {W : WD} {cls : Value} {d : Option Addr} {σ : L2.St} {H : Hp}
theorem lcX_out (h : lcX K C CN W cls d H) : wD K C CN W cls d σ H := by
  obtain ⟨cn, a, F, h1, h2, h3, g, e, n, k, t, w⟩ := h
  have no : ∀ (n i : Nat), sget (List.replicate n S.no) i = .no := by
    intro n
    induction n with
    | zero => intro i; cases i <;> rfl
    | succ n ih => intro i; cases i with
      | zero => rfl
      | succ i => exact ih i
  exact ⟨cn, a, F, List.replicate σ.length .no, h1, h2, h3, ⟨by simp, g, e, n, k, t, fun i => by rw [no]; trivial, fun i j p _ z => by rw [no] at z; cases z⟩, w _⟩
theorem lcX_in (h : wD K C CN (anyW W) cls d σ H) : lcX K C CN W cls d H := by
  obtain ⟨cn, a, F, sd, h1, h2, h3, R, w⟩ := h
  exact ⟨cn, a, F, h1, h2, h3, R.grow, R.ext, R.new, R.keep, R.still, w⟩
theorem passX {s : Shared} {sc : Scope} {ce : Env} {fp : List Addr} (σ : L2.St) : PassesAt (L2.CX X.prog X.w) (blkE X s H sc ce fp (lcX X.K C CN W)) σ (WE (wD X.K C CN (anyW W)) σ) := by
  rintro pins H2 t u t' I ⟨a, B, H', cls, d, e1, e2, e3, e4, e5, e6, e7, e8⟩
  exact ⟨pins, σ, H2, t, inv_xe I, a, B, H', cls, d, e1, e2, e3, e4, e5, e6, e7, lcX_in e8⟩
theorem pd_callX {spec : PSpec} {W : WD} {ma : MA} {x : Str} {p pos : Pos} {e : Expr} {es : List Expr} {k j : Nat} (c : CalP X.prog X.w X.K X.mg X.base CN k x spec) (hr : RoomG j X.A) (hk : k ≤ j) (hx : ∀ σ, PassesAt (L2.CX X.prog X.w) X σ (WE (wD X.K C CN W) σ)) (ha : PA X (e :: es) (tDA X.K C ma)) (hg : Gl X x := by rfl)
    (hdb : (x == ("__debug__" : Str)) = false := by decide) (he : starEach (e :: es) X.env = (false, eval e X.env) :: starEach es X.env := by rfl) (hpl : (backTo pos (starEach es X.env)).any (·.1) = false := by rfl) :
    PE X (.Call (.Name x p) (e :: es) [] pos) (tD X.K C (mCall spec W ma)) := by
  obtain ⟨f, fd, ps, F, hm, hkp, hb⟩ := c.ex
  exact pe_imp (pe_callG F (hr.mono hk) hg hm hkp hb hx ha hdb he hpl) td_call
theorem pe_lcE {elt tg iter : Expr} {ifs : List Expr} {scope : Scope} {own : List (Str × Nat)} {pos : Pos} {wi : TI} {g : TG} {tt : TT} {te : TE} (hs : X.stack = X.env :: X.outer) (hf : X.env.frame = some X.env.locals) (tk : Takes X (wD X.K C CN W))
    (hc : X.calm = true) (hN : X.N.Nodup) (hi : PI X tg iter wi) (ok : BlkOk X.N X.env.scope scope own)
    (pgs : ∀ (s : Shared) (H : Hp) (C : Addr) (cl : List (Str × Addr)) (fp : List Addr), PG (X.blk s H scope (compEnvC scope cl C X.env) fp) tg g)
    (pts : ∀ (s : Shared) (H : Hp) (C : Addr) (cl : List (Str × Addr)) (fp : List Addr), PTs (X.blk s H scope (compEnvC scope cl C X.env) fp) ifs tt)
    (pes : ∀ (s : Shared) (H : Hp) (A : Addr) (cl : List (Str × Addr)) (fp : List Addr), PE (blkE X s H scope (compEnvC scope cl A X.env) fp (lcX X.K C CN W)) elt te)
    (flat : ∀ x, foldedSetIterable iter X.env x = pure x := by intro _; rfl) : PE X (.ListComp elt [⟨tg, iter, ifs, 0⟩] scope pos) (tLc wi g tt te (own.map (·.2))) := by
  refine ⟨fun pins s σ H Q I h => ?_⟩
  rw [eval_ListComp]
  exact lc_out hs hf tk (fun _ _ _ _ => lcX_out) hc hN I hi ok pgs pts pes flat h
end
end DL
namespace DL
open PySem PySem.Spec PyProof.Rows L2
def bIntB : List PyData → Option PyData
  | [.int i] => some (.int i)
  | [.bool b] => some (.int (if b = true then 1 else 0))
  | _ => none
def opSIdx : PyData → PyData → Option PyData
  | .str a, .str b => match Builtin.Str.occurrences a b 0 a.length 1 with
    | i :: _ => some (.int (i : Nat))
    | [] => none
  | _, _ => none
section
variable {K : PySem.W.Frag} {X : Cx} {C : Ct}
theorem rc_intB : RLC K (fun xs H Q => (∃ i, xs = [V.int i] ∧ Q (.int i) H) ∨ ∃ k, xs = [V.bl k] ∧ Q (.int (if k then 1 else 0)) H) bIntB := by
  intro F H xs as z Q e _ rx h k
  unfold bIntB at h
  split at h
  · obtain ⟨x, rfl, r⟩ := rpA1 rx
    cases h
    cases r
    exact .inl ⟨_, rfl, k _ F H .id (.int _)⟩
  · obtain ⟨x, rfl, r⟩ := rpA1 rx
    cases h
    cases r
    exact .inr ⟨_, rfl, k _ F H .id (.int _)⟩
  · cases h
/-- s.f(e): s a text -/
def mStrM (f : PyData → PyData → Option PyData) (ma mb : ME) : ME := fun sd Q => ma sd fun a s1 => ∃ s, a = .str s ∧ mb s1 fun b s2 => ∃ r, f (.str s) b = some r ∧ Q r s2
theorem td_strM1 {r : V → List V → Hp → VK → Prop} {f : PyData → PyData → Option PyData} {ma mb : ME}
    (L : ∀ (F H : Hp) (s : Str) (y : V) (b z : PyData) (Q : VK), Same F H → Rp K F y b → f (.str s) b = some z → (∀ v, Rp K F v z → Q v H) → r (.str s) [y] H Q) :
    ∀ σ H Q, tD K C (mStrM f ma mb) σ H Q → tBM K "str" r (tD K C ma) (tCons (tD K C mb) tNil) σ H Q := by
  rintro σ H Q ⟨F, sd, Qd, R, h, k⟩
  refine ⟨F, sd, _, R, h, fun x H1 F1 a sd1 R1 S1 rx h1 => ?_⟩
  obtain ⟨s, rfl, h1⟩ := h1
  cases rx
  refine ⟨rfl, F1, sd1, _, R1, h1, fun y H2 F2 b sd2 R2 S2 ry h2 => ?_⟩
  obtain ⟨z, e, q⟩ := h2
  exact L F2 H2 s y b z Q R2.ext ry e fun v rz => k v H2 F2 z sd2 R2 (S1.trans S2) rz q
variable {o e : Expr} {apos cpos : Pos} {ma mb : ME}
theorem pd_sidx (ho : PE X o (tD X.K C ma)) (he : PE X e (tD X.K C mb)) (t : PE X (.Call (.Attribute o "index" apos) [e] [] cpos) (tBM X.K "str" (fun x xs H Q => ∃ a b i rest, x = V.str a ∧ xs = [V.str b] ∧ Builtin.Str.occurrences a b 0 a.length 1 = i :: rest ∧ Q (.int (i : Nat)) H) (tD X.K C ma) (tCons (tD X.K C mb) tNil))) : PE X (.Call (.Attribute o "index" apos) [e] [] cpos) (tD X.K C (mStrM opSIdx ma mb)) := pe_imp t (td_strM1 (by
  intro F H s y b z Q e ry h k
  cases b with
  | str b' =>
    cases ry
    have h : (match Builtin.Str.occurrences s b' 0 s.length 1 with
      | i :: _ => some (PyData.int (i : Nat))
      | [] => none) = some z := h
    split at h
    · rename_i i rest ho
      cases h
      exact ⟨_, _, i, rest, rfl, rfl, ho, k _ (.int _)⟩
    · cases h
  | _ => cases h))
end
end DL
namespace DL
open PySem PySem.Spec PyProof.Rows L2
theorem u1 {k : Nat} {A : Around} (h : RoomG k A) : A.units + 1 < cLine := by have := RoomG.u64 h; omega
/-- d[k], d a dict, k a text -/
def dget (x : Str) : List (PyData × PyData) → Option PyData
  | [] => none
  | (.str y, d) :: es => if y = x then some d else dget x es
  | _ :: es => dget x es
def opDGet : PyData → PyData → Option PyData
  | .dict es, .str x => dget x es
  | _, _ => none
def strsD : List PyData → Option (List Str)
  | [] => some []
  | .str x :: ds => (strsD ds).map (x :: ·)
  | _ :: _ => none
def opJoin : PyData → PyData → Option PyData
  | .str a, .list ds => (strsD ds).bind fun ys => if (ys.map (·.length)).sum + ys.length * a.length ≤ 16777216 then some (.str (Txt.join a ys)) else none
  | _, _ => none
def opRevS : PyData → Option PyData
  | .str z => if z.length ≤ 100000 then some (.str ⟨z.cps.toList.reverse.toArray⟩) else none
  | _ => none
def mDisp (kvs : List (Str × Str)) : ME := fun sd Q => Q (.dict (kvs.map fun kv => (.str kv.1, .str kv.2))) sd
section
variable {K : PySem.W.Frag} {X : Cx} {C : Ct}
theorem rpD_get {F : Hp} (x : Str) : ∀ {kvs : List (Key × V)} {es : List (PyData × PyData)} {d : PyData}, RpD K F kvs es → dget x es = some d → ∃ v, valV kvs (.inr x) = some v ∧ Rp K F v d := by
  intro kvs
  induction kvs with
  | nil => intro es d r h; cases r; cases h
  | cons p kvs ih =>
    intro es d r h
    obtain ⟨k, v⟩ := p
    cases r with
    | cons rv r =>
      cases k with
      | inl i =>
        have h : dget x _ = some d := h
        obtain ⟨u, e, ru⟩ := ih r h
        exact ⟨u, (valV_neg (p := (Sum.inl i, v)) (by intro q; cases q)).trans e, ru⟩
      | inr y =>
        by_cases e : y = x
        · have h : (if y = x then some _ else _) = some d := h
          rw [if_pos e] at h
          cases h
          exact ⟨v, valV_pos (p := (Sum.inr y, v)) (congrArg Sum.inr e), rv⟩
        · have h : (if y = x then some _ else dget x _) = some d := h
          rw [if_neg e] at h
          obtain ⟨u, e2, ru⟩ := ih r h
          exact ⟨u, (valV_neg (p := (Sum.inr y, v)) (fun q => e (Sum.inr.inj q))).trans e2, ru⟩
theorem pd_dget {a b : Expr} {ma mb : ME} {pos : Pos} (hu : X.A.units + 1 < cLine) (ha : PE X a (tD X.K C ma)) (hb : PE X b (tD X.K C mb)) (hs : NoSl b) : PE X (.Subscript a b pos) (tD X.K C (mOp2 opDGet ma mb)) := pe_imp (pe_dget hu ha hb hs) (by
  rintro σ H Q ⟨F, sd, Qd, R, h, k⟩
  refine ⟨F, sd, _, R, h, fun x H1 F1 d1 sd1 R1 S1 rx h1 => ⟨F1, sd1, _, R1, h1, fun y H2 F2 d2 sd2 R2 S2 ry h2 => ?_⟩⟩
  obtain ⟨z, e, q⟩ := h2
  have rx' := rx.mono S2.fr
  cases d1 with
  | dict es =>
    cases d2 with
    | str s =>
      cases ry
      cases rx' with
      | dct hF r =>
        obtain ⟨v, e2, rv⟩ := rpD_get s r e
        exact ⟨_, v, rfl, .inl ⟨_, Sum.inr s, .inl (R2.ext _ _ hF), rfl, e2.symm⟩, k v H2 F2 z sd2 R2 (S1.trans S2) rv q⟩
      | ins _ _ _ => cases e
    | _ => cases e
  | _ => cases e)
theorem tPairs_c : ∀ (kvs : List (Str × Str)) (σ : L2.St) (H : Hp) (Q : List (V × V) → Hp → Prop), Q (kvs.map fun kv => (V.str kv.1, V.str kv.2)) H → tPairs (kvs.map fun kv => (tC (.str kv.1), tC (.str kv.2))) σ H Q
  | [], _, _, _, h => h
  | (x, y) :: r, σ, H, Q, h => tPairs_c r σ H (fun ps H3 => Q ((V.str x, V.str y) :: ps) H3) h
def keysK (kvs : List (Str × Str)) : List (Key × V) := kvs.map fun kv => (Sum.inr kv.1, V.str kv.2)
theorem rpD_keys {F : Hp} : ∀ kvs : List (Str × Str), RpD K F (keysK kvs) (kvs.map fun kv => (.str kv.1, .str kv.2))
  | [] => .nil
  | (x, y) :: r => .cons (k := Sum.inr x) (.str y) (rpD_keys r)
theorem pd_disp {pos : Pos} {keys : List (Option Expr)} {values : List Expr} (kvs : List (Str × Str)) (h : PPs X pos keys values (kvs.map fun kv => (tC (.str kv.1), tC (.str kv.2)))) (hall : keys.all (·.isSome) = true) (hl : keys.length = values.length) (h0 : keys ≠ [])
    (h15 : keys.length ≤ 15) (hk : kvs.length ≤ 15) (hm : mergeK [] (keysK kvs) = keysK kvs) : PE X (.Dict keys values pos) (tD X.K C (mDisp kvs)) := pe_imp (pe_disp h hall hl h0 h15) (by
  rintro σ H Q ⟨F, sd, Qd, R, h, k⟩ p hp
  refine tPairs_c kvs σ _ _ ?_
  refine ⟨upd_same, keysK kvs, by unfold keysK; rw [List.map_map]; rfl, by unfold keysK; rw [List.length_map]; exact hk, ?_⟩
  rw [hm]
  have e2 : upd (upd H p (.dK [])) p (.dK (keysK kvs)) = upd H p (.dK (keysK kvs)) := by
    funext b; unfold upd; by_cases q : b = p <;> simp [q]
  rw [e2]
  exact k (.ref p) _ _ _ sd (R.al (.new hp)) (.al R (.new hp)) (.dct upd_same (rpD_keys kvs)) h)
theorem rpA_strs {F : Hp} : ∀ {vs : List V} {ds : List PyData} {ys : List Str}, RpA K F vs ds → strsD ds = some ys → vs = ys.map V.str := by
  intro vs
  induction vs with
  | nil => intro ds ys r h; cases r; cases h; rfl
  | cons v vs ih =>
    intro ds ys r h
    cases r with
    | @cons _ _ d ds rv r =>
      cases d with
      | str x =>
        cases rv
        have h : (strsD ds).map (x :: ·) = some ys := h
        cases e : strsD ds with
        | none => rw [e] at h; cases h
        | some zs => rw [e] at h; cases h; rw [ih r e]; rfl
      | _ => cases h
variable {o e : Expr} {apos cpos : Pos} {ma mb : ME}
theorem pd_join (ho : PE X o (tD X.K C ma)) (he : PE X e (tD X.K C mb)) (t : PE X (.Call (.Attribute o "join" apos) [e] [] cpos) (tBM X.K "str" (fun x xs H Q => ∃ a p, ∃ ys : List Str, x = .str a ∧ xs = [.ref p] ∧ (SqL X.K H p (ys.map V.str) ∨ SqT X.K H p (ys.map V.str)) ∧
    (ys.map (·.length)).sum + ys.length * a.length ≤ 16777216 ∧ Q (.str (Txt.join a ys)) H) (tD X.K C ma) (tCons (tD X.K C mb) tNil))) : PE X (.Call (.Attribute o "join" apos) [e] [] cpos) (tD X.K C (mStrM opJoin ma mb)) := pe_imp t (td_strM1 (by
  intro F H s y b z Q ex ry h k
  cases b with
  | list ds =>
    cases ry with
    | lst hF r =>
      have h : ((strsD ds).bind fun ys => if (ys.map (·.length)).sum + ys.length * s.length ≤ 16777216 then some (PyData.str (Txt.join s ys)) else none) = some z := h
      cases e : strsD ds with
      | none => rw [e] at h; cases h
      | some ys =>
        rw [e] at h
        have h : (if (ys.map (·.length)).sum + ys.length * s.length ≤ 16777216 then some (PyData.str (Txt.join s ys)) else none) = some z := h
        split at h
        · rename_i hz
          cases h
          have := rpA_strs r e
          subst this
          exact ⟨_, _, ys, rfl, rfl, .inl (.inl (.inl (ex _ _ hF))), hz, k _ (.str _)⟩
        · cases h
  | _ => cases h))
theorem revS_pick (z : Str) (t : Tok) : (slicePicked z none none (some ((-1 : Int), t))).filterMap (z.cps[·]?) = z.cps.toList.reverse := by
  have e : slicePicked z none none (some ((-1 : Int), t)) = (List.range z.cps.size).map fun k => z.cps.size - 1 - k := PySem.W.krv_sliceRange z.cps.size
  rw [e, PySem.W.krv_range, List.filterMap_reverse, PySem.W.krv_all]
def tRevS (te : TE) : TE := fun σ H Q => te σ H fun x H1 => ∃ z, x = .str z ∧ z.length ≤ 100000 ∧ Q (.str ⟨z.cps.toList.reverse.toArray⟩) H1
theorem pe_revS {e : Expr} {te : TE} {k : Nat} {p1 p2 p3 pos : Pos} (he : PE X e te) : PE X (.Subscript e (.Slice none none (some (.UnaryOp .USub (.Constant (.int 1) k p1) p2)) p3) pos) (tRevS te) := by
  refine ⟨fun pins s σ H Q I h => Subscript_ (thn (he.run pins s σ H _ I h) fun v s1 hh => ?_)⟩
  obtain ⟨x, H1, I1, r1, z, ex, hz, q⟩ := hh
  subst ex
  obtain ⟨t, rfl⟩ := r1
  have one : PO X (some (.UnaryOp .USub (.Constant (.int 1) k p1) p2)) (tPart (tUn (rU fun i => .int (-i)) (tC (.int 1)))) := po_some (pe_un un_neg pe_int)
  refine wpAny_Slice (thn (po_none.run pins s1 σ H1 (fun o H2 => o = none ∧ H2 = H1) I1 ⟨rfl, rfl⟩) fun vl s2 y => ?_)
  obtain ⟨_, _, I2, pl, rfl, rfl⟩ := y
  refine thn (po_none.run pins s2 σ _ (fun o H3 => o = none ∧ H3 = _) I2 ⟨rfl, rfl⟩) fun vu s3 y => ?_
  obtain ⟨_, _, I3, pu, rfl, rfl⟩ := y
  refine thn (one.run pins s3 σ _ (fun o H4 => o = some (-1) ∧ H4 = _) I3 ⟨1, rfl, -1, rfl, rfl, rfl⟩) fun vs s4 y => ?_
  obtain ⟨_, H4, I4, ps, rfl, rfl⟩ := y
  have I5 : L2.Inv X pins σ _ { s4 with heap := s4.heap.push { cls := .type "slice", data := .fields #[vl, vu, vs] } } := I4.kept (t' := s4.toks) fun b ob q => Heap.get?_push_of_some _ q
  cases pl
  cases pu
  cases ps with
  | int _ tk =>
  show wpAny (model X.prog X.w) X.A (subscriptTail e _ (.str z t) (.ref s4.heap.objs.size)) (EP X pins σ Q) X.xe { s4 with heap := s4.heap.push { cls := .type "slice", data := .fields #[.none, .none, .int (-1) tk] } }
  refine tail_any (ops := [.str z t, .ref s4.heap.objs.size]) (typeIs_str _ z t) (PySem.F.slot_str_getitem.lookup) ?_ (by with_unfolding_all rfl)
  refine wpAny_getItem_str_slice (l := none) (u := none) (st := some (-1, tk)) ⟨_, Heap.get?_push_size _ rfl, rfl, rfl⟩ rfl ?_
  have em : sliceMade z t none none (some ((-1 : Int), tk)) = .str ⟨z.cps.toList.reverse.toArray⟩ := by
    unfold sliceMade
    rw [if_neg (by intro q; rw [Bool.and_eq_true] at q; exact absurd q.1 (by show ¬ (((-1 : Int) == 1) = true); decide)), revS_pick]
  rw [em]
  refine ⟨?_, ?_⟩
  · show (z.cps.toList.reverse.toArray).size ≤ sizeLine
    rw [List.size_toArray, List.length_reverse, Array.length_toList]
    exact Nat.le_trans hz (by decide)
  · exact ⟨.str _, _, I5.tok _, ⟨_, rfl⟩, q⟩
theorem pd_revS {e : Expr} {me : ME} {k : Nat} {p1 p2 p3 pos : Pos} (he : PE X e (tD X.K C me)) : PE X (.Subscript e (.Slice none none (some (.UnaryOp .USub (.Constant (.int 1) k p1) p2)) p3) pos) (tD X.K C (mOp1 opRevS me)) := pe_imp (pe_revS he) (by
  rintro σ H Q ⟨F, sd, Qd, R, h, k⟩
  refine ⟨F, sd, _, R, h, fun x H1 F1 a sd1 R1 S1 rx h1 => ?_⟩
  obtain ⟨z, e, q⟩ := h1
  cases a with
  | str s =>
    cases rx
    have e : (if s.length ≤ 100000 then some (PyData.str ⟨s.cps.toList.reverse.toArray⟩) else none) = some z := e
    split at e
    case isFalse => cases e
    case isTrue hz =>
    cases e
    exact ⟨s, rfl, hz, k _ H1 F1 _ sd1 R1 S1 (.str _) q⟩
  | _ => cases e)
end
end DL
namespace DL
open PySem PySem.Spec PyProof.Rows L2
def opStarts : PyData → PyData → Option PyData
  | .str a, .str b => some (.bool (Txt.startswith a b))
  | _, _ => none
def opSplit : PyData → PyData → Option PyData
  | .str a, .str b => if (b.length == 0) = false ∧ a.length + 2 ≤ sizeLine then some (.list ((Txt.split a b).map .str)) else none
  | _, _ => none
def opZfill : PyData → PyData → Option PyData
  | .str a, .int i => if PadOk i = true then some (.str (Txt.zfill a i)) else none
  | _, _ => none
def opAscii : PyData → Option PyData
  | .str a => some (.bool (Txt.isascii a))
  | _ => none
def opDigit : PyData → Option PyData
  | .str a => some (.bool (Txt.isdigit a))
  | _ => none
def bStrI : List PyData → Option PyData
  | [.int i] => if i.natAbs.log2 < 1920 then some (.str (Str.ofString (toString i))) else none
  | _ => none
def bIntS : List PyData → Option PyData
  | [.str a] => match PySem.intText? a with
    | some n => if a.length ≤ 640 then some (.int n) else none
    | none => none
  | _ => none
/-- range(i, j, c): n turns from lo by steps of c -/
def rangeC (lo c : Int) (n : Nat) : List PyData := (List.range n).map fun i : Nat => .int (lo + (i : Int) * c)
def miRng3 (ma : MA) : MI := fun sd Q => ma sd fun ds s1 => ∃ (i j c : Int) (n : Nat), ds = [.int i, .int j, .int c] ∧ (0 < c ∧ c < 100000 ∧ 0 ≤ i ∧ i < 2 ^ 60 ∧ 0 ≤ j ∧ j < 2 ^ 60) ∧ (if i < j then (j - i - 1) / c + 1 else 0) = (n : Int) ∧ Q (rangeC i c n) s1
/-- s.f(): s a text -/
def mStr0 (f : PyData → Option PyData) (ma : ME) : ME := fun sd Q => ma sd fun a s1 => ∃ s, a = .str s ∧ ∃ r, f (.str s) = some r ∧ Q r s1
section
variable {K : PySem.W.Frag} {X : Cx} {C : Ct}
theorem rc_strI : RLC K (fun xs H Q => ∃ i, xs = [V.int i] ∧ i.natAbs.log2 < 1920 ∧ Q (.str (Str.ofString (toString i))) H) bStrI := by
  intro F H xs as z Q e _ rx h k
  unfold bStrI at h
  split at h
  · obtain ⟨x, rfl, r⟩ := rpA1 rx
    split at h
    · rename_i hl
      cases h
      cases r
      exact ⟨_, rfl, hl, k _ F H .id (.str _)⟩
    · cases h
  · cases h
theorem rc_intS : RLC K (fun xs H Q => ∃ a n, xs = [V.str a] ∧ PySem.intText? a = some n ∧ a.length ≤ 640 ∧ Q (.int n) H) bIntS := by
  intro F H xs as z Q e _ rx h k
  unfold bIntS at h
  split at h
  · obtain ⟨x, rfl, r⟩ := rpA1 rx
    split at h
    · rename_i n hn
      split at h
      · rename_i hl
        cases h
        cases r
        exact ⟨_, n, rfl, hn, hl, k _ F H .id (.int _)⟩
      · cases h
    · cases h
  · cases h
theorem td_str0 {r : V → List V → Hp → VK → Prop} {f : PyData → Option PyData} {ma : ME}
    (L : ∀ (H : Hp) (F : Hp) (s : Str) (z : PyData) (Q : VK), f (.str s) = some z → (∀ v, Rp K F v z → Q v H) → r (.str s) [] H Q) :
    ∀ σ H Q, tD K C (mStr0 f ma) σ H Q → tBM0 K "str" r (tD K C ma) σ H Q := by
  rintro σ H Q ⟨F, sd, Qd, R, h, k⟩
  refine ⟨F, sd, _, R, h, fun x H1 F1 a sd1 R1 S1 rx h1 => ?_⟩
  obtain ⟨s, rfl, z, e, q⟩ := h1
  cases rx
  exact ⟨rfl, L H1 F1 s z Q e fun v rz => k v H1 F1 z sd1 R1 S1 rz q⟩
variable {o e : Expr} {apos cpos : Pos} {ma mb : ME}
theorem pd_ascii (t : PE X (.Call (.Attribute o "isascii" apos) [] [] cpos) (tBM0 X.K "str" (fun x xs H Q => ∃ a, x = V.str a ∧ xs = [] ∧ True ∧ Q (V.bl (Txt.isascii a)) H) (tD X.K C ma))) : PE X (.Call (.Attribute o "isascii" apos) [] [] cpos) (tD X.K C (mStr0 opAscii ma)) := pe_imp t (td_str0 (by
  intro H F s z Q e k
  have e : some (PyData.bool (Txt.isascii s)) = some z := e
  cases e
  exact ⟨s, rfl, rfl, trivial, k _ (.bl _)⟩))
theorem pd_digit (t : PE X (.Call (.Attribute o "isdigit" apos) [] [] cpos) (tBM0 X.K "str" (fun x xs H Q => ∃ a, x = V.str a ∧ xs = [] ∧ True ∧ Q (V.bl (Txt.isdigit a)) H) (tD X.K C ma))) : PE X (.Call (.Attribute o "isdigit" apos) [] [] cpos) (tD X.K C (mStr0 opDigit ma)) := pe_imp t (td_str0 (by
  intro H F s z Q e k
  have e : some (PyData.bool (Txt.isdigit s)) = some z := e
  cases e
  exact ⟨s, rfl, rfl, trivial, k _ (.bl _)⟩))
theorem pd_starts (t : PE X (.Call (.Attribute o "startswith" apos) [e] [] cpos) (tBM X.K "str" (fun x xs H Q => ∃ a b, x = V.str a ∧ xs = [V.str b] ∧ Q (V.bl (Txt.startswith a b)) H) (tD X.K C ma) (tCons (tD X.K C mb) tNil))) : PE X (.Call (.Attribute o "startswith" apos) [e] [] cpos) (tD X.K C (mStrM opStarts ma mb)) := pe_imp t (td_strM1 (by
  intro F H s y b z Q e ry h k
  cases b with
  | str b' =>
    cases ry
    have h : some (PyData.bool (Txt.startswith s b')) = some z := h
    cases h
    exact ⟨_, _, rfl, rfl, k _ (.bl _)⟩
  | _ => cases h))
theorem pd_zfill (t : PE X (.Call (.Attribute o "zfill" apos) [e] [] cpos) (tBM X.K "str" (fun x xs H Q => ∃ a i, x = V.str a ∧ xs = [V.int i] ∧ PadOk i = true ∧ Q (V.str (Txt.zfill a i)) H) (tD X.K C ma) (tCons (tD X.K C mb) tNil))) : PE X (.Call (.Attribute o "zfill" apos) [e] [] cpos) (tD X.K C (mStrM opZfill ma mb)) := pe_imp t (td_strM1 (by
  intro F H s y b z Q e ry h k
  cases b with
  | int i =>
    cases ry
    have h : (if PadOk i = true then some (PyData.str (Txt.zfill s i)) else none) = some z := h
    split at h
    · rename_i hp
      cases h
      exact ⟨_, _, rfl, rfl, hp, k _ (.str _)⟩
    · cases h
  | _ => cases h))
theorem rpA_ofStrs {F : Hp} : ∀ ys : List Str, RpA K F (ys.map V.str) (ys.map .str)
  | [] => .nil
  | y :: ys => .cons (.str y) (rpA_ofStrs ys)
theorem pd_split (t : PE X (.Call (.Attribute o "split" apos) [e] [] cpos) (tBM X.K "str" (fun x xs H Q => ∃ a b, x = V.str a ∧ xs = [V.str b] ∧ (b.length == 0) = false ∧ a.length + 2 ≤ sizeLine ∧ rNewStrs (Txt.split a b) H Q) (tD X.K C ma) (tCons (tD X.K C mb) tNil))) : PE X (.Call (.Attribute o "split" apos) [e] [] cpos) (tD X.K C (mStrM opSplit ma mb)) := pe_imp t (by
  rintro σ H Q ⟨F, sd, Qd, R, h, k⟩
  refine ⟨F, sd, _, R, h, fun x H1 F1 a sd1 R1 S1 rx h1 => ?_⟩
  obtain ⟨s, rfl, h1⟩ := h1
  cases rx
  refine ⟨rfl, F1, sd1, _, R1, h1, fun y H2 F2 b sd2 R2 S2 ry h2 => ?_⟩
  obtain ⟨z, e, q⟩ := h2
  cases b with
  | str b' =>
    cases ry
    have e : (if (b'.length == 0) = false ∧ s.length + 2 ≤ sizeLine then some (PyData.list ((Txt.split s b').map .str)) else none) = some z := e
    split at e
    · rename_i hc
      cases e
      refine ⟨s, b', rfl, rfl, hc.1, hc.2, fun p hp => ?_⟩
      exact k (.ref p) _ _ _ sd2 (R2.al (.new hp)) ((S1.trans S2).trans (.al R2 (.new hp))) (.lst upd_same (rpA_ofStrs _)) q
    · cases e
  | _ => cases e)
theorem wk_rangeC {F : Hp} {lo c : Int} {n : Nat} : Wk K (Itc lo c n) F (rangeC lo c n) := by
  have hl : (rangeC lo c n).length = n := by simp [rangeC]
  refine ⟨fun _ => True, YFn fun i => .int (lo + (i : Nat) * c), by rw [hl]; exact walk_rangeC, fun _ _ => trivial, fun i H x H' F' hi e1 e2 y => ?_⟩
  obtain ⟨rfl, rfl⟩ := y
  refine ⟨F', _, .id, ?_, .int _⟩
  unfold rangeC
  rw [List.getElem?_map, List.getElem?_range (by rw [hl] at hi; exact hi)]
  rfl
theorem rgC_ok {i j c : Int} {n : Nat} (h : 0 < c ∧ c < 100000 ∧ 0 ≤ i ∧ i < 2 ^ 60 ∧ 0 ≤ j ∧ j < 2 ^ 60) (hn : (if i < j then (j - i - 1) / c + 1 else 0) = (n : Int)) : RgC i j c n := by
  obtain ⟨c0, c1, i0, i1, j0, j1⟩ := h
  have sz : Builtin.Range.rangeSize i j c = (n : Int) := by
    unfold Builtin.Range.rangeSize
    rw [if_pos (by omega)]
    exact hn
  have nb : (n : Int) ≤ 2 ^ 61 := by
    rw [← hn]
    split
    · have := Int.ediv_le_self c (show 0 ≤ j - i - 1 by omega)
      omega
    · decide
  have fit : ∀ z : Int, 0 ≤ z → z ≤ 2 ^ 61 → Builtin.Range.rangeFitsLong z = true := by
    intro z h0 h1
    unfold Builtin.Range.rangeFitsLong
    simp
    omega
  refine ⟨by omega, by omega, ?_, sz⟩
  unfold Builtin.Range.small
  rw [sz, fit i i0 (by omega), fit j j0 (by omega), fit c (by omega) (by omega), fit n (by omega) nb, if_pos (by omega), fit (j + (c - 1)) (by omega) (by omega)]
  simp
theorem d_range3 {tg a b c : Expr} {p pos : Pos} {m : MA} (hm : X.mg "range" = none) (h : PA X [a, b, c] (tDA X.K C m)) (hg : Gl X "range" := by rfl) (hs : starEach [a, b, c] X.env = (false, eval a X.env) :: starEach [b, c] X.env := by rfl) (hs2 : ((backTo pos (starEach [b, c] X.env)).any fun x => x.fst) = false := by rfl) : PI X tg (.Call (.Name "range" p) [a, b, c] [] pos) (tDI X.K C (miRng3 m)) := pi_imp (pi_range3 hg hm h hs hs2) (by
  rintro σ H R0 ⟨F, sd, Qd, R, h, k⟩
  refine ⟨F, sd, _, R, h, fun vs H1 F1 ds sd1 R1 S1 rs q => ?_⟩
  obtain ⟨i, j, c, n, rfl, hc, hn, q⟩ := q
  cases rs with
  | cons r rs =>
    obtain ⟨y, z, rfl, r', r2⟩ := rpA2 rs
    cases r; cases r'; cases r2
    exact ⟨i, j, c, n, rfl, rgC_ok hc hn, k _ H1 F1 _ sd1 R1 S1 wk_rangeC q⟩)
end
end DL
namespace DL
open PySem PySem.Spec PyProof.Rows L2
def opLeS : PyData → PyData → Option PyData
  | .str i, .str j => some (.bool (!decide (j.cps.toList < i.cps.toList)))
  | _, _ => none
theorem rl_leS {K : PySem.W.Frag} : RL2 K (fun x y H Q => ∃ i j, x = V.str i ∧ y = V.str j ∧ Q (.bl (!decide (j.cps.toList < i.cps.toList))) H) opLeS := by
  intro F H x y a b z Q e _ rx ry h k
  unfold opLeS at h
  split at h
  · cases h
    cases rx
    cases ry
    exact ⟨_, _, rfl, rfl, k _ F H .id (.bl _)⟩
  · cases h
end DL
namespace DL
open PySem
/-- E: what the body may raise, and in which state -/
theorem try_run {body : WD → MS} {i : Nat} {cat : String → Bool} {suite : String → Addr → MS} {Wout : WD} {D : DE} {sd : DSt} (E : String → DSt → Prop)
    (hs : ∀ c s, E c s → cat c = true ∧ ∀ a, suite c a { nx := fun s => D.nx (sset s i .no), rt := D.rt, bk := fun s => D.bk (sset s i .no), ct := fun s => D.ct (sset s i .no) } (sset s i (.exc a)))
    (hb : ∀ Wd : WD, (∀ c s, E c s → Wd c s) → body Wd D sd) : mTry body i cat suite Wout D sd :=
  hb _ fun c s h => ⟨fun _ => (hs c s h).2, fun z => by rw [(hs c s h).1] at z; cases z⟩
end DL
namespace LW
open PySem PySem.Spec PyProof.Rows L2 DL
def topS (i : Nat) : Stmt := PySem.Challenge.pw_cushionshots_k31_texts_of_tables_and_sho.main.body.getD i (.Pass ⟨0, 0, 0, 0⟩)
abbrev s_is_whole : Stmt := topS 6
theorem sc_is_whole : FnScope ["value"] ["value"] (defScope s_is_whole) := ⟨rfl, rfl, rfl, by decide +kernel, rfl, by decide +kernel, by decide +kernel⟩
abbrev s_are_whole : Stmt := topS 7
theorem sc_are_whole : FnScope ["value", "many", "item"] ["value", "many"] (defScope s_are_whole) := ⟨rfl, rfl, rfl, by decide +kernel, rfl, by decide +kernel, by decide +kernel⟩
abbrev s_is_table : Stmt := topS 9
theorem sc_is_table : FnScope ["value"] ["value"] (defScope s_is_table) := ⟨rfl, rfl, rfl, by decide +kernel, rfl, by decide +kernel, by decide +kernel⟩
abbrev s_is_any_shot : Stmt := topS 10
theorem sc_is_any_shot : FnScope ["value"] ["value"] (defScope s_is_any_shot) := ⟨rfl, rfl, rfl, by decide +kernel, rfl, by decide +kernel, by decide +kernel⟩
abbrev s_check_table : Stmt := topS 11
theorem sc_check_table : FnScope ["table"] ["table"] (defScope s_check_table) := ⟨rfl, rfl, rfl, by decide +kernel, rfl, by decide +kernel, by decide +kernel⟩
abbrev s_written : Stmt := topS 17
theorem sc_written : FnScope ["number", "sign", "rest", "parts"] ["number"] (defScope s_written) := ⟨rfl, rfl, rfl, by decide +kernel, rfl, by decide +kernel, by decide +kernel⟩
abbrev s_format_table : Stmt := topS 13
theorem sc_format_table : FnScope ["table", "number"] ["table"] (defScope s_format_table) := ⟨rfl, rfl, rfl, by decide +kernel, rfl, by decide +kernel, by decide +kernel⟩
abbrev s_format_shot : Stmt := topS 14
theorem sc_format_shot : FnScope ["shot", "number"] ["shot"] (defScope s_format_shot) := ⟨rfl, rfl, rfl, by decide +kernel, rfl, by decide +kernel, by decide +kernel⟩
abbrev s__number : Stmt := topS 20
theorem sc__number : FnScope ["word", "digits", "first", "number", "at"] ["word"] (defScope s__number) := ⟨rfl, rfl, rfl, by decide +kernel, rfl, by decide +kernel, by decide +kernel⟩
abbrev s__numbers : Stmt := topS 19
theorem sc__numbers : FnScope ["words", "word"] ["words"] (defScope s__numbers) := ⟨rfl, rfl, rfl, by decide +kernel, rfl, by decide +kernel, by decide +kernel⟩
abbrev s__words : Stmt := topS 18
theorem sc__words : FnScope ["text", "sign"] ["text", "sign"] (defScope s__words) := ⟨rfl, rfl, rfl, by decide +kernel, rfl, by decide +kernel, by decide +kernel⟩
abbrev s_parse_table : Stmt := topS 15
theorem sc_parse_table : FnScope ["text", "table"] ["text"] (defScope s_parse_table) := ⟨rfl, rfl, rfl, by decide +kernel, rfl, by decide +kernel, by decide +kernel⟩
abbrev s_parse_shot : Stmt := topS 16
theorem sc_parse_shot : FnScope ["text", "shot"] ["text"] (defScope s_parse_shot) := ⟨rfl, rfl, rfl, by decide +kernel, rfl, by decide +kernel, by decide +kernel⟩
abbrev s__law_well : Stmt := topS 22
theorem sc__law_well : FnScope ["script", "at", "cell"] ["script", "at"] (defScope s__law_well) := ⟨rfl, rfl, rfl, by decide +kernel, rfl, by decide +kernel, by decide +kernel⟩
abbrev s__law_draw : Stmt := topS 23
theorem sc__law_draw : FnScope ["well", "most", "digit", "blend"] ["well", "most"] (defScope s__law_draw) := ⟨rfl, rfl, rfl, by decide +kernel, rfl, by decide +kernel, by decide +kernel⟩
abbrev s__law_same : Stmt := topS 24
theorem sc__law_same : FnScope ["found", "due", "k"] ["found", "due"] (defScope s__law_same) := ⟨rfl, rfl, rfl, by decide +kernel, rfl, by decide +kernel, by decide +kernel⟩
abbrev s__law_desk : Stmt := topS 25
theorem sc__law_desk : FnScope ["well", "most", "wide", "tall"] ["well", "most"] (defScope s__law_desk) := ⟨rfl, rfl, rfl, by decide +kernel, rfl, by decide +kernel, by decide +kernel⟩
abbrev s__law_roll : Stmt := topS 26
theorem sc__law_roll : FnScope ["well", "desk", "most", "x", "y", "p", "q"] ["well", "desk", "most"] (defScope s__law_roll) := ⟨rfl, rfl, rfl, by decide +kernel, rfl, by decide +kernel, by decide +kernel⟩
abbrev s__law_figure : Stmt := topS 27
theorem sc__law_figure : FnScope ["word", "digits", "sign"] ["word"] (defScope s__law_figure) := ⟨rfl, rfl, rfl, by decide +kernel, rfl, by decide +kernel, by decide +kernel⟩
abbrev s__law_read : Stmt := topS 28
theorem sc__law_read : FnScope ["line", "size", "found", "word"] ["line", "size"] (defScope s__law_read) := ⟨rfl, rfl, rfl, by decide +kernel, rfl, by decide +kernel, by decide +kernel⟩
abbrev s__law_told : Stmt := topS 29
theorem sc__law_told : FnScope ["way", "thing", "marks", "caught"] ["way", "thing"] (defScope s__law_told) := ⟨rfl, rfl, rfl, by decide +kernel, rfl, by decide +kernel, by decide +kernel⟩
abbrev s__law_longest : Stmt := topS 30
theorem sc__law_longest : FnScope ["line", "most", "here", "sign"] ["line"] (defScope s__law_longest) := ⟨rfl, rfl, rfl, by decide +kernel, rfl, by decide +kernel, by decide +kernel⟩
abbrev s__law_bent : Stmt := topS 31
theorem sc__law_bent : FnScope ["well", "line", "spot", "signs", "sign", "way"] ["well", "line"] (defScope s__law_bent) := ⟨rfl, rfl, rfl, by decide +kernel, rfl, by decide +kernel, by decide +kernel⟩
abbrev s__law_right : Stmt := topS 32
theorem sc__law_right : FnScope ["well", "value_here", "line", "size", "way", "named", "change", "due"] ["well", "value_here", "line", "size"] (defScope s__law_right) := ⟨rfl, rfl, rfl, by decide +kernel, rfl, by decide +kernel, by decide +kernel⟩
abbrev s__law_refused : Stmt := topS 33
theorem sc__law_refused : FnScope ["well", "desk", "shot_here", "odd"] ["well", "desk", "shot_here"] (defScope s__law_refused) := ⟨rfl, rfl, rfl, by decide +kernel, rfl, by decide +kernel, by decide +kernel⟩
abbrev s_law : Stmt := topS 34
theorem sc_law : FnScope ["script", "at", "well", "k", "desk", "shot_here", "x", "y", "p", "q", "line", "far"] ["script"] (defScope s_law) := ⟨rfl, rfl, rfl, by decide +kernel, rfl, by decide +kernel, by decide +kernel⟩
def anc : String → List String
  | "InvalidShot" => ["InvalidShot", "ShotError", "ValueError"]
  | "InvalidTable" => ["InvalidTable", "ShotError", "ValueError"]
  | "InvalidText" => ["InvalidText", "ShotError", "ValueError"]
  | _ => []
def isSub (c T : String) : Bool := (anc c).contains T
structure G (K : PySem.W.Frag) (mg : Str → Option Value) (CN : String → Option Addr) : Prop where
  b_ValueError : mg "ValueError" = none
  b_abs : mg "abs" = none
  b_all : mg "all" = none
  b_bool : mg "bool" = none
  b_int : mg "int" = none
  b_isinstance : mg "isinstance" = none
  b_len : mg "len" = none
  b_list : mg "list" = none
  b_max : mg "max" = none
  b_min : mg "min" = none
  b_range : mg "range" = none
  b_str : mg "str" = none
  b_tuple : mg "tuple" = none
  x_InvalidShot : ∃ c, CN "InvalidShot" = some c ∧ ExcCls K mg "InvalidShot" c
  x_InvalidTable : ∃ c, CN "InvalidTable" = some c ∧ ExcCls K mg "InvalidTable" c
  x_InvalidText : ∃ c, CN "InvalidText" = some c ∧ ExcCls K mg "InvalidText" c
  ec : ∀ c A, CN c = some A → ExcC K A
  kt_InvalidShot : ∃ C, mg "InvalidShot" = some (.ref C) ∧ ∀ c A, CN c = some A → PySem.W.kitOne K (.ref A) (.ref C) = some (isSub c "InvalidShot")
  kt_InvalidTable : ∃ C, mg "InvalidTable" = some (.ref C) ∧ ∀ c A, CN c = some A → PySem.W.kitOne K (.ref A) (.ref C) = some (isSub c "InvalidTable")
  kt_InvalidText : ∃ C, mg "InvalidText" = some (.ref C) ∧ ∀ c A, CN c = some A → PySem.W.kitOne K (.ref A) (.ref C) = some (isSub c "InvalidText")
  kb_ValueError : ∀ c A, CN c = some A → PySem.W.kitOne K (.ref A) (.type "ValueError") = some (isSub c "ValueError")
  h_ShotError : ∃ hc, mg "ShotError" = some hc ∧ ∀ c A, CN c = some A → PySem.W.exmOne K (.ref A) hc = some (isSub c "ShotError")
section
variable {P : Program} {w : World} {K : PySem.W.Frag} {mg : Str → Option Value} {base : Heap} {CN : String → Option Addr}
theorem ok_draw {f : Addr} {fd : FuncData} (F : Fun K "_law_draw" "_law_draw" s__law_draw f fd) (mi : mg "int" = none) : FnG P w K mg base 1 f fd ["well", "most"] (spW K dDraw) := by
  refine fun_okG F sc__law_draw (fun vs H Q E h => ?_) (fun cdv A outer s H vs Q E hr h => ⟨_, pss_cons (ps_if (pt_cmpR op_gt (pe_ix ix_list (pv 0) pe_int (fun _ _ => rfl)) pe_int (nomark _))
        (pss_cons (ps_set (i := 2) sc__law_draw.nd rfl (.inl rfl) (pe_op op_mod (pe_callTy cr_int (by rfl) mi (by decide +kernel) (pa_cons (pe_ix ix_list (pv 0) pe_int (fun _ _ => rfl)) pa_nil)) (pv 1)))
        (pss_cons (ps_asg (pe_op op_fdivW (pe_ix ix_list (pv 0) pe_int (fun _ _ => rfl)) (pv 1)) (pg_sub (pv 0) pe_int set_list))
        (pss_one (ps_ret (pv 2))))) pss_nil)
      (pss_cons (ps_asg (pe_op op_add (pe_ix ix_list (pv 0) pe_int (fun _ _ => rfl)) pe_int) (pg_sub (pv 0) pe_int set_list))
      (pss_cons (ps_set (i := 3) sc__law_draw.nd rfl (.inl rfl) (pe_op op_mod (pe_op op_powW (pe_callTy cr_int (by rfl) mi (by decide +kernel) (pa_cons (pe_op op_add (pe_ix ix_list (pv 0) pe_int (fun _ _ => rfl)) (pe_op op_mulW pe_int (pe_ix ix_list (pv 0) pe_int (fun _ _ => rfl)))) pa_nil)) pe_int) (pe_op op_add (pe_op op_powW pe_int pe_int) pe_int)))
      (pss_cons (ps_set (i := 3) sc__law_draw.nd rfl (.inl rfl) (pe_op op_mod (pe_op op_powW (pe_callTy cr_int (by rfl) mi (by decide +kernel) (pa_cons (pe_op op_add (pv 3) (pe_op op_mulW pe_int (pe_ix ix_list (pv 0) pe_int (fun _ _ => rfl)))) pa_nil)) pe_int) (pe_op op_add (pe_op op_powW pe_int pe_int) pe_int)))
      (pss_one (ps_ret (pe_op op_mod (pe_callTy cr_int (by rfl) mi (by decide +kernel) (pa_cons (pe_op op_fdivW (pv 3) pe_int) pa_nil)) (pv 1))))))), ?_⟩)
  · obtain ⟨F0, p, ws, n, a, b, c, ds, Qd, rfl, _, _, _, _, r, ⟨m, rfl, _⟩, _⟩ := h
    obtain ⟨x, rfl, _⟩ := rpA1 r
    rfl
  · obtain ⟨F0, p, ws, n, a, b, c, ds, Qd, rfl, e, hF, hp, hw, r, ⟨m, rfl, h1, h2, h3, h4⟩, hq⟩ := h
    obtain ⟨x, rfl, rx⟩ := rpA1 r
    cases rx
    have ne : ∀ q o, F0 q = some o → q ≠ p := fun q o z y => by subst y; rw [hF] at z; cases z
    have fin : ∀ (a' b' c' r : Int), WellOk (n - 1) a' b' c' → 0 ≤ r → r < m → ∀ H', (∀ q, q ≠ p → H' q = H q) → H' p = some (.lst [.int a', .int b', .int c']) → Q (.int r) H' := fun a' b' c' r ok r0 r1 H' hn hs =>
      hq (.int r) H' F0 (.va (.int r)) (n - 1) ⟨Same.refl _, fun q o z => (hn q (ne q o z)).trans (e q o z), fun q o z y => (hn q z).trans y, fun q o z => .inl z, a', b', c', hs, ok⟩ (.int r) (h4 r r0 r1)
    have hL : SqL K H p [.int a, .int b, .int c] := .inl (.inl hp)
    refine ⟨.ref p, rfl, p, _, 0, .int a, rfl, rfl, hL, rfl, a, 0, rfl, rfl, decide (0 < a), rfl, ?_⟩
    refine ite2 (fun ha => ?_) (fun ha => ?_)
    · have ha : 0 < a := of_decide_eq_true ha
      refine ⟨.ref p, rfl, p, _, 0, .int a, rfl, rfl, hL, rfl, a, rfl, .int m, rfl, a, m, rfl, rfl, by show (0 : Int) < m; omega, ?_⟩
      refine ⟨.ref p, rfl, p, _, 0, .int a, rfl, rfl, hL, rfl, .int m, rfl, a, m, rfl, rfl, ⟨by show (0 : Int) < m; omega, h3⟩, ?_⟩
      refine ⟨.ref p, rfl, p, _, 0, 0, rfl, rfl, hp, rfl, ?_⟩
      refine ⟨.int (a % m), rfl, ?_⟩
      refine fin (a / m) b c (a % m) ?_ (Int.emod_nonneg _ (by omega)) (Int.emod_lt_of_pos _ (by omega)) _ (fun q hq => upd_ne hq) upd_same
      refine ⟨Int.ediv_nonneg hw.a0 (by omega), ?_, hw.b0, hw.b1, hw.c0, by have := hw.c1; omega⟩
      refine Nat.lt_of_le_of_lt ?_ hw.a1
      have h5 : a / m ≤ a := Int.ediv_le_self m hw.a0
      have h6 : 0 ≤ a / m := Int.ediv_nonneg hw.a0 (by omega)
      omega
    · refine ⟨.ref p, rfl, p, _, 2, .int c, rfl, rfl, hL, rfl, c, 1, rfl, rfl, ?_⟩
      refine ⟨.ref p, rfl, p, _, 2, 2, rfl, rfl, hp, rfl, ?_⟩
      have hL2 : SqL K (upd H p (.lst [.int a, .int b, .int (c + 1)])) p [.int a, .int b, .int (c + 1)] := .inl (.inl upd_same)
      have c0 := hw.c0
      have c1 := hw.c1
      have b0 := hw.b0
      have b1 := hw.b1
      have big : ∀ z : Int, 0 ≤ z → z < 2 ^ 200 → z.natAbs < 2 ^ 10000 := fun z z0 z1 => by
        have : z.natAbs < 2 ^ 200 := by omega
        exact Nat.lt_of_lt_of_le this (Nat.pow_le_pow_right (by decide) (by decide))
      have lg : ∀ z : Int, 0 ≤ z → z < 2 ^ 200 → z.natAbs.log2 < 400 := fun z z0 z1 => by
        by_cases hz : z.natAbs = 0
        · rw [hz]; decide
        · refine (Nat.log2_lt hz).mpr ?_
          have : z.natAbs < 2 ^ 200 := by omega
          exact Nat.lt_of_lt_of_le this (Nat.pow_le_pow_right (by decide) (by decide))
      refine ⟨.ref p, rfl, p, _, 1, .int b, rfl, rfl, hL2, rfl, .ref p, rfl, p, _, 2, .int (c + 1), rfl, rfl, hL2, rfl, _, _, rfl, rfl, ?_, _, _, rfl, rfl, _, rfl, _, _, rfl, rfl, ⟨by decide, by decide, ?_⟩, _, _, rfl, rfl, ⟨by decide, by decide, big 10 (by decide) (by decide)⟩, _, _, rfl, rfl, _, _, rfl, rfl, ?_, ?_⟩
      · show (961748941 : Int).natAbs.log2 + (c + 1).natAbs.log2 < 1000000
        have q1 : (961748941 : Int).natAbs.log2 = 29 := by decide +kernel
        have q2 := lg (c + 1) (by omega) (by omega)
        rw [q1]; omega
      · exact big _ (by omega) (by omega)
      · show (0 : Int) < 10 ^ Int.toNat 41 + 109
        decide +kernel
      · have y0 : 0 ≤ (b + 961748941 * (c + 1)) ^ Int.toNat 3 % (10 ^ Int.toNat 41 + 109) := Int.emod_nonneg _ (by decide +kernel)
        have y1 : (b + 961748941 * (c + 1)) ^ Int.toNat 3 % (10 ^ Int.toNat 41 + 109) < 2 ^ 150 := Int.lt_trans (Int.emod_lt_of_pos _ (by decide +kernel)) (by decide +kernel)
        show gName 3 (.int ((b + 961748941 * (c + 1)) ^ Int.toNat 3 % (10 ^ Int.toNat 41 + 109))) _ _ _
        generalize (b + 961748941 * (c + 1)) ^ Int.toNat 3 % (10 ^ Int.toNat 41 + 109) = y at y0 y1 ⊢
        refine ⟨.int y, rfl, .ref p, rfl, p, _, 2, .int (c + 1), rfl, rfl, hL2, rfl, _, _, rfl, rfl, ?_, _, _, rfl, rfl, _, rfl, _, _, rfl, rfl, ⟨by decide, by decide, ?_⟩, _, _, rfl, rfl, ⟨by decide, by decide, ?_⟩, _, _, rfl, rfl, _, _, rfl, rfl, ?_, ?_⟩
        · show (217645199 : Int).natAbs.log2 + (c + 1).natAbs.log2 < 1000000
          have q1 : (217645199 : Int).natAbs.log2 = 27 := by decide +kernel
          have q2 := lg (c + 1) (by omega) (by omega)
          rw [q1]; omega
        · exact big _ (by omega) (by omega)
        · show (10 : Int).natAbs < 2 ^ 10000
          exact big 10 (by decide) (by decide)
        · show (0 : Int) < 10 ^ Int.toNat 39 + 3
          decide +kernel
        · show gName 3 (.int ((y + 217645199 * (c + 1)) ^ Int.toNat 3 % (10 ^ Int.toNat 39 + 3))) _ _ _
          generalize (y + 217645199 * (c + 1)) ^ Int.toNat 3 % (10 ^ Int.toNat 39 + 3) = z
          refine ⟨.int z, rfl, _, _, rfl, rfl, ⟨by decide, by decide +kernel⟩, _, rfl, .int m, rfl, _, _, rfl, rfl, by show (0 : Int) < m; omega, ?_⟩
          exact fin a b (c + 1) _ ⟨hw.a0, hw.a1, b0, b1, by omega, by omega⟩ (Int.emod_nonneg _ (by omega)) (Int.emod_lt_of_pos _ (by omega)) _ (fun q hq => upd_ne hq) upd_same
theorem ok_well {f : Addr} {fd : FuncData} (F : Fun K "_law_well" "_law_well" s__law_well f fd) (mi : mg "int" = none) (ml : mg "len" = none) (mm : mg "max" = none) (ma : mg "abs" = none) : FnG P w K mg base 1 f fd ["script", "at"] (spWell K) := by
  refine fun_okG F sc__law_well (fun vs H Q E h => ?_) (fun cdv A outer s H vs Q E hr h => ⟨_, pss_cons (ps_set (i := 2) sc__law_well.nd rfl (.inl rfl) (pe_ifExp (pt_cmpR op_lt (pv 1) (pe_callB call_len_seq (by rfl) ml (by decide +kernel) (pa_cons (pv 0) pa_nil)) (nomark _)) (pe_ix ix_list (pv 0) (pv 1) (fun _ _ => rfl)) pe_int))
      (pss_one (ps_ret (pe_lst (pa_cons (pe_callB (call_max2 rfl) (by rfl) mm (by decide +kernel) (pa_cons pe_int (pa_cons (pe_op op_sub (pe_callB call_abs (by rfl) ma (by decide +kernel) (pa_cons (pv 2) pa_nil)) (pe_op op_powW pe_int pe_int)) pa_nil)))
        (pa_cons (pe_op op_add (pe_op op_add (pe_op op_mulW (pe_op op_mod (pe_callTy cr_int (by rfl) mi (by decide +kernel) (pa_cons (pv 2) pa_nil)) (pe_op op_add (pe_op op_powW pe_int pe_int) pe_int)) pe_int) (pe_op op_mulW pe_int (pv 1))) pe_int) (pa_cons pe_int pa_nil)))))), ?_⟩)
  · obtain ⟨a, ns, k, rfl, _⟩ := h
    rfl
  · obtain ⟨a, ns, k, rfl, hS, hl, hb, k0, k1, q⟩ := h
    have lg : ∀ z : Int, 0 ≤ z → z < 2 ^ 200 → z.natAbs.log2 < 400 := fun z z0 z1 => by
      by_cases hz : z.natAbs = 0
      · rw [hz]; decide
      · refine (Nat.log2_lt hz).mpr ?_
        have : z.natAbs < 2 ^ 200 := by omega
        exact Nat.lt_of_lt_of_le this (Nat.pow_le_pow_right (by decide) (by decide))
    have wide : ∀ {z : Int}, Builtin.Int.intBits z ≤ 1048576 → z.natAbs < 2 ^ 1100000 := fun {z} hz => by
      unfold Builtin.Int.intBits at hz
      by_cases h0 : z.natAbs = 0
      · rw [h0]; exact Nat.pow_pos (by decide)
      · have h00 : (z == 0) = false := by
          have : z ≠ 0 := by omega
          simpa using this
        rw [h00] at hz
        have h1 : z.natAbs.log2 + 1 ≤ 1048576 := hz
        have := (Nat.log2_lt h0 (k := 1048576)).mp (by omega)
        exact Nat.lt_of_lt_of_le this (Nat.pow_le_pow_right (by decide) (by decide))
    have big10 : (10 : Int).natAbs < 2 ^ 10000 := Nat.lt_of_lt_of_le (show (10 : Int).natAbs < 2 ^ 200 by decide +kernel) (Nat.pow_le_pow_right (by decide) (by decide))
    refine ⟨.int k, rfl, .ref a, rfl, a, _, rfl, .inl hS, k, (ns.length : Int), rfl, by simp, decide (k < ns.length), rfl, ?_⟩
    refine ite2 (fun hk => ?_) (fun hk => ?_)
    · have hk : k < ns.length := of_decide_eq_true hk
      have hb2 := hb (ns[k.toNat]'(by omega)) (List.getElem_mem _)
      have hg : (ns.map V.int)[k.toNat]? = some (.int (ns[k.toNat]'(by omega))) := by
        rw [List.getElem?_map, List.getElem?_eq_getElem (by omega)]
        rfl
      generalize ns[k.toNat]'(by omega) = z at hb2 hg
      have hz := hb2
      refine ⟨.ref a, rfl, .int k, rfl, a, _, k, .int z, rfl, rfl, hS, ?_, ?_⟩
      · have e := atI_nat hg
        rwa [Int.toNat_of_nonneg k0] at e
      refine ⟨.int z, rfl, z, rfl, _, _, rfl, rfl, ⟨by decide, by decide, big10⟩, _, _, rfl, rfl, _, _, rfl, ?_⟩
      refine ⟨.int z, rfl, z, rfl, _, _, rfl, rfl, ⟨by decide, by decide, big10⟩, _, _, rfl, rfl, _, _, rfl, rfl, by show (0 : Int) < 10 ^ Int.toNat 37 + 151; decide +kernel, _, _, rfl, rfl, ?_, .int k, rfl, _, _, rfl, rfl, ?_, _, _, rfl, rfl, _, _, rfl, rfl, by show 3 ≤ sizeLine; decide, fun p hp => ?_⟩
      · show (z % (10 ^ Int.toNat 37 + 151)).natAbs.log2 + (103 : Int).natAbs.log2 < 1000000
        have q1 : (103 : Int).natAbs.log2 = 6 := by decide +kernel
        have q2 := lg (z % (10 ^ Int.toNat 37 + 151)) (Int.emod_nonneg _ (by decide +kernel)) (Int.lt_trans (Int.emod_lt_of_pos _ (by decide +kernel)) (by decide +kernel))
        rw [q1]; omega
      · show (71 : Int).natAbs.log2 + k.natAbs.log2 < 1000000
        have q1 : (71 : Int).natAbs.log2 = 6 := by decide +kernel
        have q2 := lg k k0 (by omega)
        rw [q1]; omega
      · refine q _ p _ _ _ (fun b o e => (upd_ne (ne_of_none e hp)).trans e) hp upd_same ?_
        have m0 : 0 ≤ z % (10 ^ Int.toNat 37 + 151) := Int.emod_nonneg _ (by decide +kernel)
        have m1 : z % (10 ^ Int.toNat 37 + 151) < 2 ^ 130 := Int.lt_trans (Int.emod_lt_of_pos _ (by decide +kernel)) (by decide +kernel)
        have e18 : (10 : Int) ^ Int.toNat 18 = 1000000000000000000 := by decide +kernel
        refine ⟨?_, ?_, ?_, ?_, by decide, by decide⟩
        · split <;> omega
        · refine Nat.lt_of_le_of_lt ?_ (wide hz)
          rw [e18]
          split <;> split at * <;> omega
        · omega
        · omega
    · have hz : Builtin.Int.intBits 0 ≤ 1048576 := by decide
      show gName 2 (.int 0) _ _ _
      refine ⟨.int 0, rfl, (0 : Int), rfl, _, _, rfl, rfl, ⟨by decide, by decide, big10⟩, _, _, rfl, rfl, _, _, rfl, ?_⟩
      refine ⟨.int 0, rfl, (0 : Int), rfl, _, _, rfl, rfl, ⟨by decide, by decide, big10⟩, _, _, rfl, rfl, _, _, rfl, rfl, by show (0 : Int) < 10 ^ Int.toNat 37 + 151; decide +kernel, _, _, rfl, rfl, ?_, .int k, rfl, _, _, rfl, rfl, ?_, _, _, rfl, rfl, _, _, rfl, rfl, by show 3 ≤ sizeLine; decide, fun p hp => ?_⟩
      · show ((0 : Int) % (10 ^ Int.toNat 37 + 151)).natAbs.log2 + (103 : Int).natAbs.log2 < 1000000
        have q1 : (103 : Int).natAbs.log2 = 6 := by decide +kernel
        have q2 := lg ((0 : Int) % (10 ^ Int.toNat 37 + 151)) (Int.emod_nonneg _ (by decide +kernel)) (Int.lt_trans (Int.emod_lt_of_pos _ (by decide +kernel)) (by decide +kernel))
        rw [q1]; omega
      · show (71 : Int).natAbs.log2 + k.natAbs.log2 < 1000000
        have q1 : (71 : Int).natAbs.log2 = 6 := by decide +kernel
        have q2 := lg k k0 (by omega)
        rw [q1]; omega
      · refine q _ p _ _ _ (fun b o e => (upd_ne (ne_of_none e hp)).trans e) hp upd_same ?_
        have m0 : 0 ≤ (0 : Int) % (10 ^ Int.toNat 37 + 151) := Int.emod_nonneg _ (by decide +kernel)
        have m1 : (0 : Int) % (10 ^ Int.toNat 37 + 151) < 2 ^ 130 := Int.lt_trans (Int.emod_lt_of_pos _ (by decide +kernel)) (by decide +kernel)
        have e18 : (10 : Int) ^ Int.toNat 18 = 1000000000000000000 := by decide +kernel
        refine ⟨?_, ?_, ?_, ?_, by decide, by decide⟩
        · split <;> omega
        · refine Nat.lt_of_le_of_lt ?_ (wide hz)
          rw [e18]
          split <;> split at * <;> omega
        · omega
        · omega
end
def fracD (t b : Int) : PyData := .tuple [.int (t / (Nat.gcd t.natAbs b.natAbs : Nat)), .int (b / (Nat.gcd t.natAbs b.natAbs : Nat))]
theorem gcd_pos {t b : Int} (h : 1 ≤ b) : (0 : Int) < (Nat.gcd t.natAbs b.natAbs : Nat) := by
  have := Nat.gcd_pos_of_pos_right t.natAbs (show 0 < b.natAbs by omega)
  omega
theorem sz_gcd {t b : Int} {k : Nat} (h : 1 ≤ b) (hb : sz k b) : sz k (Nat.gcd t.natAbs b.natAbs : Nat) := by
  refine sz_le hb ?_
  rw [Int.natAbs_natCast]
  exact Nat.gcd_le_right _ (by omega)
theorem div_gcd_pos {t b : Int} (h : 1 ≤ b) : 1 ≤ b / (Nat.gcd t.natAbs b.natAbs : Nat) := by
  have g0 := gcd_pos (t := t) h
  have hd : ((Nat.gcd t.natAbs b.natAbs : Nat) : Int) ∣ b := by
    have := Nat.gcd_dvd_right t.natAbs b.natAbs
    exact Int.ofNat_dvd_left.mpr this
  have := Int.ediv_pos_of_pos_of_dvd (show 0 < b by omega) (by omega) hd
  omega
def lineA (v a : Int) : Int := if v < 0 then -a else a
def lineV (v : Int) : Int := if v < 0 then -v else v
theorem int_repr {i : Int} (h : sz 200 i) : i.natAbs.log2 < 1920 ∧ (PyData.shown (.int i)).length ≤ 70 ∧ PyData.weight (.int i) ≤ 210 := by
  have lg := sz_log h
  refine ⟨by omega, ?_, ?_⟩
  · have e := int_text_length_le10 (a := i) (k := 69) (by decide) (Nat.lt_trans h (by decide))
    show (Str.ofString (toString i)).length ≤ 70
    rw [PySem.ofString_length]
    exact e
  · simp only [PyData.weight]
    split <;> omega
theorem repr_two {a b x y p q : Int} (za : sz 200 a) (zb : sz 200 b) (zx : sz 200 x) (zy : sz 200 y) (zp : sz 200 p) (zq : sz 200 q) : reprOk (.list [.tuple [.int a, .int b], .tuple [.int x, .int y, .int p, .int q]]) = true := by
  obtain ⟨a1, a2, a3⟩ := int_repr za
  obtain ⟨b1, b2, b3⟩ := int_repr zb
  obtain ⟨x1, x2, x3⟩ := int_repr zx
  obtain ⟨y1, y2, y3⟩ := int_repr zy
  obtain ⟨p1, p2, p3⟩ := int_repr zp
  obtain ⟨q1, q2, q3⟩ := int_repr zq
  have hl : (PyData.list [.tuple [.int a, .int b], .tuple [.int x, .int y, .int p, .int q]]).leavesShort 70 = true := by
    simp only [PyData.leavesShort, PyData.leavesShortAll, decide_eq_true a2, decide_eq_true b2, decide_eq_true x2, decide_eq_true y2, decide_eq_true p2, decide_eq_true q2, Bool.and_true]
  have hw : (PyData.list [.tuple [.int a, .int b], .tuple [.int x, .int y, .int p, .int q]]).weight ≤ 2000 := by
    have e : ∀ z : Int, PyData.weight (.int z) = PyData.weight (.int z) := fun _ => rfl
    generalize ha : PyData.weight (.int a) = wa at *
    generalize hb : PyData.weight (.int b) = wb at *
    generalize hx : PyData.weight (.int x) = wx at *
    generalize hy : PyData.weight (.int y) = wy at *
    generalize hp : PyData.weight (.int p) = wp at *
    generalize hq : PyData.weight (.int q) = wq at *
    have w : (PyData.list [.tuple [.int a, .int b], .tuple [.int x, .int y, .int p, .int q]]).weight = PyData.weightAll [.int a, .int b] + 1 + (PyData.weightAll [.int x, .int y, .int p, .int q] + 1 + 0) := by rw [PyData.weight, PyData.weightAll, PyData.weightAll, PyData.weightAll, PyData.weight, PyData.weight]
    rw [w]
    simp only [PyData.weightAll, ha, hb, hx, hy, hp, hq]
    omega
  have h := PyData.shown_le 70 (by decide) _ hl
  have hs : (PyData.list [.tuple [.int a, .int b], .tuple [.int x, .int y, .int p, .int q]]).shown.length ≤ 1000000 := by omega
  have hd : (PyData.list [.tuple [.int a, .int b], .tuple [.int x, .int y, .int p, .int q]]).depth ≤ 64 := by simp [PyData.depth, PyData.depthAll]
  have hsh : (PyData.list [.tuple [.int a, .int b], .tuple [.int x, .int y, .int p, .int q]]).showable = true := by
    simp only [PyData.showable, PyData.showableAll, decide_eq_true a1, decide_eq_true b1, decide_eq_true x1, decide_eq_true y1, decide_eq_true p1, decide_eq_true q1, Bool.and_true]
  unfold reprOk
  rw [decide_eq_true hs, decide_eq_true hd, hsh]
  rfl
theorem repr_three {a b x y p q u v r s : Int} (za : sz 200 a) (zb : sz 200 b) (zx : sz 200 x) (zy : sz 200 y) (zp : sz 200 p) (zq : sz 200 q) (zu : sz 200 u) (zv : sz 200 v) (zr : sz 200 r) (zs : sz 200 s) : reprOk (.list [.tuple [.int a, .int b], .tuple [.int x, .int y, .int p, .int q], .tuple [.int u, .int v, .int r, .int s]]) = true := by
  obtain ⟨a1, a2, a3⟩ := int_repr za
  obtain ⟨b1, b2, b3⟩ := int_repr zb
  obtain ⟨x1, x2, x3⟩ := int_repr zx
  obtain ⟨y1, y2, y3⟩ := int_repr zy
  obtain ⟨p1, p2, p3⟩ := int_repr zp
  obtain ⟨q1, q2, q3⟩ := int_repr zq
  obtain ⟨u1, u2, u3⟩ := int_repr zu
  obtain ⟨v1, v2, v3⟩ := int_repr zv
  obtain ⟨r1, r2, r3⟩ := int_repr zr
  obtain ⟨s1, s2, s3⟩ := int_repr zs
  have hl : (PyData.list [.tuple [.int a, .int b], .tuple [.int x, .int y, .int p, .int q], .tuple [.int u, .int v, .int r, .int s]]).leavesShort 70 = true := by
    simp only [PyData.leavesShort, PyData.leavesShortAll, decide_eq_true a2, decide_eq_true b2, decide_eq_true x2, decide_eq_true y2, decide_eq_true p2, decide_eq_true q2, decide_eq_true u2, decide_eq_true v2, decide_eq_true r2, decide_eq_true s2, Bool.and_true]
  have hw : (PyData.list [.tuple [.int a, .int b], .tuple [.int x, .int y, .int p, .int q], .tuple [.int u, .int v, .int r, .int s]]).weight ≤ 3000 := by
    have e : ∀ z : Int, PyData.weight (.int z) = PyData.weight (.int z) := fun _ => rfl
    generalize ha : PyData.weight (.int a) = wa at *
    generalize hb : PyData.weight (.int b) = wb at *
    generalize hx : PyData.weight (.int x) = wx at *
    generalize hy : PyData.weight (.int y) = wy at *
    generalize hp : PyData.weight (.int p) = wp at *
    generalize hq : PyData.weight (.int q) = wq at *
    generalize hu : PyData.weight (.int u) = wu at *
    generalize hv : PyData.weight (.int v) = wv at *
    generalize hr : PyData.weight (.int r) = wr at *
    generalize hs : PyData.weight (.int s) = ws at *
    have w : (PyData.list [.tuple [.int a, .int b], .tuple [.int x, .int y, .int p, .int q], .tuple [.int u, .int v, .int r, .int s]]).weight = PyData.weightAll [.int a, .int b] + 1 + (PyData.weightAll [.int x, .int y, .int p, .int q] + 1 + (PyData.weightAll [.int u, .int v, .int r, .int s] + 1 + 0)) := by rw [PyData.weight, PyData.weightAll, PyData.weightAll, PyData.weightAll, PyData.weightAll, PyData.weight, PyData.weight, PyData.weight]
    rw [w]
    simp only [PyData.weightAll, ha, hb, hx, hy, hp, hq, hu, hv, hr, hs]
    omega
  have h := PyData.shown_le 70 (by decide) _ hl
  have hs' : (PyData.list [.tuple [.int a, .int b], .tuple [.int x, .int y, .int p, .int q], .tuple [.int u, .int v, .int r, .int s]]).shown.length ≤ 1000000 := by omega
  have hd : (PyData.list [.tuple [.int a, .int b], .tuple [.int x, .int y, .int p, .int q], .tuple [.int u, .int v, .int r, .int s]]).depth ≤ 64 := by simp [PyData.depth, PyData.depthAll]
  have hsh : (PyData.list [.tuple [.int a, .int b], .tuple [.int x, .int y, .int p, .int q], .tuple [.int u, .int v, .int r, .int s]]).showable = true := by
    simp only [PyData.showable, PyData.showableAll, decide_eq_true a1, decide_eq_true b1, decide_eq_true x1, decide_eq_true y1, decide_eq_true p1, decide_eq_true q1, decide_eq_true u1, decide_eq_true v1, decide_eq_true r1, decide_eq_true s1, Bool.and_true]
  unfold reprOk
  rw [decide_eq_true hs', decide_eq_true hd, hsh]
  rfl
theorem gcd_dvd_l (t m : Int) : ((Nat.gcd t.natAbs m.natAbs : Nat) : Int) ∣ t := Int.ofNat_dvd_left.mpr (Nat.gcd_dvd_left _ _)
theorem gcd_dvd_r (t m : Int) : ((Nat.gcd t.natAbs m.natAbs : Nat) : Int) ∣ m := Int.ofNat_dvd_left.mpr (Nat.gcd_dvd_right _ _)
theorem fracD_inj {t1 t2 b : Int} (hb : 1 ≤ b) (h : fracD t1 b = fracD t2 b) : t1 = t2 := by
  unfold fracD at h
  simp only [PyData.tuple.injEq, List.cons.injEq, PyData.int.injEq, and_true] at h
  obtain ⟨h1, h2⟩ := h
  have g1 := gcd_pos (t := t1) hb
  have g2 := gcd_pos (t := t2) hb
  have a1 := Int.ediv_mul_cancel (gcd_dvd_l t1 b)
  have a2 := Int.ediv_mul_cancel (gcd_dvd_r t1 b)
  have b1 := Int.ediv_mul_cancel (gcd_dvd_l t2 b)
  have b2 := Int.ediv_mul_cancel (gcd_dvd_r t2 b)
  generalize ((Nat.gcd t1.natAbs b.natAbs : Nat) : Int) = u at *
  generalize ((Nat.gcd t2.natAbs b.natAbs : Nat) : Int) = v at *
  have hd : 0 < b / u := by
    by_cases c : 0 < b / u
    · exact c
    · have : b / u * u ≤ 0 * u := Int.mul_le_mul_of_nonneg_right (by omega) (by omega)
      omega
  have e : u = v := by
    rw [← h2] at b2
    have : b / u * u = b / u * v := by omega
    exact Int.eq_of_mul_eq_mul_left (by omega) this
  rw [← a1, ← b1, h1, e]
theorem low_facts {t m : Int} (hm : 1 ≤ m) : (t / (Nat.gcd t.natAbs m.natAbs : Nat)) * m = t * (m / (Nat.gcd t.natAbs m.natAbs : Nat)) ∧ 1 ≤ m / (Nat.gcd t.natAbs m.natAbs : Nat) ∧ Nat.gcd (t / (Nat.gcd t.natAbs m.natAbs : Nat)).natAbs (m / (Nat.gcd t.natAbs m.natAbs : Nat)).natAbs = 1 := by
  have g0 := gcd_pos (t := t) hm
  have e1 := Int.ediv_mul_cancel (gcd_dvd_l t m)
  have e2 := Int.ediv_mul_cancel (gcd_dvd_r t m)
  refine ⟨?_, div_gcd_pos hm, ?_⟩
  · generalize t / (Nat.gcd t.natAbs m.natAbs : Nat) = T at *
    generalize m / (Nat.gcd t.natAbs m.natAbs : Nat) = B at *
    generalize ((Nat.gcd t.natAbs m.natAbs : Nat) : Int) = g at *
    rw [← e1, ← e2]
    simp only [Int.mul_assoc, Int.mul_comm, Int.mul_left_comm]
  · have n1 : (t / (Nat.gcd t.natAbs m.natAbs : Nat)).natAbs = t.natAbs / Nat.gcd t.natAbs m.natAbs := by
      rw [Int.natAbs_ediv_of_dvd (gcd_dvd_l t m), Int.natAbs_natCast]
    have n2 : (m / (Nat.gcd t.natAbs m.natAbs : Nat)).natAbs = m.natAbs / Nat.gcd t.natAbs m.natAbs := by
      rw [Int.natAbs_ediv_of_dvd (gcd_dvd_r t m), Int.natAbs_natCast]
    rw [n1, n2]
    exact Nat.gcd_div_gcd_div_gcd_of_pos_right (show 0 < m.natAbs by omega)
theorem low_unique {X B r b : Int} (hB : 1 ≤ B) (hb : 1 ≤ b) (hc : Nat.gcd r.natAbs b.natAbs = 1) (e : r * B = X * b) : fracD X B = .tuple [.int r, .int b] := by
  have hd : b.natAbs ∣ B.natAbs := by
    have h1 : b.natAbs ∣ r.natAbs * B.natAbs := by
      rw [← Int.natAbs_mul, e, Int.natAbs_mul]
      exact Nat.dvd_mul_left _ _
    refine Nat.Coprime.dvd_of_dvd_mul_left (k := b.natAbs) (m := r.natAbs) (n := B.natAbs) ?_ h1
    rw [Nat.Coprime, Nat.gcd_comm]
    exact hc
  obtain ⟨c, hcB⟩ := Int.natAbs_dvd_natAbs.mp hd
  have hc0 : 0 < c := by
    by_cases h : 0 < c
    · exact h
    · have : b * c ≤ b * 0 := Int.mul_le_mul_of_nonneg_left (by omega) (by omega)
      omega
  have eX : X = r * c := by
    rw [hcB] at e
    have e2 : (r * c) * b = X * b := by rw [← e]; simp only [Int.mul_assoc, Int.mul_comm, Int.mul_left_comm]
    exact (Int.eq_of_mul_eq_mul_right (by omega) e2).symm
  have hg : Nat.gcd X.natAbs B.natAbs = c.natAbs := by
    rw [eX, hcB, Int.natAbs_mul, Int.natAbs_mul, Nat.gcd_mul_right, hc, Nat.one_mul]
  have ec : ((c.natAbs : Nat) : Int) = c := by omega
  unfold fracD
  rw [hg, ec, eX, hcB, Int.mul_ediv_cancel _ (by omega), Int.mul_ediv_cancel _ (by omega)]
def foldI (s t b : Int) : Int := if t % (2 * s * b) ≤ s * b then t % (2 * s * b) else 2 * s * b - t % (2 * s * b)
theorem pos_of_mul {c x : Int} (hc : 0 < c) (h : 0 < c * x) : 0 < x := by
  by_cases k : 0 < x
  · exact k
  · have : c * x ≤ c * 0 := Int.mul_le_mul_of_nonneg_left (by omega) (by omega)
    omega
theorem nonneg_of_mul {c x : Int} (hc : 0 < c) (h : 0 ≤ c * x) : 0 ≤ x := by
  by_cases k : 0 ≤ x
  · exact k
  · have : c * x ≤ c * (-1) := Int.mul_le_mul_of_nonneg_left (by omega) (by omega)
    omega
theorem fracD_ratio {t1 b1 t2 b2 : Int} (h1 : 1 ≤ b1) (h2 : 1 ≤ b2) (e : t1 * b2 = t2 * b1) : fracD t1 b1 = fracD t2 b2 := by
  obtain ⟨e2, p2, c2⟩ := low_facts (t := t2) h2
  have q : fracD t2 b2 = .tuple [.int (t2 / (Nat.gcd t2.natAbs b2.natAbs : Nat)), .int (b2 / (Nat.gcd t2.natAbs b2.natAbs : Nat))] := rfl
  rw [q]
  refine low_unique h1 p2 c2 ?_
  refine Int.eq_of_mul_eq_mul_right (show b2 ≠ 0 by omega) ?_
  generalize t2 / (Nat.gcd t2.natAbs b2.natAbs : Nat) = r at *
  generalize b2 / (Nat.gcd t2.natAbs b2.natAbs : Nat) = d at *
  grind
def lowP (t b : Int) : Int × Int := (t / (Nat.gcd t.natAbs b.natAbs : Nat), b / (Nat.gcd t.natAbs b.natAbs : Nat))
theorem lowP_of {t b n m : Int} (h : fracD t b = .tuple [.int n, .int m]) : lowP t b = (n, m) := by
  unfold fracD at h
  simp only [PyData.tuple.injEq, List.cons.injEq, PyData.int.injEq, and_true] at h
  unfold lowP
  rw [h.1, h.2]
theorem opEq_tt {a b c e : Int} : opEq (.tuple [.int a, .int b]) (.tuple [.int c, .int e]) = some (.bool (decide (a = c) && decide (b = e))) := by
  unfold opEq SeqAt.shaped
  simp [PyData.canLay0, PyData.canLayAll0, PyData.depth, PyData.depthAll, PyData.eqv, PyData.eqvAll]
  by_cases h : a = c <;> by_cases h2 : b = e <;> simp [h, h2]
theorem opEq_nt {c e : Int} : opEq .none (.tuple [.int c, .int e]) = some (.bool false) := by
  unfold opEq SeqAt.shaped
  simp [PyData.canLay0, PyData.canLayAll0, PyData.depth, PyData.depthAll, PyData.eqv, PyData.eqvAll]
theorem fracD_one (x : Int) : fracD x 1 = .tuple [.int x, .int 1] := by
  unfold fracD
  have : Nat.gcd x.natAbs (1 : Int).natAbs = 1 := Nat.gcd_one_right _
  rw [this]
  simp
theorem opAdd_s {x y : Str} (h : x.length + y.length ≤ 100000) : opAdd (.str x) (.str y) = some (.str (x ++ y)) := if_pos h
theorem lowP_D (t b : Int) : fracD t b = .tuple [.int (lowP t b).1, .int (lowP t b).2] := rfl
theorem sz_lowP {t b : Int} {k l : Nat} (hb : 1 ≤ b) (zt : sz k t) (zb : sz l b) : sz k (lowP t b).1 ∧ sz l (lowP t b).2 := ⟨sz_div zt (gcd_pos hb), sz_div zb (gcd_pos hb)⟩
def absI (i : Int) : Int := if i < 0 then -i else i
theorem absI_pos {p : Int} (h : p ≠ 0) : 1 ≤ absI p := by unfold absI; split <;> omega
theorem sz_absI {k : Nat} {p : Int} (h : sz k p) : sz k (absI p) := by
  unfold absI
  split
  · exact sz_neg h
  · exact h
def passed (a v f st t u : Int) : Int := if a + v * t / u < f then 0 else (a + v * t / u - f) / st + 1
structure Mk where
  s : Int
  a : Int
  v : Int
  f : Int
  st : Int
def Mk.d (m : Mk) : PyData := .tuple [.tuple [.int m.s, .int m.a, .int m.v], .int m.f, .int m.st]
def Mk.pa (m : Mk) (t u : Int) : Int := passed m.a m.v m.f m.st t u
def Mk.ok (m : Mk) : Prop := 1 ≤ m.st ∧ sz 8000 m.v ∧ sz 8000 m.st
theorem lowP_ratio {t1 b1 t2 b2 : Int} (h1 : 1 ≤ b1) (h2 : 1 ≤ b2) (e : t1 * b2 = t2 * b1) : lowP t1 b1 = lowP t2 b2 := by
  have h := fracD_ratio h1 h2 e
  have h' : fracD t1 b1 = .tuple [.int (lowP t2 b2).1, .int (lowP t2 b2).2] := h
  exact (lowP_of h').trans rfl
theorem lowP_facts {t b : Int} (h : 1 ≤ b) : (lowP t b).1 * b = t * (lowP t b).2 ∧ 1 ≤ (lowP t b).2 ∧ Nat.gcd (lowP t b).1.natAbs (lowP t b).2.natAbs = 1 := low_facts h
theorem str_nil (x : Str) : x ++ ("" : Str) = x := by
  obtain ⟨⟨l⟩⟩ := x
  have e : (Str.ofString "").cps = #[] := by decide +kernel
  show Str.mk _ = _
  rw [e]
  simp
/-- sizes of a table or a fraction, of a shot -/
def szH (k : Nat) : PyData → Prop
  | .tuple [.int a, .int b] => sz k a ∧ sz k b
  | .tuple [.int a, .int b, .int c, .int d] => sz k a ∧ sz k b ∧ sz k c ∧ sz k d
  | _ => True
theorem lineV_nonneg (v : Int) : 0 ≤ lineV v := by unfold lineV; split <;> omega
def minI : List Int → Option Int
  | [] => none
  | n :: ns => some (ns.foldl min n)
def kSome : PyData → Option PyData
  | .none => none
  | d => some d
theorem gcd_mod2 (m a : Int) : Nat.gcd m.natAbs (a % m).natAbs = Nat.gcd m.natAbs a.natAbs := by
  have e := Int.emod_add_mul_ediv a m
  refine Nat.dvd_antisymm (Nat.dvd_gcd (Nat.gcd_dvd_left _ _) ?_) (Nat.dvd_gcd (Nat.gcd_dvd_left _ _) ?_)
  · refine Int.ofNat_dvd_left.mp ?_
    have d := Int.dvd_add (gcd_dvd_r m (a % m)) (Int.dvd_trans (gcd_dvd_l m (a % m)) (Int.dvd_mul_right m (a / m)))
    rw [e] at d
    exact d
  · refine Int.ofNat_dvd_left.mp ?_
    rw [show a % m = a - m * (a / m) by omega]
    exact Int.dvd_sub (gcd_dvd_r m a) (Int.dvd_trans (gcd_dvd_l m a) (Int.dvd_mul_right _ _))
def agreeR (e g w : Int) : Int := (if 0 < w then g else -g) % (2 * e)
def oT : Option (Int × Int) → PyData
  | none => .none
  | some t => .tuple [.int t.1, .int t.2]
def szO (k : Nat) (o : Option (Int × Int)) : Prop := ∀ t, o = some t → sz k t.1 ∧ sz k t.2
theorem fold_eq {s T1 T2 m : Int} (hs : 1 ≤ s) (hm : 1 ≤ m) (h : T2 % (2 * s * m) = T1 % (2 * s * m) ∨ T2 % (2 * s * m) = (-T1) % (2 * s * m)) : foldI s T2 m = foldI s T1 m := by
  have M0 : 0 < 2 * s * m := Int.mul_pos (by omega) (by omega)
  have e : 2 * s * m = 2 * (s * m) := Int.mul_assoc _ _ _
  unfold foldI
  rw [e] at M0 h ⊢
  have a0 := Int.emod_nonneg T1 (show 2 * (s * m) ≠ 0 by omega)
  have a1 := Int.emod_lt_of_pos T1 M0
  rcases h with h | h
  · rw [h]
  · by_cases hz : T1 % (2 * (s * m)) = 0
    · have : (-T1) % (2 * (s * m)) = 0 := Int.emod_eq_zero_of_dvd (Int.dvd_neg.mpr (Int.dvd_of_emod_eq_zero hz))
      rw [h, this, hz]
    · have h2 : (-T1) % (2 * (s * m)) = 2 * (s * m) - T1 % (2 * (s * m)) := by
        have e1 := Int.emod_add_mul_ediv T1 (2 * (s * m))
        rw [show -T1 = (2 * (s * m) - T1 % (2 * (s * m))) + (2 * (s * m)) * (-(T1 / (2 * (s * m))) - 1) by
          rw [Int.mul_sub, Int.mul_neg]; omega]
        rw [Int.add_mul_emod_self_left]
        exact Int.emod_eq_of_lt (by omega) (by omega)
      rw [h, h2]
      generalize T1 % (2 * (s * m)) = r at *
      generalize s * m = u at *
      by_cases c : r ≤ u
      · rw [if_pos c]
        by_cases c2 : 2 * u - r ≤ u
        · rw [if_pos c2]; omega
        · rw [if_neg c2]; omega
      · rw [if_neg c, if_pos (by omega)]
/-- what folds alike is alike or against one another -/
theorem fold_inj {s T1 T2 m : Int} (hs : 1 ≤ s) (hm : 1 ≤ m) (h : foldI s T1 m = foldI s T2 m) : (2 * s * m) ∣ (T1 - T2) ∨ (2 * s * m) ∣ (T1 + T2) := by
  have M0 : 0 < 2 * s * m := Int.mul_pos (by omega) (by omega)
  have e : 2 * s * m = 2 * (s * m) := Int.mul_assoc _ _ _
  unfold foldI at h
  rw [e] at M0 h ⊢
  have a1 := Int.emod_lt_of_pos T1 M0
  have b1 := Int.emod_lt_of_pos T2 M0
  have e1 := Int.emod_add_mul_ediv T1 (2 * (s * m))
  have e2 := Int.emod_add_mul_ediv T2 (2 * (s * m))
  have c : T1 % (2 * (s * m)) = T2 % (2 * (s * m)) ∨ T1 % (2 * (s * m)) + T2 % (2 * (s * m)) = 2 * (s * m) := by
    split at h <;> split at h <;> omega
  rcases c with c | c
  · left
    refine ⟨T1 / (2 * (s * m)) - T2 / (2 * (s * m)), ?_⟩
    rw [Int.mul_sub]; omega
  · right
    refine ⟨T1 / (2 * (s * m)) + T2 / (2 * (s * m)) + 1, ?_⟩
    rw [Int.mul_add, Int.mul_add]; omega
end LW
namespace LW
open PySem PySem.Spec PyProof.Rows L2 DL
def m_is_whole (W : WD) : MS :=
  mRet (mrOf (mAnd (mOp1 (bIsi [.kInt]) (mVar 0)) (mNot (mOp1 (bIsi [.kBool]) (mVar 0)))))
def isInt : PyData → Bool
  | .int _ => true
  | _ => false
def D_is_whole : PSpec := fun ds Q _ => ∃ d, ds = [d] ∧ Q (.va (.bool (isInt d)))
theorem len_is_whole : ∀ ds Q E, D_is_whole ds Q E → ds.length = 1 := by
  rintro _ Q E ⟨d, rfl, _⟩
  rfl
theorem rd_is_whole : ∀ ds Q E, D_is_whole ds Q E → m_is_whole (fun c _ => E c) (endP Q) (slots0 1 ds) := by
  rintro _ Q E ⟨d, rfl, q⟩
  unfold m_is_whole
  walk_at "rdm"
  cases d <;> simpa [isK, isInt] using q
section
variable {P : Program} {w : World} {K : PySem.W.Frag} {mg : Str → Option Value} {base : Heap} {CN : String → Option Addr}
theorem ok_is_whole {f : Addr} {fd : FuncData} (F : Fun K "is_whole" "is_whole" s_is_whole f fd) (g : G K mg CN)  : FnG P w K mg base 1 f fd ["value"] (spP K CN D_is_whole) := by
  have sc := sc_is_whole
  exact fun_okP (m := m_is_whole) F sc (by decide) len_is_whole (fun cdv A outer s H E C W hw hr tk =>
    (pds_one (pds_ret (pdr_of (pd_and (pd_isi1 .kInt g.b_isinstance g.b_int (dv 0)) (pd_one (pd_not (pd_isi1 .kBool g.b_isinstance g.b_bool (dv 0))))))))) rd_is_whole
end
def m_are_whole (W : WD) : MS :=
  mRet (mrOf (mAnd (mOp1 (bIsi [.kTup]) (mVar 0)) (mAnd (mOp2 opEq (mCallB bLen (mCons (mVar 0) (mNil))) (mVar 1)) (mCallB bAll (mCons (mLc (miSeq (mVar 0)) (mgName 2) (mTYes) (mCall D_is_whole wF (mCons (mVar 2) (mNil))) [2]) (mNil))))))
def areW (d : PyData) (m : Int) : Bool := match d with
  | .tuple xs => decide ((xs.length : Int) = m) && xs.all isInt
  | _ => false
def D_are_whole : PSpec := fun ds Q _ => ∃ d m, ds = [d, .int m] ∧ m ≤ 100 ∧ Q (.va (.bool (areW d m)))
theorem len_are_whole : ∀ ds Q E, D_are_whole ds Q E → ds.length = 2 := by
  rintro _ Q E ⟨d, m, rfl, _⟩
  rfl
theorem rd_are_whole : ∀ ds Q E, D_are_whole ds Q E → m_are_whole (fun c _ => E c) (endP Q) (slots0 3 ds) := by
  rintro _ Q E ⟨d, m, rfl, hm, q⟩
  unfold m_are_whole
  walk_at "rdm"
  cases d with
  | tuple xs =>
    walk_at "rdm"
    by_cases h : (xs.length : Int) = m
    · rw [if_pos (by simp [h])]
      refine ⟨_, rfl, rfl, ?_⟩
      refine lcL_run (fun s => ∃ x, s = [.va (.tuple xs), .va (.int m), x]) (fun d => some (.bool (isInt d))) xs ?_ _ [] ⟨_, rfl⟩ (by simp; omega) ?_
      · rintro d hd s ⟨x, rfl⟩ Y N hY hN
        simp only [swipe, sset, sget]
        exact ⟨d, rfl, _, rfl, hY _ _ rfl ⟨_, rfl⟩⟩
      · rintro s ⟨x, rfl⟩
        simp only [bAll, List.nil_append]
        rw [fm_some, bools_map]
        refine ⟨_, rfl, ?_⟩
        have e : (xs.map isInt).all id = xs.all isInt := by rw [List.all_map]; rfl
        show Q (S.va (.bool ((xs.map isInt).all id)))
        rw [e]
        simpa [areW, h] using q
    · rw [if_neg (by simp [h])]
      simpa [areW, h] using q
  | _ => simpa [areW, isK] using q
theorem isInt_inv {d : PyData} (h : isInt d = true) : ∃ a, d = .int a := by
  cases d <;> first | exact ⟨_, rfl⟩ | cases h
theorem areW2 {d : PyData} (h : areW d 2 = true) : ∃ a b, d = .tuple [.int a, .int b] := by
  cases d with
  | tuple xs =>
    simp only [areW, Bool.and_eq_true, decide_eq_true_eq] at h
    obtain ⟨h1, h2⟩ := h
    match xs, h1, h2 with
    | [x, y], h1, h2 =>
      simp only [List.all_cons, List.all_nil, Bool.and_true, Bool.and_eq_true] at h2
      obtain ⟨a, rfl⟩ := isInt_inv h2.1
      obtain ⟨b, rfl⟩ := isInt_inv h2.2
      exact ⟨_, _, rfl⟩
    | [], h, _ => simp at h
    | [x], h, _ => simp at h
    | x :: y :: z :: r, h, _ => simp at h; omega
  | _ => simp [areW] at h
theorem areW4 {d : PyData} (h : areW d 4 = true) : ∃ a b c e, d = .tuple [.int a, .int b, .int c, .int e] := by
  cases d with
  | tuple xs =>
    simp only [areW, Bool.and_eq_true, decide_eq_true_eq] at h
    obtain ⟨h1, h2⟩ := h
    match xs, h1, h2 with
    | [x, y, z, w], h1, h2 =>
      simp only [List.all_cons, List.all_nil, Bool.and_true, Bool.and_eq_true] at h2
      obtain ⟨a, rfl⟩ := isInt_inv h2.1
      obtain ⟨b, rfl⟩ := isInt_inv h2.2.1
      obtain ⟨c, rfl⟩ := isInt_inv h2.2.2.1
      obtain ⟨e, rfl⟩ := isInt_inv h2.2.2.2
      exact ⟨_, _, _, _, rfl⟩
    | [], h, _ => simp at h
    | [x], h, _ => simp at h
    | [x, y], h, _ => simp at h
    | [x, y, z], h, _ => simp at h
    | x :: y :: z :: u :: v :: r, h, _ => simp at h; omega
  | _ => simp [areW] at h
section
variable {P : Program} {w : World} {K : PySem.W.Frag} {mg : Str → Option Value} {base : Heap} {CN : String → Option Addr}
theorem ok_are_whole {f : Addr} {fd : FuncData} (F : Fun K "are_whole" "are_whole" s_are_whole f fd) (g : G K mg CN) (c_is_whole : CalP P w K mg base CN 1 "is_whole" D_is_whole) : FnG P w K mg base 2 f fd ["value", "many"] (spP K CN D_are_whole) := by
  have sc := sc_are_whole
  exact fun_okP (m := m_are_whole) F sc (by decide) len_are_whole (fun cdv A outer s H E C W hw hr tk =>
    (pds_one (pds_ret (pdr_of (pd_and (pd_isi1 .kTup g.b_isinstance g.b_tuple (dv 0)) (pd_and (pd_cmp (or_eqD (RoomG.u64 hr)) rl_eq (pd_callB cr_len rc_len g.b_len (by decide +kernel) (pda_cons (dv 0) pda_nil)) (dv 1) (nomark _)) (pd_one (pd_callB (cr_all rfl) rc_all g.b_all (by decide +kernel) (pda_cons (pd_lc (pe_lc (own := [("item", 2)]) rfl sc.nd (pdi_seq (dv 0)) (blkOk_by (N := ["value", "many", "item"]) (sc := (defScope s_are_whole)) (by decide +kernel)) (fun _ _ _ _ _ => (dgv 2 (vs := [2]) sc.nd)) (fun _ _ _ _ _ => pdts_nil) (fun _ _ _ _ _ => (pd_call c_is_whole hr (by decide) takesF (pda_cons (dv 2) pda_nil))))) pda_nil))))))))) rd_are_whole
end
def m_is_table (W : WD) : MS :=
  mRet (mrOf (mAnd (mCall D_are_whole W (mCons (mVar 0) (mCons (mC (.int 2)) (mNil)))) (mAnd (mOp2 opGe (mOp2 opIx (mVar 0) (mC (.int 0))) (mC (.int 1))) (mOp2 opGe (mOp2 opIx (mVar 0) (mC (.int 1))) (mC (.int 1))))))
def isTab : PyData → Bool
  | .tuple [.int a, .int b] => decide (1 ≤ a) && decide (1 ≤ b)
  | _ => false
def D_is_table : PSpec := fun ds Q _ => ∃ d, ds = [d] ∧ Q (.va (.bool (isTab d)))
theorem len_is_table : ∀ ds Q E, D_is_table ds Q E → ds.length = 1 := by
  rintro _ Q E ⟨d, rfl, _⟩
  rfl
theorem rd_is_table : ∀ ds Q E, D_is_table ds Q E → m_is_table (fun c _ => E c) (endP Q) (slots0 1 ds) := by
  rintro _ Q E ⟨d, rfl, q⟩
  unfold m_is_table
  walk_at "rdm"
  refine ⟨d, 2, rfl, by decide, _, rfl, _, rfl, ?_⟩
  cases h : areW d 2 with
  | false =>
    rw [if_neg (by decide)]
    have e : isTab d = false := by
      unfold isTab
      split
      · simp [areW, isInt] at h
      · rfl
    rwa [e] at q
  | true =>
    obtain ⟨a, b, rfl⟩ := areW2 h
    rw [if_pos rfl]
    walk_at "rdm"
    by_cases h1 : 1 ≤ a
    · rw [if_pos (by simpa using h1)]
      simpa [isTab, h1] using q
    · rw [if_neg (by simpa using h1)]
      simpa [isTab, h1] using q
theorem isTab_t {a b : Int} (h1 : 1 ≤ a) (h2 : 1 ≤ b) : isTab (.tuple [.int a, .int b]) = true := by simp [isTab, h1, h2]
section
variable {P : Program} {w : World} {K : PySem.W.Frag} {mg : Str → Option Value} {base : Heap} {CN : String → Option Addr}
theorem ok_is_table {f : Addr} {fd : FuncData} (F : Fun K "is_table" "is_table" s_is_table f fd) (g : G K mg CN) (c_are_whole : CalP P w K mg base CN 2 "are_whole" D_are_whole) : FnG P w K mg base 3 f fd ["value"] (spP K CN D_is_table) := by
  have sc := sc_is_table
  exact fun_okP (m := m_is_table) F sc (by decide) len_is_table (fun cdv A outer s H E C W hw hr tk =>
    (pds_one (pds_ret (pdr_of (pd_and (pd_call c_are_whole hr (by decide) tk (pda_cons (dv 0) (pda_cons pd_int pda_nil))) (pd_and (pd_cmp op_ge rl_cmpI (pd_ix ix_seq rl_ix (dv 0) pd_int) pd_int (nomark _)) (pd_one (pd_cmp op_ge rl_cmpI (pd_ix ix_seq rl_ix (dv 0) pd_int) pd_int (nomark _))))))))) rd_is_table
end
def m_is_any_shot (W : WD) : MS :=
  mRet (mrOf (mAnd (mCall D_are_whole W (mCons (mVar 0) (mCons (mC (.int 4)) (mNil)))) (mAnd (mOp2 opGe (mOp2 opIx (mVar 0) (mC (.int 0))) (mC (.int 0))) (mAnd (mOp2 opGe (mOp2 opIx (mVar 0) (mC (.int 1))) (mC (.int 0))) (mOr (mOp2 opNe (mOp2 opIx (mVar 0) (mC (.int 2))) (mC (.int 0))) (mOp2 opNe (mOp2 opIx (mVar 0) (mC (.int 3))) (mC (.int 0))))))))
def isAny : PyData → Bool
  | .tuple [.int x, .int y, .int p, .int q] => decide (0 ≤ x) && decide (0 ≤ y) && (!decide (p = 0) || !decide (q = 0))
  | _ => false
def D_is_any_shot : PSpec := fun ds Q _ => ∃ d, ds = [d] ∧ Q (.va (.bool (isAny d)))
theorem len_is_any_shot : ∀ ds Q E, D_is_any_shot ds Q E → ds.length = 1 := by
  rintro _ Q E ⟨d, rfl, _⟩
  rfl
theorem rd_is_any_shot : ∀ ds Q E, D_is_any_shot ds Q E → m_is_any_shot (fun c _ => E c) (endP Q) (slots0 1 ds) := by
  rintro _ Q E ⟨d, rfl, q⟩
  unfold m_is_any_shot
  walk_at "rdm"
  refine ⟨d, 4, rfl, by decide, _, rfl, _, rfl, ?_⟩
  cases h : areW d 4 with
  | false =>
    rw [if_neg (by decide)]
    have e : isAny d = false := by
      unfold isAny
      split
      · simp [areW, isInt] at h
      · rfl
    rwa [e] at q
  | true =>
    obtain ⟨x, y, p, r, rfl⟩ := areW4 h
    rw [if_pos rfl]
    walk_at "rdm"
    by_cases h1 : 0 ≤ x
    · rw [if_pos (by simpa using h1)]
      by_cases h2 : 0 ≤ y
      · rw [if_pos (by simpa using h2)]
        by_cases h3 : p = 0
        · rw [if_neg (by simpa using h3)]
          simpa [isAny, h1, h2, h3] using q
        · rw [if_pos (by simpa using h3)]
          simpa [isAny, h1, h2, h3] using q
      · rw [if_neg (by simpa using h2)]
        simpa [isAny, h1, h2] using q
    · rw [if_neg (by simpa using h1)]
      simpa [isAny, h1] using q
section
variable {P : Program} {w : World} {K : PySem.W.Frag} {mg : Str → Option Value} {base : Heap} {CN : String → Option Addr}
theorem ok_is_any_shot {f : Addr} {fd : FuncData} (F : Fun K "is_any_shot" "is_any_shot" s_is_any_shot f fd) (g : G K mg CN) (c_are_whole : CalP P w K mg base CN 2 "are_whole" D_are_whole) : FnG P w K mg base 3 f fd ["value"] (spP K CN D_is_any_shot) := by
  have sc := sc_is_any_shot
  exact fun_okP (m := m_is_any_shot) F sc (by decide) len_is_any_shot (fun cdv A outer s H E C W hw hr tk =>
    (pds_one (pds_ret (pdr_of (pd_and (pd_call c_are_whole hr (by decide) tk (pda_cons (dv 0) (pda_cons pd_int pda_nil))) (pd_and (pd_cmp op_ge rl_cmpI (pd_ix ix_seq rl_ix (dv 0) pd_int) pd_int (nomark _)) (pd_and (pd_cmp op_ge rl_cmpI (pd_ix ix_seq rl_ix (dv 0) pd_int) pd_int (nomark _)) (pd_one (pd_or (pd_cmp (or_neD (RoomG.u64 hr)) rl_ne (pd_ix ix_seq rl_ix (dv 0) pd_int) pd_int (nomark _)) (pd_one (pd_cmp (or_neD (RoomG.u64 hr)) rl_ne (pd_ix ix_seq rl_ix (dv 0) pd_int) pd_int (nomark _)))))))))))) rd_is_any_shot
end
def m_check_table (W : WD) : MS :=
  mIf (mTNot (mT (mCall D_is_table W (mCons (mVar 0) (mNil))))) (mRaise "InvalidTable" W) (mNext)
def D_check_table : PSpec := fun ds Q E => ∃ d, ds = [d] ∧ (isTab d = true → Q (.va .none)) ∧ (isTab d = false → E "InvalidTable")
theorem len_check_table : ∀ ds Q E, D_check_table ds Q E → ds.length = 1 := by
  rintro _ Q E ⟨d, rfl, _⟩
  rfl
theorem rd_check_table : ∀ ds Q E, D_check_table ds Q E → m_check_table (fun c _ => E c) (endP Q) (slots0 1 ds) := by
  rintro _ Q E ⟨d, rfl, q1, q2⟩
  unfold m_check_table
  walk_at "rdm"
  refine ⟨d, rfl, _, rfl, _, rfl, ?_⟩
  cases h : isTab d with
  | false => exact q2 h
  | true => exact q1 h
section
variable {P : Program} {w : World} {K : PySem.W.Frag} {mg : Str → Option Value} {base : Heap} {CN : String → Option Addr}
theorem ok_check_table {f : Addr} {fd : FuncData} (F : Fun K "check_table" "check_table" s_check_table f fd) (g : G K mg CN) (c_is_table : CalP P w K mg base CN 3 "is_table" D_is_table) : FnG P w K mg base 4 f fd ["table"] (spP K CN D_check_table) := by
  obtain ⟨e_InvalidTable, n_InvalidTable, t_InvalidTable⟩ := g.x_InvalidTable
  have sc := sc_check_table
  exact fun_okP (m := m_check_table) F sc (by decide) len_check_table (fun cdv A outer s H E C W hw hr tk =>
    (pds_one (pds_if (pdt_not (pdt_val (pd_call c_is_table hr (by decide) tk (pda_cons (dv 0) pda_nil)))) (pds_one (pds_raise rfl tk t_InvalidTable n_InvalidTable)) pds_nil))) rd_check_table
end
end LW
namespace LW
open PySem PySem.Spec PyProof.Rows L2 DL
def cs (z : Str) : List Nat := z.cps.toList
def tx (l : List Nat) : Str := ⟨l.toArray⟩
theorem cs_tx (l : List Nat) : cs (tx l) = l := rfl
theorem tx_cs (z : Str) : tx (cs z) = z := by
  obtain ⟨⟨l⟩⟩ := z
  rfl
theorem cs_inj {a b : Str} (h : cs a = cs b) : a = b := by rw [← tx_cs a, ← tx_cs b, h]
theorem cs_app (a b : Str) : cs (a ++ b) = cs a ++ cs b := PySem.W.KT.app_list a b
theorem len_cs (z : Str) : (cs z).length = z.length := by
  obtain ⟨⟨l⟩⟩ := z
  rfl
theorem len_tx (l : List Nat) : (tx l).length = l.length := rfl
theorem tx_app (a b : List Nat) : tx a ++ tx b = tx (a ++ b) := cs_inj (cs_app _ _)
theorem tx_inj {a b : List Nat} (h : tx a = tx b) : a = b := by rw [← cs_tx a, ← cs_tx b, h]
/-- the digits of a number -/
def dig (n : Nat) : List Nat := (Nat.toDigits 10 n).map Char.toNat
theorem dig_lt {n : Nat} (h : n < 10) : dig n = [48 + n] := by
  unfold dig
  rw [Nat.toDigits_of_lt_base h]
  have : n = 0 ∨ n = 1 ∨ n = 2 ∨ n = 3 ∨ n = 4 ∨ n = 5 ∨ n = 6 ∨ n = 7 ∨ n = 8 ∨ n = 9 := by omega
  rcases this with rfl | rfl | rfl | rfl | rfl | rfl | rfl | rfl | rfl | rfl <;> rfl
theorem dig_step {n d : Nat} (h0 : 0 < n) (h : d < 10) : dig (10 * n + d) = dig n ++ [48 + d] := by
  have e := Nat.toDigits_append_toDigits (b := 10) (n := n) (d := d) (by decide) h0 h
  have e2 := dig_lt h
  unfold dig at e2 ⊢
  rw [← e, List.map_append, e2]
theorem str_dig (n : Nat) : Str.ofString (toString (n : Int)) = tx (dig n) := by
  refine cs_inj ?_
  show (Str.ofString (toString (n : Int))).cps.toList = _
  rw [PyProof.Rows.signs_ofString]
  have : (toString (n : Int)).toList = Nat.toDigits 10 n := by
    show (String.ofList (Nat.toDigits 10 n)).toList = _
    rw [String.toList_ofList]
  rw [this]
  rfl
theorem dig_ind {P : Nat → Prop} (h0 : ∀ n, n < 10 → P n) (h1 : ∀ n d, 0 < n → d < 10 → P n → P (10 * n + d)) (n : Nat) : P n := by
  induction n using Nat.strongRecOn with
  | _ n ih =>
    by_cases c : n < 10
    · exact h0 n c
    · have e : n = 10 * (n / 10) + n % 10 := by omega
      rw [e]
      exact h1 _ _ (by omega) (by omega) (ih _ (by omega))
theorem dig_ok (n : Nat) : NumText.AllDigits (dig n) ∧ dig n ≠ [] := by
  refine dig_ind (P := fun n => NumText.AllDigits (dig n) ∧ dig n ≠ []) (fun n h => ?_) (fun n d h0 h ih => ?_) n
  · rw [dig_lt h]
    refine ⟨fun c hc => ?_, by simp⟩
    rw [List.mem_singleton.mp hc]
    omega
  · rw [dig_step h0 h]
    refine ⟨fun c hc => ?_, by simp⟩
    rcases List.mem_append.mp hc with hc | hc
    · exact ih.1 c hc
    · rw [List.mem_singleton.mp hc]
      omega
theorem val_app (a b : List Nat) (acc : Nat) : List.foldl (fun acc c => acc * 10 + (c - 48)) acc (a ++ b) = List.foldl (fun acc c => acc * 10 + (c - 48)) (List.foldl (fun acc c => acc * 10 + (c - 48)) acc a) b := List.foldl_append
theorem dig_val (n : Nat) : NumText.digitsVal (dig n) = n := by
  refine dig_ind (P := fun n => NumText.digitsVal (dig n) = n) (fun n h => ?_) (fun n d h0 h ih => ?_) n
  · rw [dig_lt h]
    show 0 * 10 + (48 + n - 48) = n
    omega
  · rw [dig_step h0 h]
    unfold NumText.digitsVal at ih ⊢
    rw [val_app, ih]
    show n * 10 + (48 + d - 48) = _
    omega
/-- no leading zeros -/
theorem dig_head (n : Nat) : (dig n).head? = some 48 ↔ n = 0 := by
  refine dig_ind (P := fun n => (dig n).head? = some 48 ↔ n = 0) (fun n h => ?_) (fun n d h0 h ih => ?_) n
  · rw [dig_lt h]
    simp
  · rw [dig_step h0 h, List.head?_append]
    have := (dig_ok n).2
    cases hd : dig n with
    | nil => exact absurd hd this
    | cons c r =>
      rw [hd] at ih
      simp at ih ⊢
      rw [ih]
      omega
theorem dig_len {n k : Nat} (hk : 1 ≤ k) (h : n < 10 ^ k) : (dig n).length ≤ k := by
  induction k generalizing n with
  | zero => omega
  | succ k ih =>
    by_cases c : n < 10
    · rw [dig_lt c]
      simp
    · have e : n = 10 * (n / 10) + n % 10 := by omega
      rw [e, dig_step (by omega) (by omega), List.length_append]
      have k1 : 1 ≤ k := by
        refine Classical.byContradiction fun z => c ?_
        have : k = 0 := by omega
        rw [this] at h
        omega
      have := ih k1 (n := n / 10) (by rw [Nat.pow_succ] at h; omega)
      simp
      omega
/-- just k digits -/
def pad : Nat → Nat → List Nat
  | 0, _ => []
  | k + 1, r => pad k (r / 10) ++ [48 + r % 10]
theorem pad_len (k r : Nat) : (pad k r).length = k := by
  induction k generalizing r with
  | zero => rfl
  | succ k ih =>
    show (pad k (r / 10) ++ [48 + r % 10]).length = _
    rw [List.length_append, ih]
    rfl
theorem pad_zero (k : Nat) : pad k 0 = List.replicate k 48 := by
  induction k with
  | zero => rfl
  | succ k ih =>
    show pad k (0 / 10) ++ [48 + 0 % 10] = _
    rw [Nat.zero_div, ih, List.replicate_succ']
theorem dig_pad {q k r : Nat} (h0 : 0 < q) (h : r < 10 ^ k) : dig (q * 10 ^ k + r) = dig q ++ pad k r := by
  induction k generalizing r with
  | zero =>
    have : r = 0 := by simpa using h
    subst this
    simp [pad]
  | succ k ih =>
    rw [Nat.pow_succ] at h
    have p : 0 < 10 ^ k := Nat.pow_pos (by decide)
    have e : q * 10 ^ (k + 1) + r = 10 * (q * 10 ^ k + r / 10) + r % 10 := by
      have : q * 10 ^ (k + 1) = 10 * (q * 10 ^ k) := by rw [Nat.pow_succ]; simp only [Nat.mul_assoc, Nat.mul_comm, Nat.mul_left_comm]
      omega
    have g0 : 0 < q * 10 ^ k := Nat.mul_pos h0 p
    rw [e, dig_step (by omega) (by omega), ih (by omega), List.append_assoc]
    rfl
theorem zero_pad {k r : Nat} (hk : 1 ≤ k) (h : r < 10 ^ k) : List.replicate (k - (dig r).length) 48 ++ dig r = pad k r := by
  induction k generalizing r with
  | zero => omega
  | succ k ih =>
    show _ = pad k (r / 10) ++ [48 + r % 10]
    by_cases c : r < 10
    · rw [dig_lt c, Nat.div_eq_of_lt c, Nat.mod_eq_of_lt c, pad_zero]
      simp
    · have e : r = 10 * (r / 10) + r % 10 := by omega
      have k1 : 1 ≤ k := by
        refine Classical.byContradiction fun z => c ?_
        have : k = 0 := by omega
        rw [this] at h
        omega
      have hq : r / 10 < 10 ^ k := by rw [Nat.pow_succ] at h; omega
      have d := dig_step (n := r / 10) (d := r % 10) (by omega) (by omega)
      rw [← e] at d
      rw [d, ← ih k1 hq, List.length_append, List.append_assoc]
      simp
theorem pad_ok (k r : Nat) : NumText.AllDigits (pad k r) := by
  induction k generalizing r with
  | zero => exact fun c hc => (by cases hc)
  | succ k ih =>
    intro c hc
    rcases List.mem_append.mp hc with hc | hc
    · exact ih _ c hc
    · rw [List.mem_singleton.mp hc]
      omega
/-- a number's text -/
def decL (n : Int) : List Nat := if n < 0 then 45 :: dig n.natAbs else dig n.natAbs
theorem join_nil : ∀ (ws : List Str), cs (Txt.join (tx []) ws) = (ws.map cs).flatten := by
  have go : ∀ (ws : List Str) (acc : Array Nat), (List.foldl (fun acc p => acc ++ (tx []).cps ++ p.cps) acc ws : Array Nat).toList = acc.toList ++ (ws.map cs).flatten := by
    intro ws
    induction ws with
    | nil => intro acc; simp
    | cons w ws ih =>
      intro acc
      rw [List.foldl_cons, ih]
      simp [tx, cs]
  intro ws
  cases ws with
  | nil => rfl
  | cons w ws =>
    show (List.foldl (fun acc p => acc ++ (tx []).cps ++ p.cps) w.cps ws : Array Nat).toList = _
    rw [go]
    rfl
/-- words with a sign between them -/
def glue (c : Nat) : List (List Nat) → List Nat
  | [] => []
  | [w] => w
  | w :: v :: r => w ++ c :: glue c (v :: r)
theorem join_one (c : Nat) : ∀ (ws : List Str), cs (Txt.join (tx [c]) ws) = glue c (ws.map cs) := by
  have go : ∀ (ws : List Str) (acc : Array Nat) (w : List Nat), (List.foldl (fun acc p => acc ++ (tx [c]).cps ++ p.cps) (acc ++ w.toArray) ws : Array Nat).toList = acc.toList ++ glue c (w :: ws.map cs) := by
    intro ws
    induction ws with
    | nil => intro acc w; simp [glue]
    | cons v ws ih =>
      intro acc w
      rw [List.foldl_cons]
      have e : acc ++ w.toArray ++ (tx [c]).cps ++ v.cps = (acc ++ w.toArray ++ (tx [c]).cps) ++ (cs v).toArray := by simp [cs]
      rw [e, ih]
      simp [glue, tx]
  intro ws
  cases ws with
  | nil => rfl
  | cons w ws =>
    have := go ws #[] (cs w)
    show (List.foldl (fun acc p => acc ++ (tx [c]).cps ++ p.cps) w.cps ws : Array Nat).toList = _
    have e : (#[] : Array Nat) ++ (cs w).toArray = w.cps := by simp [cs]
    rw [e] at this
    simpa using this
theorem ten_pow64 : opPow (.int 10) (.int 64) = some (.int ((10 : Int) ^ 64)) := by
  rw [opPow_i, if_pos ⟨by decide, by decide, big10⟩]
  rfl
theorem strsD_str : ∀ ys : List Str, strsD (ys.map .str) = some ys
  | [] => rfl
  | y :: ys => by
    show (strsD (ys.map .str)).map (y :: ·) = _
    rw [strsD_str ys]
    rfl
theorem join_strs {s : Str} {ys : List Str} (h : (ys.map (·.length)).sum + ys.length * s.length ≤ 16777216) : opJoin (.str s) (.list (ys.map .str)) = some (.str (Txt.join s ys)) := by
  show ((strsD (ys.map .str)).bind fun ys => if (ys.map (·.length)).sum + ys.length * s.length ≤ 16777216 then some (PyData.str (Txt.join s ys)) else none) = _
  rw [strsD_str]
  show (if (ys.map (·.length)).sum + ys.length * s.length ≤ 16777216 then some (PyData.str (Txt.join s ys)) else none) = _
  rw [if_pos h]
def spl (c : Nat) : List Nat → List (List Nat)
  | [] => [[]]
  | x :: r => if x = c then [] :: spl c r else match spl c r with
    | [] => [[x]]
    | w :: ws => (x :: w) :: ws
theorem spl_ne (c : Nat) (l : List Nat) : spl c l ≠ [] := by
  cases l with
  | nil => simp [spl]
  | cons x r =>
    unfold spl
    split
    · simp
    · split <;> simp
theorem ext_take (l : List Nat) (a i : Nat) : (l.extract a i).toArray.toList = (l.take i).drop a := by
  show (l.drop a).take (i - a) = _
  rw [List.drop_take]
def oneAt (l : List Nat) (c i : Nat) : Bool := decide (l[i]? = some c)
def ostep (n m : Nat) (l : List Nat) (c : Nat) (i : Nat) (st : Array Nat × Nat) : Array Nat × Nat :=
  if (decide (st.1.size < m) && decide (st.2 ≤ i) && decide (i + 1 ≤ n) && Builtin.Str.subAt (tx l) (tx [c]) i) = true then (st.1.push i, i + 1) else st
theorem sub_one {l : List Nat} {c i : Nat} (h : i < l.length) : Builtin.Str.subAt (tx l) (tx [c]) i = oneAt l c i := by
  unfold Builtin.Str.subAt oneAt
  have e : (tx l).cps.extract i (i + (tx [c]).length) = #[l[i]] := by
    apply Array.ext'
    show ((l.toArray).extract i (i + 1)).toList = [l[i]]
    rw [List.extract_toArray, ext_take]
    rw [List.take_succ_eq_append_getElem h, List.drop_append_of_le_length (by rw [List.length_take]; omega), List.drop_of_length_le (by rw [List.length_take]; omega)]
    rfl
  rw [e, List.getElem?_eq_getElem h]
  show (#[l[i]] == #[c]) = _
  by_cases q : l[i] = c <;> simp [q]
theorem occ_fold (l : List Nat) (c : Nat) : Builtin.Str.occurrences (tx l) (tx [c]) 0 l.length (l.length + 1) = (List.foldl (fun st i => ostep l.length (l.length + 1) l c i st) ((#[] : Array Nat), 0) (List.range' 0 (l.length + 1))).1.toList := by
  unfold Builtin.Str.occurrences
  simp only [Std.Legacy.Range.forIn_eq_forIn_range']
  have e : (fun (i : Nat) (__s : Array Nat × Nat) => (if (decide (__s.fst.size < l.length + 1) && decide (__s.snd ≤ i) && decide (i + (tx [c]).length ≤ l.length) && Builtin.Str.subAt (tx l) (tx [c]) i) = true then (pure (ForInStep.yield (__s.fst.push i, i + (tx [c]).length)) : Id _) else pure (ForInStep.yield (__s.fst, __s.snd)))) = fun i st => pure (ForInStep.yield (ostep l.length (l.length + 1) l c i st)) := by
    funext i st
    unfold ostep
    show (if (decide (st.1.size < l.length + 1) && decide (st.2 ≤ i) && decide (i + 1 ≤ l.length) && Builtin.Str.subAt (tx l) (tx [c]) i) = true then (pure (ForInStep.yield (st.1.push i, i + 1)) : Id _) else pure (ForInStep.yield (st.1, st.2))) = _
    split <;> rfl
  rw [e, List.forIn_pure_yield_eq_foldl]
  have sz : [:l.length + 1].size = l.length + 1 := by simp [Std.Legacy.Range.size]
  rw [sz]
  rfl
theorem occ_inv (l : List Nat) (c : Nat) : ∀ k, k ≤ l.length → ∃ a f, List.foldl (fun st i => ostep l.length (l.length + 1) l c i st) ((#[] : Array Nat), 0) (List.range' 0 k) = (a, f) ∧ a.toList = (List.range k).filter (oneAt l c) ∧ f ≤ k ∧ a.size ≤ k
  | 0, _ => ⟨#[], 0, rfl, rfl, Nat.le_refl _, Nat.le_refl _⟩
  | k + 1, h => by
    obtain ⟨a, f, e, h1, h2, h3⟩ := occ_inv l c k (by omega)
    have rk : List.range' 0 (k + 1) = List.range' 0 k ++ [k] := by
      rw [List.range'_concat]
      simp
    rw [rk, List.foldl_append, e, List.foldl_cons, List.foldl_nil, List.range_succ, List.filter_append]
    unfold ostep
    rw [sub_one (show k < l.length by omega), decide_eq_true (show (a, f).1.size < l.length + 1 by dsimp only; omega), decide_eq_true (show (a, f).2 ≤ k from h2), decide_eq_true (show k + 1 ≤ l.length by omega)]
    simp only [Bool.true_and]
    by_cases q : oneAt l c k = true
    · rw [if_pos q]
      refine ⟨_, _, rfl, ?_, Nat.le_refl _, by rw [Array.size_push]; omega⟩
      rw [Array.toList_push, h1]
      simp [q]
    · rw [if_neg q]
      refine ⟨_, _, rfl, ?_, by omega, by omega⟩
      rw [h1]
      simp [q]
theorem occ_one (l : List Nat) (c : Nat) : Builtin.Str.occurrences (tx l) (tx [c]) 0 l.length (l.length + 1) = (List.range l.length).filter (oneAt l c) := by
  rw [occ_fold]
  obtain ⟨a, f, e, h1, h2, h3⟩ := occ_inv l c l.length (Nat.le_refl _)
  have rk : List.range' 0 (l.length + 1) = List.range' 0 l.length ++ [l.length] := by
    rw [List.range'_concat]
    simp
  rw [rk, List.foldl_append, e, List.foldl_cons, List.foldl_nil]
  unfold ostep
  rw [decide_eq_false (show ¬ l.length + 1 ≤ l.length by omega)]
  simp [h1]
/-- the pieces from a on, cut at told places -/
def pieces (l : List Nat) : Nat → List Nat → List (List Nat)
  | a, [] => [(l.take l.length).drop a]
  | a, i :: r => ((l.take i).drop a) :: pieces l (i + 1) r
theorem parts_pieces (l : List Nat) : ∀ (cuts : List Nat) (a : Nat), (((a :: cuts.map (· + 1)).zip (cuts ++ [l.length])).map fun x => cs (Builtin.Str.strSub (tx l) x.1 x.2)) = pieces l a cuts
  | [], a => by
    show [((l.toArray).extract a l.length).toList] = _
    rw [List.extract_toArray, ext_take]
    rfl
  | i :: r, a => by
    have := parts_pieces l r (i + 1)
    show ((l.toArray).extract a i).toList :: _ = _ :: _
    rw [List.extract_toArray, ext_take]
    exact congrArg _ this
theorem pieces_spl (l : List Nat) (c : Nat) : ∀ (m a : Nat), a + m = l.length → pieces l a ((List.range' a m).filter (oneAt l c)) = spl c (l.drop a)
  | 0, a, h => by
    have : l.drop a = [] := List.drop_of_length_le (by omega)
    show [(l.take l.length).drop a] = _
    rw [List.take_length, this]
    rfl
  | m + 1, a, h => by
    have al : a < l.length := by omega
    have ih := pieces_spl l c m (a + 1) (by omega)
    have e : l.drop a = l[a] :: l.drop (a + 1) := List.drop_eq_getElem_cons al
    have r : List.range' a (m + 1) = a :: List.range' (a + 1) m := List.range'_succ
    rw [r, List.filter_cons, e]
    unfold oneAt at ih ⊢
    rw [List.getElem?_eq_getElem al]
    by_cases q : l[a] = c
    · rw [if_pos (by simp [q])]
      unfold spl
      rw [if_pos q]
      show ((l.take a).drop a) :: pieces l (a + 1) _ = _
      rw [ih, List.drop_of_length_le (by rw [List.length_take]; omega)]
    · rw [if_neg (by simp [q])]
      unfold spl
      rw [if_neg q, ← ih]
      have nil : (l.take l.length).drop a = l[a] :: (l.take l.length).drop (a + 1) := by rw [List.take_length]; exact e
      cases hf : (List.range' (a + 1) m).filter (fun i => decide (l[i]? = some c)) with
      | nil =>
        show [(l.take l.length).drop a] = _
        rw [nil]
        rfl
      | cons i is =>
        have hi : i ∈ (List.range' (a + 1) m).filter (fun i => decide (l[i]? = some c)) := by rw [hf]; simp
        have hi := (List.mem_filter.mp hi).1
        have hi := (List.mem_range'_1.mp hi).1
        show ((l.take i).drop a) :: pieces l (i + 1) is = (l[a] :: ((l.take i).drop (a + 1))) :: pieces l (i + 1) is
        have : (l.take i).drop a = l[a] :: (l.take i).drop (a + 1) := by
          rw [List.drop_eq_getElem_cons (by rw [List.length_take]; omega), List.getElem_take]
        rw [this]
theorem spl_none {c : Nat} : ∀ {l : List Nat}, c ∉ l → spl c l = [l]
  | [], _ => rfl
  | x :: r, h => by
    have hx : x ≠ c := fun z => h (by simp [z])
    have hr : c ∉ r := fun z => h (by simp [z])
    unfold spl
    rw [if_neg hx, spl_none hr]
theorem filter_none {c : Nat} {l : List Nat} (h : (List.range l.length).filter (oneAt l c) = []) : c ∉ l := by
  intro hc
  obtain ⟨i, hi, e⟩ := List.mem_iff_getElem.mp hc
  have : i ∈ (List.range l.length).filter (oneAt l c) := by
    refine List.mem_filter.mpr ⟨List.mem_range.mpr hi, ?_⟩
    unfold oneAt
    rw [List.getElem?_eq_getElem hi, e]
    simp
  rw [h] at this
  cases this
theorem split_one (l : List Nat) (c : Nat) (hc : c < 256) : (Txt.split (tx l) (tx [c])).map cs = spl c l := by
  unfold Txt.split
  by_cases e : l = []
  · subst e
    rfl
  have k1 : Builtin.Str.strKind (tx [c]) = 1 := by
    unfold Builtin.Str.strKind
    have : ((tx [c]).cps.all fun x => decide (x < 256)) = true := by simp [tx, hc]
    rw [if_pos this]
  have k2 : 1 ≤ Builtin.Str.strKind (tx l) := by
    unfold Builtin.Str.strKind
    split
    · decide
    · split <;> decide
  have l1 : 1 ≤ l.length := by
    cases l with
    | nil => exact absurd rfl e
    | cons => simp
  rw [if_neg]
  · have o : Builtin.Str.occurrences (tx l) (tx [c]) 0 (tx l).length ((tx l).length + 1) = (List.range l.length).filter (oneAt l c) := occ_one l c
    rw [o]
    split
    · rename_i h
      have h := List.isEmpty_iff.mp h
      show [l] = _
      rw [spl_none (filter_none h)]
    · have p := parts_pieces l ((List.range l.length).filter (oneAt l c)) 0
      have q := pieces_spl l c l.length 0 (by omega)
      rw [List.drop_zero] at q
      have rr : List.range' 0 l.length = List.range l.length := by rw [List.range_eq_range']
      rw [rr] at q
      rw [q] at p
      rw [← p]
      show List.map cs (Builtin.Str.partsBetween (tx l) _ 1) = _
      unfold Builtin.Str.partsBetween
      rw [List.map_map]
      rfl
  · rw [k1]
    simp only [Bool.or_eq_true, decide_eq_true_eq]
    rintro (h | h)
    · have : (tx l).length < 1 := h
      rw [len_tx] at this
      omega
    · omega
/-- glued words are cut again -/
theorem spl_glue (c : Nat) : ∀ (ws : List (List Nat)), ws ≠ [] → (∀ w ∈ ws, c ∉ w) → spl c (glue c ws) = ws
  | [], h, _ => absurd rfl h
  | [w], _, h => spl_none (h w (by simp))
  | w :: v :: r, _, h => by
    have ih := spl_glue c (v :: r) (by simp) fun x hx => h x (by simp [hx])
    have hw := h w (by simp)
    show spl c (w ++ c :: glue c (v :: r)) = _
    have go : ∀ w : List Nat, c ∉ w → spl c (w ++ c :: glue c (v :: r)) = w :: (v :: r) := by
      intro w
      induction w with
      | nil =>
        intro _
        show spl c (c :: glue c (v :: r)) = _
        unfold spl
        rw [if_pos rfl, ih]
      | cons x w ihw =>
        intro hx
        have h1 : x ≠ c := fun z => hx (by simp [z])
        have h2 := ihw fun z => hx (by simp [z])
        show spl c (x :: (w ++ c :: glue c (v :: r))) = _
        unfold spl
        rw [if_neg h1, h2]
    exact go w hw
theorem cutL_to {α : Type} {xs : List α} {n : Nat} : DL.cutL xs none (some (n : Int)) = xs.take n := by
  unfold DL.cutL DL.sIx
  simp only [List.drop_zero, Nat.sub_zero]
  rw [if_neg (by omega), Int.toNat_natCast]
  by_cases h : n ≤ xs.length
  · rw [Nat.min_eq_left h]
  · rw [Nat.min_eq_right (by omega), List.take_of_length_le (Nat.le_refl _), List.take_of_length_le (by omega)]
theorem cutL_from {α : Type} {xs : List α} {n : Nat} : DL.cutL xs (some (n : Int)) none = xs.drop n := by
  unfold DL.cutL DL.sIx
  simp only
  rw [if_neg (by omega), Int.toNat_natCast]
  by_cases h : n ≤ xs.length
  · rw [Nat.min_eq_left h, List.take_of_length_le (by rw [List.length_drop]; omega)]
  · rw [Nat.min_eq_right (by omega), List.drop_of_length_le (Nat.le_refl _), List.drop_of_length_le (show xs.length ≤ n by omega)]
    simp
theorem cutL_mid {α : Type} {xs : List α} {n m : Nat} : DL.cutL xs (some (n : Int)) (some (m : Int)) = (xs.drop n).take (m - n) := by
  unfold DL.cutL DL.sIx
  simp only
  rw [if_neg (by omega), if_neg (by omega), Int.toNat_natCast, Int.toNat_natCast]
  by_cases h : n ≤ xs.length
  · rw [Nat.min_eq_left h]
    by_cases h2 : m ≤ xs.length
    · rw [Nat.min_eq_left h2]
    · rw [Nat.min_eq_right (by omega), List.take_of_length_le (by rw [List.length_drop]; omega), List.take_of_length_le (by rw [List.length_drop]; omega)]
  · rw [Nat.min_eq_right (show xs.length ≤ n by omega), List.drop_of_length_le (Nat.le_refl _), List.drop_of_length_le (show xs.length ≤ n by omega)]
    simp
/-- a number's words -/
def isD (c : Nat) : Bool := decide (48 ≤ c ∧ c ≤ 57)
def neg? (l : List Nat) : Bool := decide (l.head? = some 45)
def digs (l : List Nat) : List Nat := if neg? l = true then l.tail else l
def numOk (l : List Nat) : Bool := !(digs l).isEmpty && (digs l).all isD && !(decide ((digs l).head? = some 48) && !decide (l = [48]))
def numV (l : List Nat) : Int := if neg? l = true then -(NumText.digitsVal (digs l) : Int) else (NumText.digitsVal (digs l) : Int)
theorem all_digits {l : List Nat} : l.all isD = true ↔ NumText.AllDigits l := by
  unfold NumText.AllDigits isD
  simp only [List.all_eq_true, decide_eq_true_eq]
theorem decL_digs (n : Int) : digs (decL n) = dig n.natAbs ∧ neg? (decL n) = decide (n < 0) := by
  obtain ⟨ok, ne⟩ := dig_ok n.natAbs
  have hd : neg? (dig n.natAbs) = false := by
    unfold neg?
    cases h : dig n.natAbs with
    | nil => exact absurd h ne
    | cons c r =>
      have := ok c (by rw [h]; simp)
      simp
      omega
  unfold digs decL
  by_cases c : n < 0
  · rw [if_pos c]
    exact ⟨rfl, by rw [decide_eq_true c]; rfl⟩
  · rw [if_neg c, hd]
    exact ⟨rfl, by rw [decide_eq_false c]⟩
theorem decL_ok (n : Int) : numOk (decL n) = true ∧ numV (decL n) = n := by
  obtain ⟨h1, h2⟩ := decL_digs n
  obtain ⟨ok, ne⟩ := dig_ok n.natAbs
  unfold numOk numV
  rw [h1, h2, dig_val]
  constructor
  · have e1 : (dig n.natAbs).isEmpty = false := by
      cases h : dig n.natAbs with
      | nil => exact absurd h ne
      | cons => rfl
    have e2 : (dig n.natAbs).all isD = true := all_digits.mpr ok
    rw [e1, e2]
    by_cases z : (dig n.natAbs).head? = some 48
    · have n0 : n = 0 := by
        have := (dig_head _).mp z
        omega
      subst n0
      decide
    · rw [decide_eq_false z]
      rfl
  · by_cases c : n < 0
    · rw [decide_eq_true c, if_pos rfl]
      omega
    · rw [decide_eq_false c, if_neg (by decide)]
      omega
theorem decL_sp (n : Int) (c : Nat) (h : c < 45 ∨ 57 < c) : c ∉ decL n := by
  intro hc
  have ok := (dig_ok n.natAbs).1
  unfold decL at hc
  split at hc
  · rcases List.mem_cons.mp hc with e | hc
    · omega
    · have := ok c hc; omega
  · have := ok c hc; omega
theorem decL_len {n : Int} (h : n.natAbs < 10 ^ 1000) : (decL n).length ≤ 1001 := by
  have := dig_len (k := 1000) (by decide) h
  unfold decL
  split
  · rw [List.length_cons]; omega
  · omega
theorem starts_neg (l : List Nat) : Txt.startswith (tx l) "-" = neg? l := by
  unfold Txt.startswith neg?
  cases l with
  | nil => rfl
  | cons c r =>
    have e : ("-" : Str) = tx [45] := rfl
    rw [e]
    have s := sub_one (l := c :: r) (c := 45) (i := 0) (by simp)
    rw [s]
    unfold oneAt
    rw [len_tx, len_tx, decide_eq_true (by simp)]
    simp
theorem inR_sign (c : Nat) : PyProof.Rows.inR 48 57 { cps := #[c] } = isD c := by
  unfold PyProof.Rows.inR isD
  simp only [ltCps]
  by_cases h1 : 48 ≤ c <;> by_cases h2 : c ≤ 57 <;> simp [h1, h2] <;> omega
theorem ascii_all (l : List Nat) : Txt.isascii (tx l) = l.all fun c => decide (c < 128) := by
  unfold Txt.isascii tx
  simp
theorem digit_all {l : List Nat} (h : (l.all fun c => decide (c < 128)) = true) : Txt.isdigit (tx l) = (!l.isEmpty && l.all isD) := by
  unfold Txt.isdigit
  have e : ((tx l).cps.all PySem.Unicode.isDigit) = l.all isD := by
    unfold tx
    rw [List.all_toArray]
    refine Bool.eq_iff_iff.mpr ?_
    rw [List.all_eq_true, List.all_eq_true]
    rw [List.all_eq_true] at h
    have k : ∀ c ∈ l, PySem.Unicode.isDigit c = isD c := fun c hc => by
      rw [PyProof.Rows.cls_isdigit c (of_decide_eq_true (h c hc)), inR_sign]
    exact ⟨fun g c hc => by rw [← k c hc]; exact g c hc, fun g c hc => by rw [k c hc]; exact g c hc⟩
  rw [e, len_tx]
  cases l <;> rfl
theorem isD_ascii {l : List Nat} (h : l.all isD = true) : (l.all fun c => decide (c < 128)) = true := by
  rw [List.all_eq_true] at h ⊢
  intro c hc
  have := of_decide_eq_true (h c hc)
  exact decide_eq_true (by omega)
theorem val_from (b : List Nat) : ∀ acc, List.foldl (fun acc c => acc * 10 + (c - 48)) acc b = acc * 10 ^ b.length + NumText.digitsVal b := by
  induction b with
  | nil => intro acc; simp [NumText.digitsVal]
  | cons c b ih =>
    intro acc
    unfold NumText.digitsVal
    rw [List.foldl_cons, List.foldl_cons, ih, ih (0 * 10 + (c - 48)), List.length_cons, Nat.pow_succ]
    grind
theorem val_cat (a b : List Nat) : NumText.digitsVal (a ++ b) = NumText.digitsVal a * 10 ^ b.length + NumText.digitsVal b := by
  have := val_from b (NumText.digitsVal a)
  unfold NumText.digitsVal at this ⊢
  rw [val_app, this]
theorem val_lt {l : List Nat} (h : NumText.AllDigits l) : NumText.digitsVal l < 10 ^ l.length := by
  induction l with
  | nil => simp [NumText.digitsVal]
  | cons c l ih =>
    have h1 := h c (by simp)
    have h2 := ih fun x hx => h x (by simp [hx])
    have := val_cat [c] l
    rw [List.singleton_append] at this
    rw [this, List.length_cons, Nat.pow_succ]
    have e : NumText.digitsVal [c] = c - 48 := by
      show 0 * 10 + (c - 48) = _
      omega
    rw [e]
    have : (c - 48) * 10 ^ l.length ≤ 9 * 10 ^ l.length := Nat.mul_le_mul_right _ (by omega)
    omega
theorem intS_ok {l : List Nat} (h : NumText.AllDigits l) (ne : l ≠ []) (hl : l.length ≤ 640) : bIntS [.str (tx l)] = some (.int (NumText.digitsVal l : Int)) := by
  have := PySem.intText_digits (x := tx l) h ne (by rw [len_tx]; omega)
  show (match PySem.intText? (tx l) with
    | some n => if (tx l).length ≤ 640 then some (PyData.int n) else none
    | none => none) = _
  rw [this]
  show (if (tx l).length ≤ 640 then some (PyData.int (NumText.digitsVal l : Int)) else none) = _
  rw [if_pos (by rw [len_tx]; exact hl)]
end LW
namespace LW
open PySem PySem.Spec PyProof.Rows L2 DL
def m_written (W : WD) : MS :=
  mSeq (mAsgM [1, 2] [mrOf (mC (.str "")), mrOf (mVar 0)])
  (mSeq (mIf (mT (mOp2 opLt (mVar 0) (mC (.int 0)))) (mAsgM [1, 2] [mrOf (mC (.str "-")), mrOf (mOp1 opNeg (mVar 0))]) (mNext))
  (mSeq (mAsgR 3 (mrLst (mNil)))
  (mSeq (mWhile (mT (mOp2 opGe (mVar 2) (mOp2 opPow (mC (.int 10)) (mC (.int 64))))) (mSeq (mApp 3 (mStrM opZfill (mCallB bStrI (mCons (mOp2 opMod (mVar 2) (mOp2 opPow (mC (.int 10)) (mC (.int 64)))) (mNil))) (mC (.int 64))))
  (mAsg (mOp2 opFdiv (mVar 2) (mOp2 opPow (mC (.int 10)) (mC (.int 64)))) (mgName 2))))
  (mSeq (mApp 3 (mCallB bStrI (mCons (mVar 2) (mNil))))
  (mRet (mrOf (mOp2 opAdd (mVar 1) (mStrM opJoin (mC (.str "")) (mOp1 opRev (mVar 3))))))))))
def D_written : PSpec := fun ds Q _ => ∃ n : Int, ds = [.int n] ∧ sz 4000 n ∧ Q (.va (.str (tx (decL n))))
theorem len_written : ∀ ds Q E, D_written ds Q E → ds.length = 1 := by
  rintro _ Q E ⟨n, rfl, _⟩
  rfl
theorem strI_dig {n : Nat} (h : n < 2 ^ 1900) : bStrI [.int (n : Int)] = some (.str (tx (dig n))) := by
  have lg : ((n : Int)).natAbs.log2 < 1920 := by
    rw [Int.natAbs_natCast]
    by_cases c : n = 0
    · rw [c]; decide
    · exact (Nat.log2_lt c).mpr (Nat.lt_of_lt_of_le h (Nat.pow_le_pow_right (by decide) (by decide)))
  show (if (n : Int).natAbs.log2 < 1920 then some (PyData.str (Str.ofString (toString (n : Int)))) else none) = _
  rw [if_pos lg, str_dig]
theorem p64 : (10 : Nat) ^ 64 < 2 ^ 1900 := Nat.lt_of_lt_of_le (show 10 ^ 64 < 2 ^ 220 by decide +kernel) (Nat.pow_le_pow_right (by decide) (by decide))
theorem zfill_pad {r : Nat} (h : r < 10 ^ 64) : opZfill (.str (tx (dig r))) (.int 64) = some (.str (tx (pad 64 r))) := by
  have pk : PadOk 64 = true := by decide +kernel
  show (if PadOk 64 = true then some (PyData.str (Txt.zfill (tx (dig r)) 64)) else none) = _
  rw [if_pos pk]
  have l64 := dig_len (k := 64) (by decide) h
  have zp := zero_pad (k := 64) (by decide) h
  have e : Txt.zfill (tx (dig r)) 64 = tx (pad 64 r) := by
    unfold Txt.zfill
    rw [len_tx]
    by_cases c : (64 : Int) ≤ ((dig r).length : Int)
    · rw [if_pos c]
      have : 64 - (dig r).length = 0 := by omega
      rw [this, List.replicate_zero, List.nil_append] at zp
      rw [zp]
    · rw [if_neg c]
      unfold zfilled
      obtain ⟨ok, ne⟩ := dig_ok r
      cases hd : dig r with
      | nil => exact absurd hd ne
      | cons x xs =>
        have hx := ok x (by rw [hd]; simp)
        have g : (tx (x :: xs)).cps[0]? = some x := rfl
        rw [g]
        have pd : Builtin.Str.padded (tx (x :: xs)) ((64 : Int).toNat - (x :: xs).length) 0 48 = tx (pad 64 r) := by
          refine cs_inj ?_
          rw [← hd]
          unfold Builtin.Str.padded
          rw [cs_tx, ← zp]
          simp [cs, tx]
        split
        · rename_i h; cases h; omega
        · rename_i h; cases h; omega
        · exact pd
  rw [e]
theorem rd_written : ∀ ds Q E, D_written ds Q E → m_written (fun c _ => E c) (endP Q) (slots0 4 ds) := by
  rintro _ Q E ⟨n, rfl, zn, q⟩
  unfold m_written
  have p64e : opPow (.int 10) (.int 64) = some (.int ((10 : Int) ^ 64)) := ten_pow64
  have T : (0 : Int) < 10 ^ 64 := by decide +kernel
  have zT : sz 220 ((10 : Int) ^ 64) := by unfold sz; decide +kernel
  refine seq_step fun N hN => ?_
  walk_at "rdn"
  subst hN
  refine seq_run (fun s => s = [.va (.int n), .va (.str (tx (if n < 0 then [45] else []))), .va (.int (n.natAbs : Int)), .no]) (fun N h1 => ?_) ?_
  · by_cases c : n < 0
    · refine if_run true (fun Q h => ?_) (fun _ => ?_) (fun hc => by cases hc)
      · walk_at "rdn"
        rw [decide_eq_true c]
        exact h
      · walk_at "rdn"
        refine h1 _ ?_
        rw [if_pos c, show -n = (n.natAbs : Int) by omega]
        rfl
    · refine if_run false (fun Q h => ?_) (fun hc => by cases hc) (fun _ => ?_)
      · walk_at "rdn"
        rw [decide_eq_false c]
        exact h
      · walk_at "rdn"
        refine h1 _ ?_
        rw [if_neg c, show n = (n.natAbs : Int) by omega]
        rfl
  rintro _ rfl
  refine seq_step fun N hN => ?_
  walk_at "rdn"
  subst hN
  refine seq_run (fun s => ∃ (r : Nat) (ps : List (List Nat)), s = [.va (.int n), .va (.str (tx (if n < 0 then [45] else []))), .va (.int (r : Int)), .own (ps.map fun p => .str (tx p))] ∧ r < 10 ^ 64 ∧ dig n.natAbs = dig r ++ ps.reverse.flatten ∧ ps.length ≤ 20 ∧ (∀ p ∈ ps, p.length = 64)) (fun N h1 => ?_) ?_
  · refine whileM (fun m s => ∃ (r : Nat) (ps : List (List Nat)), s = [.va (.int n), .va (.str (tx (if n < 0 then [45] else []))), .va (.int (r : Int)), .own (ps.map fun p => .str (tx p))] ∧ dig n.natAbs = dig r ++ ps.reverse.flatten ∧ r * (2 ^ 200) ^ ps.length < 2 ^ 4000 ∧ (∀ p ∈ ps, p.length = 64) ∧ r = m ∧ ps.length ≤ 20) ⟨n.natAbs, [], rfl, by simp, by simpa [sz] using zn, by simp, rfl, by simp⟩ ?_
    rintro m s N2 ⟨r, ps, rfl, hd, hb, hl, rfl, hps⟩ hN2
    walk_at "rdn"
    refine ⟨_, p64e, ?_⟩
    walk_at "rdn"
    by_cases c : (10 : Int) ^ 64 ≤ (r : Int)
    · rw [if_pos (decide_eq_true c)]
      have c' : 10 ^ 64 ≤ r := by
        have : (((10 : Nat) ^ 64 : Nat) : Int) = (10 : Int) ^ 64 := by decide +kernel
        omega
      have m1 : r % 10 ^ 64 < 10 ^ 64 := Nat.mod_lt _ (Nat.pow_pos (by decide))
      have em : (r : Int) % (10 : Int) ^ 64 = ((r % 10 ^ 64 : Nat) : Int) := by
        rw [Int.natCast_emod]
        rfl
      have ed : (r : Int) / (10 : Int) ^ 64 = ((r / 10 ^ 64 : Nat) : Int) := by
        rw [Int.natCast_ediv]
        rfl
      refine ⟨_, p64e, _, opMod_ok T, ?_⟩
      rw [em]
      refine ⟨_, strI_dig (Nat.lt_trans m1 p64), ?_⟩
      simp only [mStrM]
      walk_at "rdn"
      refine ⟨_, zfill_pad m1, by simp; omega, ?_⟩
      refine ⟨_, p64e, _, opFdiv_ok T zT (by decide), ?_⟩
      rw [ed]
      have q0 : 0 < r / 10 ^ 64 := Nat.div_pos c' (Nat.pow_pos (by decide))
      have er : r / 10 ^ 64 * 10 ^ 64 + r % 10 ^ 64 = r := by
        have := Nat.div_add_mod r (10 ^ 64)
        rw [Nat.mul_comm] at this
        exact this
      have big : 2 ^ 200 * (r / 10 ^ 64) ≤ r := by
        have : 2 ^ 200 * (r / 10 ^ 64) ≤ 10 ^ 64 * (r / 10 ^ 64) := Nat.mul_le_mul_right _ (by decide +kernel)
        have := Nat.mul_div_le r (10 ^ 64)
        omega
      have half : r / 10 ^ 64 < r := Nat.div_lt_self (by omega) (by decide +kernel)
      refine hN2 (r / 10 ^ 64) _ half ⟨r / 10 ^ 64, ps ++ [pad 64 (r % 10 ^ 64)], ?_, ?_, ?_, ?_, rfl, ?_⟩
      · rw [List.map_append]
        rfl
      · rw [hd, List.reverse_append]
        have := dig_pad (q := r / 10 ^ 64) (k := 64) (r := r % 10 ^ 64) q0 m1
        rw [er] at this
        rw [this, List.append_assoc]
        rfl
      · have e2 : (2 ^ 200) ^ (ps ++ [pad 64 (r % 10 ^ 64)]).length = (2 ^ 200) ^ ps.length * 2 ^ 200 := by rw [List.length_append]; exact Nat.pow_succ (2 ^ 200) ps.length
        rw [e2]
        have := Nat.mul_le_mul_right ((2 ^ 200) ^ ps.length) big
        have e : r / 10 ^ 64 * ((2 ^ 200) ^ ps.length * 2 ^ 200) = 2 ^ 200 * (r / 10 ^ 64) * (2 ^ 200) ^ ps.length := by simp only [Nat.mul_assoc, Nat.mul_comm, Nat.mul_left_comm]
        rw [e]
        exact Nat.lt_of_le_of_lt this hb
      · intro p hp
        rcases List.mem_append.mp hp with hp | hp
        · exact hl p hp
        · rw [List.mem_singleton.mp hp]
          exact pad_len _ _
      · rw [List.length_append, List.length_singleton]
        refine Classical.byContradiction fun z => ?_
        have r1 : 1 ≤ r := by omega
        have m1 := Nat.mul_le_mul_right ((2 ^ 200) ^ ps.length) r1
        have m2 : (2 ^ 200) ^ 20 ≤ (2 ^ 200) ^ ps.length := Nat.pow_le_pow_right (by decide) (by omega)
        have m3 : (2 ^ 200) ^ 20 = 2 ^ 4000 := by rw [← Nat.pow_mul]
        rw [m3] at m2
        rw [Nat.one_mul] at m1
        exact absurd hb (Nat.not_lt.mpr (Nat.le_trans m2 m1))
    · rw [if_neg (by simpa using c)]
      have c' : r < 10 ^ 64 := by
        have : (((10 : Nat) ^ 64 : Nat) : Int) = (10 : Int) ^ 64 := by decide +kernel
        omega
      exact h1 _ ⟨r, ps, rfl, c', hd, by omega, hl⟩
  rintro _ ⟨r, ps, rfl, hr, hd, hl, hp⟩
  refine seq_step fun N hN => ?_
  walk_at "rdn"
  refine ⟨_, strI_dig (Nat.lt_trans hr p64), by simp; omega, ?_⟩
  subst hN
  walk_at "rdn"
  have rv : (ps.map (fun p => PyData.str (tx p)) ++ [PyData.str (tx (dig r))]).reverse = ((dig r :: ps.reverse).map tx).map PyData.str := by
    rw [List.reverse_append, ← List.map_reverse, List.map_cons, List.map_cons, List.map_map]
    rfl
  simp only [mStrM]
  walk_at "rdn"
  rw [rv]
  have rl : (dig r).length ≤ 64 := dig_len (by decide) hr
  have sum : ∀ ps : List (List Nat), (∀ p ∈ ps, p.length = 64) → ((ps.map tx).map (·.length)).sum = 64 * ps.length ∧ ps.flatten.length = 64 * ps.length := by
    intro ps
    induction ps with
    | nil => intro _; exact ⟨rfl, rfl⟩
    | cons p ps ih =>
      intro h
      obtain ⟨i1, i2⟩ := ih fun x hx => h x (by simp [hx])
      have := h p (by simp)
      constructor
      · simp only [List.map_cons, List.sum_cons, len_tx, List.length_cons]
        rw [i1, this]
        omega
      · rw [List.flatten_cons, List.length_append, i2, this, List.length_cons]
        omega
  obtain ⟨s1, s2⟩ := sum ps.reverse fun p h => hp p (List.mem_reverse.mp h)
  rw [List.length_reverse] at s1 s2
  have jn : opJoin (.str "") (.list (((dig r :: ps.reverse).map tx).map .str)) = some (.str (Txt.join "" ((dig r :: ps.reverse).map tx))) := join_strs (by
    have : Str.length "" = 0 := rfl
    rw [this, List.map_cons, List.map_cons, List.sum_cons, s1, len_tx]
    omega)
  refine ⟨_, jn, ?_⟩
  have je : Txt.join "" ((dig r :: ps.reverse).map tx) = tx (dig n.natAbs) := by
    refine cs_inj ?_
    have := join_nil ((dig r :: ps.reverse).map tx)
    have e : tx [] = ("" : Str) := rfl
    rw [e] at this
    rw [this, cs_tx, hd, List.map_map]
    have : ∀ ls : List (List Nat), ls.map (cs ∘ tx) = ls := fun ls => by
      induction ls with
      | nil => rfl
      | cons a b ih => rw [List.map_cons, ih]; rfl
    rw [this, List.flatten_cons]
  rw [je]
  have hd2 := congrArg List.length hd
  rw [List.length_append, s2] at hd2
  have ad : opAdd (.str (tx (if n < 0 then [45] else []))) (.str (tx (dig n.natAbs))) = some (.str (tx (decL n))) := by
    show (if (tx (if n < 0 then [45] else [])).length + (tx (dig n.natAbs)).length ≤ 100000 then some (PyData.str (tx (if n < 0 then [45] else []) ++ tx (dig n.natAbs))) else none) = _
    rw [len_tx, len_tx, if_pos (by split <;> simp <;> omega), tx_app]
    unfold decL
    split <;> rfl
  exact ⟨_, ad, q⟩
section
variable {P : Program} {w : World} {K : PySem.W.Frag} {mg : Str → Option Value} {base : Heap} {CN : String → Option Addr}
theorem ok_written {f : Addr} {fd : FuncData} (F : Fun K "written" "written" s_written f fd) (g : G K mg CN)  : FnG P w K mg base 1 f fd ["number"] (spP K CN D_written) := by
  have sc := sc_written
  exact fun_okP (m := m_written) F sc (by decide) len_written (fun cdv A outer s H E C W hw hr tk =>
    (pds_cons (pds_par2 (ps_par2 (i := 1) (j := 2) rfl sc.nd rfl rfl (by decide) rfl rfl (pdar_cons (pdr_of pd_str) (pdar_cons (pdr_of (dv 0)) pdar_nil)) rfl))
    (pds_cons (pds_if (pdt_cmp op_lt rl_cmpI (dv 0) pd_int (nomark _)) (pds_one (pds_par2 (ps_par2 (i := 1) (j := 2) rfl sc.nd rfl rfl (by decide) rfl rfl (pdar_cons (pdr_of pd_str) (pdar_cons (pdr_of (pd_un un_neg rl_neg (dv 0))) pdar_nil)) rfl))) pds_nil)
    (pds_cons (pds_asgR (ps_set (i := 3) sc.nd rfl (.inl rfl) (pdr_lst pda_nil)))
    (pds_cons (pds_while (ps_while psw (pdt_cmp op_ge rl_cmpI (dv 2) (pd_op op_powW rl_pow pd_int pd_int) (nomark _)) (pds_cons (pds_app (ps_expr (pe_bm PySem.F.plainAttrs_list PySem.F.slot_list_append PySem.F.type_list_append mt_append (pv 3) (pa_cons (pd_zfill (pe_bm PySem.F.plainAttrs_str PySem.F.slot_str_zfill PySem.F.type_str_zfill mt_zfill (pd_callTy call_str_int rc_strI g.b_str (by decide +kernel) (pda_cons (pd_op op_mod rl_mod (dv 2) (pd_op op_powW rl_pow pd_int pd_int)) pda_nil)) (pa_cons pd_int pa_nil))) pa_nil))))
    (pds_one (pds_asg (ps_asg (pd_op op_fdivW rl_fdiv (dv 2) (pd_op op_powW rl_pow pd_int pd_int)) (dg 2 sc.nd)))))))
    (pds_cons (pds_app (ps_expr (pe_bm PySem.F.plainAttrs_list PySem.F.slot_list_append PySem.F.type_list_append mt_append (pv 3) (pa_cons (pd_callTy call_str_int rc_strI g.b_str (by decide +kernel) (pda_cons (dv 2) pda_nil)) pa_nil))))
    (pds_one (pds_ret (pdr_of (pd_op or_add rl_add (dv 1) (pd_join pd_str (pd_rev (dv 3)) (pe_bm PySem.F.plainAttrs_str PySem.F.slot_str_join PySem.F.type_str_join mt_join pd_str (pa_cons (pd_rev (dv 3)) pa_nil))))))))))))) rd_written
end
end LW
namespace LW
open PySem PySem.Spec PyProof.Rows L2 DL
def m_format_table (W : WD) : MS :=
  mSeq (mDrop (mCall D_check_table W (mCons (mVar 0) (mNil))))
  (mRet (mrOf (mStrM opJoin (mC (.str "x")) (mLc (miSeq (mVar 0)) (mgName 1) (mTYes) (mCall D_written wF (mCons (mVar 1) (mNil))) [1]))))
def D_format_table : PSpec := fun ds Q E => ∃ d, ds = [d] ∧ (isTab d = false → E "InvalidTable") ∧ (isTab d = true → ∃ x y : Int, d = .tuple [.int x, .int y] ∧ (sz 2000 x ∧ sz 2000 y) ∧ Q (.va (.str (tx (glue 120 [decL x, decL y])))))
theorem len_format_table : ∀ ds Q E, D_format_table ds Q E → ds.length = 1 := by
  rintro _ Q E ⟨d, rfl, _⟩
  rfl
theorem p1000 {k : Nat} {n : Int} (h : sz k n) (hk : k ≤ 2000) : n.natAbs < 10 ^ 1000 := by
  have : 2 ^ k ≤ 10 ^ 1000 := Nat.le_trans (Nat.pow_le_pow_right (by decide) hk) (by decide +kernel)
  exact Nat.lt_of_lt_of_le h this
theorem rd_format_table : ∀ ds Q E, D_format_table ds Q E → m_format_table (fun c _ => E c) (endP Q) (slots0 2 ds) := by
  rintro _ Q E ⟨d, rfl, q1, q2⟩
  unfold m_format_table
  refine seq_step fun N hN => ?_
  cases hd : isTab d with
  | false =>
    walk_at "rdn"
    exact ⟨d, rfl, fun h => (by rw [hd] at h; cases h), fun _ => q1 hd⟩
  | true =>
  obtain ⟨x, y, rfl, ⟨zx, zy⟩, q2⟩ := q2 hd
  walk_at "rdn"
  refine ⟨_, rfl, fun _ => ?_, fun h => (by rw [hd] at h; cases h)⟩
  subst hN
  walk_at "rdn"
  simp only [mStrM]
  walk_at "rdn"
  refine ⟨rfl, ?_⟩
  simp only [lcL, swipe]
  walk_at "rdn"
  refine ⟨x, rfl, sz_mono zx (by decide), _, rfl, by decide, y, rfl, sz_mono zy (by decide), _, rfl, by decide, ?_⟩
  have l1 := decL_len (p1000 zx (by decide))
  have l2 := decL_len (p1000 zy (by decide))
  have j := join_strs (s := "x") (ys := [tx (decL x), tx (decL y)]) (by
    simp only [List.map_cons, List.map_nil, List.sum_cons, List.sum_nil, len_tx, List.length_cons, List.length_nil]
    have : Str.length "x" = 1 := rfl
    rw [this]
    omega)
  refine ⟨_, j, ?_⟩
  have e : Txt.join "x" [tx (decL x), tx (decL y)] = tx (glue 120 [decL x, decL y]) := by
    refine cs_inj ?_
    have := join_one 120 [tx (decL x), tx (decL y)]
    have e : tx [120] = ("x" : Str) := rfl
    rw [e] at this
    rw [this]
    rfl
  rw [e]
  exact q2
section
variable {P : Program} {w : World} {K : PySem.W.Frag} {mg : Str → Option Value} {base : Heap} {CN : String → Option Addr}
theorem ok_format_table {f : Addr} {fd : FuncData} (F : Fun K "format_table" "format_table" s_format_table f fd) (g : G K mg CN) (c_check_table : CalP P w K mg base CN 4 "check_table" D_check_table) (c_written : CalP P w K mg base CN 1 "written" D_written) : FnG P w K mg base 5 f fd ["table"] (spP K CN D_format_table) := by
  have sc := sc_format_table
  exact fun_okP (m := m_format_table) F sc (by decide) len_format_table (fun cdv A outer s H E C W hw hr tk =>
    (pds_cons (pds_drop (pd_call c_check_table hr (by decide) tk (pda_cons (dv 0) pda_nil)))
    (pds_one (pds_ret (pdr_of (pd_join pd_str (pd_lc (pe_lc (own := [("number", 1)]) rfl sc.nd (pdi_seq (dv 0)) (blkOk_by (N := ["table", "number"]) (sc := (defScope s_format_table)) (by decide +kernel)) (fun _ _ _ _ _ => (dgv 1 (vs := [1]) sc.nd)) (fun _ _ _ _ _ => pdts_nil) (fun _ _ _ _ _ => (pd_call c_written hr (by decide) takesF (pda_cons (dv 1) pda_nil))))) (pe_bm PySem.F.plainAttrs_str PySem.F.slot_str_join PySem.F.type_str_join mt_join pd_str (pa_cons (pd_lc (pe_lc (own := [("number", 1)]) rfl sc.nd (pdi_seq (dv 0)) (blkOk_by (N := ["table", "number"]) (sc := (defScope s_format_table)) (by decide +kernel)) (fun _ _ _ _ _ => (dgv 1 (vs := [1]) sc.nd)) (fun _ _ _ _ _ => pdts_nil) (fun _ _ _ _ _ => (pd_call c_written hr (by decide) takesF (pda_cons (dv 1) pda_nil))))) pa_nil)))))))) rd_format_table
end
end LW
namespace LW
open PySem PySem.Spec PyProof.Rows L2 DL
def m_format_shot (W : WD) : MS :=
  mSeq (mIf (mTNot (mT (mCall D_is_any_shot W (mCons (mVar 0) (mNil))))) (mRaise "InvalidShot" W) (mNext))
  (mRet (mrOf (mStrM opJoin (mC (.str " ")) (mLc (miSeq (mVar 0)) (mgName 1) (mTYes) (mCall D_written wF (mCons (mVar 1) (mNil))) [1]))))
def D_format_shot : PSpec := fun ds Q E => ∃ d, ds = [d] ∧ (isAny d = false → E "InvalidShot") ∧ (isAny d = true → ∃ x y p q : Int, d = .tuple [.int x, .int y, .int p, .int q] ∧ (sz 2000 x ∧ sz 2000 y ∧ sz 2000 p ∧ sz 2000 q) ∧ Q (.va (.str (tx (glue 32 [decL x, decL y, decL p, decL q])))))
theorem len_format_shot : ∀ ds Q E, D_format_shot ds Q E → ds.length = 1 := by
  rintro _ Q E ⟨d, rfl, _⟩
  rfl
theorem rd_format_shot : ∀ ds Q E, D_format_shot ds Q E → m_format_shot (fun c _ => E c) (endP Q) (slots0 2 ds) := by
  rintro _ Q E ⟨d, rfl, q1, q2⟩
  unfold m_format_shot
  refine seq_step fun N hN => ?_
  cases hd : isAny d with
  | false =>
    refine if_run true (fun Q h => ?_) (fun _ => ?_) (fun hc => by cases hc)
    · walk_at "rdn"
      refine ⟨d, rfl, _, rfl, _, rfl, ?_⟩
      rw [hd]
      exact h
    · walk_at "rdn"
      exact q1 hd
  | true =>
  obtain ⟨x, y, p, q, rfl, ⟨zx, zy, zp, zq⟩, q2⟩ := q2 hd
  refine if_run false (fun Q h => ?_) (fun hc => by cases hc) (fun _ => ?_)
  · walk_at "rdn"
    refine ⟨_, rfl, _, rfl, _, rfl, ?_⟩
    rw [hd]
    exact h
  walk_at "rdn"
  subst hN
  walk_at "rdn"
  simp only [mStrM]
  walk_at "rdn"
  refine ⟨rfl, ?_⟩
  simp only [lcL, swipe]
  walk_at "rdn"
  refine ⟨x, rfl, sz_mono zx (by decide), _, rfl, by decide, y, rfl, sz_mono zy (by decide), _, rfl, by decide, p, rfl, sz_mono zp (by decide), _, rfl, by decide, q, rfl, sz_mono zq (by decide), _, rfl, by decide, ?_⟩
  have l1 := decL_len (p1000 zx (by decide))
  have l2 := decL_len (p1000 zy (by decide))
  have l3 := decL_len (p1000 zp (by decide))
  have l4 := decL_len (p1000 zq (by decide))
  have j := join_strs (s := " ") (ys := [tx (decL x), tx (decL y), tx (decL p), tx (decL q)]) (by
    simp only [List.map_cons, List.map_nil, List.sum_cons, List.sum_nil, len_tx, List.length_cons, List.length_nil]
    have : Str.length " " = 1 := rfl
    rw [this]
    omega)
  refine ⟨_, j, ?_⟩
  have e : Txt.join " " [tx (decL x), tx (decL y), tx (decL p), tx (decL q)] = tx (glue 32 [decL x, decL y, decL p, decL q]) := by
    refine cs_inj ?_
    have := join_one 32 [tx (decL x), tx (decL y), tx (decL p), tx (decL q)]
    have e : tx [32] = (" " : Str) := rfl
    rw [e] at this
    rw [this]
    rfl
  rw [e]
  exact q2
section
variable {P : Program} {w : World} {K : PySem.W.Frag} {mg : Str → Option Value} {base : Heap} {CN : String → Option Addr}
theorem ok_format_shot {f : Addr} {fd : FuncData} (F : Fun K "format_shot" "format_shot" s_format_shot f fd) (g : G K mg CN) (c_is_any_shot : CalP P w K mg base CN 3 "is_any_shot" D_is_any_shot) (c_written : CalP P w K mg base CN 1 "written" D_written) : FnG P w K mg base 4 f fd ["shot"] (spP K CN D_format_shot) := by
  obtain ⟨e_InvalidShot, n_InvalidShot, t_InvalidShot⟩ := g.x_InvalidShot
  have sc := sc_format_shot
  exact fun_okP (m := m_format_shot) F sc (by decide) len_format_shot (fun cdv A outer s H E C W hw hr tk =>
    (pds_cons (pds_if (pdt_not (pdt_val (pd_call c_is_any_shot hr (by decide) tk (pda_cons (dv 0) pda_nil)))) (pds_one (pds_raise rfl tk t_InvalidShot n_InvalidShot)) pds_nil)
    (pds_one (pds_ret (pdr_of (pd_join pd_str (pd_lc (pe_lc (own := [("number", 1)]) rfl sc.nd (pdi_seq (dv 0)) (blkOk_by (N := ["shot", "number"]) (sc := (defScope s_format_shot)) (by decide +kernel)) (fun _ _ _ _ _ => (dgv 1 (vs := [1]) sc.nd)) (fun _ _ _ _ _ => pdts_nil) (fun _ _ _ _ _ => (pd_call c_written hr (by decide) takesF (pda_cons (dv 1) pda_nil))))) (pe_bm PySem.F.plainAttrs_str PySem.F.slot_str_join PySem.F.type_str_join mt_join pd_str (pa_cons (pd_lc (pe_lc (own := [("number", 1)]) rfl sc.nd (pdi_seq (dv 0)) (blkOk_by (N := ["shot", "number"]) (sc := (defScope s_format_shot)) (by decide +kernel)) (fun _ _ _ _ _ => (dgv 1 (vs := [1]) sc.nd)) (fun _ _ _ _ _ => pdts_nil) (fun _ _ _ _ _ => (pd_call c_written hr (by decide) takesF (pda_cons (dv 1) pda_nil))))) pa_nil)))))))) rd_format_shot
end
end LW
namespace LW
open PySem PySem.Spec PyProof.Rows L2 DL
def m__number (W : WD) : MS :=
  mSeq (mAsg (mVar 0) (mgName 1))
  (mSeq (mIf (mT (mStrM opStarts (mVar 0) (mC (.str "-")))) (mAsg (mSl opSl (mVar 0) (mPart (mC (.int 1))) mNoPart) (mgName 1)) (mNext))
  (mSeq (mIf (mTOr (mTNot (mT (mStr0 opAscii (mVar 1)))) (mTOr (mTNot (mT (mStr0 opDigit (mVar 1)))) (mTAnd (mT (mOp2 opEq (mOp2 opIx (mVar 1) (mC (.int 0))) (mC (.str "0")))) (mT (mOp2 opNe (mVar 0) (mC (.str "0"))))))) (mRaise "InvalidText" W) (mNext))
  (mSeq (mAsg (mOp2 opMod (mCallB bLen (mCons (mVar 1) (mNil))) (mC (.int 64))) (mgName 2))
  (mSeq (mAsg (mCallB bIntS (mCons (mOp2 opAdd (mC (.str "0")) (mSl opSl (mVar 1) mNoPart (mPart (mVar 2)))) (mNil))) (mgName 3))
  (mSeq (mFor (miRng3 (mCons (mVar 2) (mCons (mCallB bLen (mCons (mVar 1) (mNil))) (mCons (mC (.int 64)) (mNil))))) (mgName 4) (mAsg (mOp2 opAdd (mOp2 opMul (mVar 3) (mOp2 opPow (mC (.int 10)) (mC (.int 64)))) (mCallB bIntS (mCons (mSl opSl (mVar 1) (mPart (mVar 4)) (mPart (mOp2 opAdd (mVar 4) (mC (.int 64))))) (mNil)))) (mgName 3)))
  (mSeq (mIf (mT (mOp2 opEq (mVar 1) (mVar 0))) (mRet (mrOf (mVar 3))) (mNext))
  (mRet (mrOf (mOp1 opNeg (mVar 3))))))))))
def D__number : PSpec := fun ds Q E => ∃ l : List Nat, ds = [.str (tx l)] ∧ l.length ≤ 10000 ∧ (numOk l = false → E "InvalidText") ∧ (numOk l = true → Q (.va (.int (numV l))))
theorem len__number : ∀ ds Q E, D__number ds Q E → ds.length = 1 := by
  rintro _ Q E ⟨l, rfl, _⟩
  rfl
theorem rd__number : ∀ ds Q E, D__number ds Q E → m__number (fun c _ => E c) (endP Q) (slots0 5 ds) := by
  rintro _ Q E ⟨l, rfl, hl, q1, q2⟩
  unfold m__number
  refine seq_step fun N hN => ?_
  walk_at "rdn"
  subst hN
  have sl : ∀ {lo hi : Option Int} {l : List Nat}, l.length ≤ 10000 → opSl (.str (tx l)) lo hi = some (.str (tx (DL.cutL l lo hi))) := by
    intro lo hi l h
    show (if (tx l).length ≤ 100000 then some (PyData.str ⟨(DL.cutL (tx l).cps.toList lo hi).toArray⟩) else none) = _
    rw [if_pos (by rw [len_tx]; omega)]
    rfl
  refine seq_run (fun s => s = [.va (.str (tx l)), .va (.str (tx (digs l))), .no, .no, .no]) (fun N h1 => ?_) ?_
  · refine if_run (neg? l) (fun Q h => ?_) (fun hc => ?_) (fun hc => ?_)
    · walk_at "rdn"
      simp only [mStrM]
      walk_at "rdn"
      refine ⟨_, (show opStarts (.str (tx l)) (.str "-") = some (.bool (Txt.startswith (tx l) "-")) from rfl), ?_⟩
      rw [starts_neg]
      exact ⟨_, rfl, h⟩
    · walk_at "rdn"
      refine ⟨_, sl hl, ?_⟩
      have : DL.cutL l (some (1 : Int)) none = l.tail := by
        have := cutL_from (xs := l) (n := 1)
        rw [List.drop_one] at this
        exact this
      rw [this]
      refine h1 _ ?_
      unfold digs
      rw [if_pos hc]
    · walk_at "rdn"
      refine h1 _ ?_
      unfold digs
      rw [if_neg (by rw [hc]; decide)]
  rintro _ rfl
  have dl : (digs l).length ≤ l.length := by
    unfold digs
    split
    · rw [List.length_tail]; omega
    · exact Nat.le_refl _
  have eqw : (decide (tx (digs l) = tx l)) = !neg? l := by
    unfold digs
    by_cases c : neg? l = true
    · rw [if_pos c, c]
      refine decide_eq_false fun z => ?_
      have z := tx_inj z
      have := congrArg List.length z
      rw [List.length_tail] at this
      unfold neg? at c
      have c := of_decide_eq_true c
      cases l with
      | nil => cases c
      | cons => simp at this
    · rw [if_neg c]
      have : neg? l = false := by simpa using c
      rw [this]
      exact decide_eq_true rfl
  generalize hg : digs l = g at *
  have ok : numOk l = (!g.isEmpty && g.all isD && !(decide (g.head? = some 48) && !decide (l = [48]))) := by
    unfold numOk
    rw [hg]
  refine seq_step fun N hN => ?_
  refine if_run (!numOk l) (fun Q h => ?_) (fun hc => ?_) (fun hc => ?_)
  · walk_at "rdn"
    simp only [mStr0]
    walk_at "rdn"
    refine ⟨_, (show opAscii (.str (tx g)) = some (.bool (Txt.isascii (tx g))) from rfl), _, rfl, ?_⟩
    rw [ascii_all]
    by_cases a : (g.all fun c => decide (c < 128)) = true
    · rw [a, if_neg (by decide)]
      refine ⟨_, (show opDigit (.str (tx g)) = some (.bool (Txt.isdigit (tx g))) from rfl), _, rfl, ?_⟩
      rw [digit_all a]
      by_cases b : (!g.isEmpty && g.all isD) = true
      · rw [b, if_neg (by decide)]
        rw [b] at ok
        cases g with
        | nil => cases b
        | cons c r =>
          refine ⟨.str (tx [c]), ?_, ?_⟩
          · show (if (tx (c :: r)).length ≤ 100000 then (DL.atI (tx (c :: r)).cps.toList 0).map fun c => PyData.str ⟨#[c]⟩ else none) = _
            rw [if_pos (by rw [len_tx]; omega)]
            show (DL.atI (c :: r) 0).map _ = _
            rw [atI0]
            rfl
          walk_at "rdn"
          have e1 : decide (tx [c] = ("0" : Str)) = decide ((c :: r).head? = some 48) := by
            have : ("0" : Str) = tx [48] := rfl
            rw [this]
            by_cases z : c = 48
            · subst z; simp
            · rw [decide_eq_false (fun k => z (by have := tx_inj k; simpa using this)), decide_eq_false (by simpa using z)]
          have e2 : decide (tx l = ("0" : Str)) = decide (l = [48]) := by
            have : ("0" : Str) = tx [48] := rfl
            rw [this]
            by_cases z : l = [48]
            · subst z; simp
            · rw [decide_eq_false (fun k => z (tx_inj k)), decide_eq_false z]
          rw [e1]
          by_cases z : (c :: r).head? = some 48
          · rw [if_pos (decide_eq_true z)]
            rw [e2]
            rw [ok, decide_eq_true z] at h
            simpa using h
          · rw [if_neg (by simpa using z)]
            rw [ok, decide_eq_false z] at h
            exact h
      · have b : (!g.isEmpty && g.all isD) = false := by simpa using b
        rw [b, if_pos (by decide)]
        rw [ok, b] at h
        exact h
    · have na : ¬ g.all isD = true := fun z => a (isD_ascii z)
      have na : g.all isD = false := by simpa using na
      have a : (g.all fun c => decide (c < 128)) = false := by simpa using a
      rw [a, if_pos (by decide)]
      rw [ok, na, Bool.and_false, Bool.false_and] at h
      exact h
  · walk_at "rdn"
    exact q1 (by simpa using hc)
  have hok : numOk l = true := by simpa using hc
  have q := q2 hok
  rw [hok] at ok
  have ok := ok.symm
  simp only [Bool.and_eq_true] at ok
  obtain ⟨⟨k1, k2⟩, -⟩ := ok
  have ad : NumText.AllDigits g := all_digits.mp k2
  have ne : g ≠ [] := by
    rintro rfl
    cases k1
  have bl : bLen [.str (tx g)] = some (.int (g.length : Int)) := by
    show (if (tx g).length ≤ 100000 then some (PyData.int ((tx g).length : Int)) else none) = _
    rw [if_pos (by rw [len_tx]; omega), len_tx]
  walk_at "rdn"
  subst hN
  refine seq_step fun N hN => ?_
  walk_at "rdn"
  refine ⟨_, bl, _, opMod_ok (by decide), ?_⟩
  try walk_at "rdn"
  subst hN
  obtain ⟨f, hf, f64⟩ : ∃ f : Nat, (g.length : Int) % 64 = f ∧ f = g.length % 64 := ⟨g.length % 64, by omega, rfl⟩
  rw [hf]
  have adt : ∀ (n m : Nat), NumText.AllDigits ((g.drop n).take m) := fun n m c hc => ad c (List.mem_of_mem_drop (List.mem_of_mem_take hc))
  refine seq_step fun N hN => ?_
  walk_at "rdn"
  refine ⟨_, sl (by omega), ?_⟩
  rw [cutL_to]
  have a0 : opAdd (.str "0") (.str (tx (g.take f))) = some (.str (tx (48 :: g.take f))) := by
    show (if Str.length "0" + (tx (g.take f)).length ≤ 100000 then some (PyData.str ("0" ++ tx (g.take f))) else none) = _
    have e0 : Str.length "0" = 1 := rfl
    rw [e0, len_tx, List.length_take, if_pos (by omega)]
    have : ("0" : Str) = tx [48] := rfl
    rw [this, tx_app]
    rfl
  refine ⟨_, a0, ?_⟩
  have v0 : NumText.digitsVal (48 :: g.take f) = NumText.digitsVal (g.take f) := by
    have := val_cat [48] (g.take f)
    rw [List.singleton_append] at this
    rw [this]
    show 0 * _ + _ = _
    omega
  refine ⟨_, intS_ok (l := 48 :: g.take f) (fun c hc => by
    rcases List.mem_cons.mp hc with rfl | hc
    · omega
    · exact ad c (List.mem_of_mem_take hc)) (by simp) (by rw [List.length_cons, List.length_take]; omega), ?_⟩
  rw [v0]
  try walk_at "rdn"
  subst hN
  have p64 : opPow (.int 10) (.int 64) = some (.int ((10 : Int) ^ 64)) := ten_pow64
  have zT : sz 220 ((10 : Int) ^ 64) := by unfold sz; decide +kernel
  have c64 : ((10 ^ 64 : Nat) : Int) = (10 : Int) ^ 64 := by decide +kernel
  have zv : ∀ n : Nat, sz 40000 (NumText.digitsVal (g.take n) : Int) := by
    intro n
    have h1 := val_lt (l := g.take n) fun c hc => ad c (List.mem_of_mem_take hc)
    have h2 : 10 ^ (g.take n).length ≤ 10 ^ 10000 := Nat.pow_le_pow_right (by decide) (by rw [List.length_take]; omega)
    have h3 : 10 ^ 10000 ≤ 2 ^ 40000 := by
      have : (10 : Nat) ^ 10000 ≤ 16 ^ 10000 := Nat.pow_le_pow_left (by decide) _
      have e : (16 : Nat) ^ 10000 = 2 ^ 40000 := by
        have : (16 : Nat) = 2 ^ 4 := rfl
        rw [this, ← Nat.pow_mul]
      omega
    unfold sz
    rw [Int.natAbs_natCast]
    exact Nat.lt_of_lt_of_le h1 (Nat.le_trans h2 h3)
  refine seq_run (fun s => ∃ x2 x4, s = [.va (.str (tx l)), .va (.str (tx g)), x2, .va (.int (NumText.digitsVal g : Int)), x4]) (fun N h1 => ?_) ?_
  · simp only [mFor, miRng3]
    walk_at "rdn"
    refine ⟨_, bl, ?_⟩
    obtain ⟨n, hn, hgl⟩ : ∃ n : Nat, (if (f : Int) < (g.length : Int) then ((g.length : Int) - f - 1) / 64 + 1 else 0) = (n : Int) ∧ g.length = f + 64 * n := by
      refine ⟨g.length / 64, ?_, by omega⟩
      split <;> omega
    refine ⟨_, _, _, ⟨rfl, rfl, rfl⟩, ⟨by decide, by decide, by omega, by omega, by omega, by omega⟩, n, hn, ?_⟩
    refine forL_run (fun rr s => ∃ (i : Nat) (x2 x4 : S), rr = (List.range' i (n - i)).map (fun i : Nat => PyData.int ((f : Int) + (i : Int) * 64)) ∧ i ≤ n ∧ s = [.va (.str (tx l)), .va (.str (tx g)), x2, .va (.int (NumText.digitsVal (g.take (f + 64 * i)) : Int)), x4]) ?_ ?_ _ _ ⟨0, _, _, ?_, by omega, rfl⟩
    · rintro d rr s N' ⟨i, x2, x4, hr, hi, rfl⟩ hN'
      by_cases c : i = n
      · rw [c, Nat.sub_self] at hr
        cases hr
      · have e : n - i = (n - (i + 1)) + 1 := by omega
        rw [e, List.range'_succ, List.map_cons] at hr
        simp only [List.cons.injEq] at hr
        obtain ⟨rfl, rfl⟩ := hr
        simp only [mgName, sset]
        walk_at "rdn"
        refine ⟨_, p64, _, opMul_ok (zv _) zT (by decide), ?_⟩
        try walk_at "rdn"
        refine ⟨_, sl (by omega), ?_⟩
        have e1 : (f : Int) + (i : Int) * 64 = ((f + 64 * i : Nat) : Int) := by omega
        have e2 : ((f + 64 * i : Nat) : Int) + 64 = ((f + 64 * i + 64 : Nat) : Int) := by omega
        rw [e1, e2, cutL_mid, show f + 64 * i + 64 - (f + 64 * i) = 64 by omega]
        have ln : ((g.drop (f + 64 * i)).take 64).length = 64 := by rw [List.length_take, List.length_drop]; omega
        refine ⟨_, intS_ok (adt _ _) (fun z => by rw [z] at ln; cases ln) (by omega), ?_⟩
        have vv : NumText.digitsVal (g.take (f + 64 * (i + 1))) = NumText.digitsVal (g.take (f + 64 * i)) * 10 ^ 64 + NumText.digitsVal ((g.drop (f + 64 * i)).take 64) := by
          have := val_cat (g.take (f + 64 * i)) ((g.drop (f + 64 * i)).take 64)
          rw [ln] at this
          rw [← this, show f + 64 * (i + 1) = (f + 64 * i) + 64 by omega, List.take_add]
        have vi : (NumText.digitsVal (g.take (f + 64 * i)) : Int) * (10 : Int) ^ 64 + (NumText.digitsVal ((g.drop (f + 64 * i)).take 64) : Int) = ((NumText.digitsVal (g.take (f + 64 * (i + 1))) : Nat) : Int) := by
          rw [vv, Int.natCast_add, Int.natCast_mul, c64]
        try walk_at "rdn"
        rw [vi]
        exact hN' _ ⟨i + 1, _, _, rfl, by omega, rfl⟩
    · rintro s ⟨i, x2, x4, hr, hi, rfl⟩
      have : i = n := by
        refine Classical.byContradiction fun z => ?_
        have e : n - i = (n - (i + 1)) + 1 := by omega
        rw [e, List.range'_succ] at hr
        cases hr
      subst this
      refine h1 _ ⟨x2, x4, ?_⟩
      rw [List.take_of_length_le (by omega)]
    · rw [Nat.sub_zero]
      unfold rangeC
      rw [List.range_eq_range']
  rintro _ ⟨x2, x4, rfl⟩
  refine seq_step fun N hN => ?_
  have qv : numV l = if neg? l = true then -(NumText.digitsVal g : Int) else (NumText.digitsVal g : Int) := by
    unfold numV
    rw [hg]
  refine if_run (!neg? l) (fun Q h => ?_) (fun hc => ?_) (fun hc => ?_)
  · walk_at "rdn"
    rw [eqw]
    exact h
  · walk_at "rdn"
    rw [qv, if_neg (by simpa using hc)] at q
    exact q
  · walk_at "rdn"
    subst hN
    walk_at "rdn"
    rw [qv, if_pos (by simpa using hc)] at q
    exact q
section
variable {P : Program} {w : World} {K : PySem.W.Frag} {mg : Str → Option Value} {base : Heap} {CN : String → Option Addr}
theorem ok__number {f : Addr} {fd : FuncData} (F : Fun K "_number" "_number" s__number f fd) (g : G K mg CN)  : FnG P w K mg base 1 f fd ["word"] (spP K CN D__number) := by
  obtain ⟨e_InvalidText, n_InvalidText, t_InvalidText⟩ := g.x_InvalidText
  have sc := sc__number
  exact fun_okP (m := m__number) F sc (by decide) len__number (fun cdv A outer s H E C W hw hr tk =>
    (pds_cons (pds_asg (ps_asg (dv 0) (dg 1 sc.nd)))
    (pds_cons (pds_if (pdt_val (pd_starts (pe_bm PySem.F.plainAttrs_str PySem.F.slot_str_startswith PySem.F.type_str_startswith mt_startswith (dv 0) (pa_cons pd_str pa_nil)))) (pds_one (pds_asg (ps_asg (pd_slA (dv 0) pd_int) (dg 1 sc.nd)))) pds_nil)
    (pds_cons (pds_if (pdt_ofw (pdw_or (pdt_not (pdt_val (pd_ascii (pe_bm0 PySem.F.plainAttrs_str PySem.F.slot_str_isascii PySem.F.type_str_isascii mt_isascii (dv 1))))) (pdw_or (pdt_not (pdt_val (pd_digit (pe_bm0 PySem.F.plainAttrs_str PySem.F.slot_str_isdigit PySem.F.type_str_isdigit mt_isdigit (dv 1))))) (pdw_or1 (pdt_ofw (pdw_and (pdt_cmp (or_eqD (RoomG.u64 hr)) rl_eq (pd_ix ix_seq rl_ix (dv 1) pd_int) pd_str (nomark _)) (pdw_and1 (pdt_cmp (or_neD (RoomG.u64 hr)) rl_ne (dv 0) pd_str (nomark _))))))))) (pds_one (pds_raise rfl tk t_InvalidText n_InvalidText)) pds_nil)
    (pds_cons (pds_asg (ps_asg (pd_op op_mod rl_mod (pd_callB cr_len rc_len g.b_len (by decide +kernel) (pda_cons (dv 1) pda_nil)) pd_int) (dg 2 sc.nd)))
    (pds_cons (pds_asg (ps_asg (pd_callTy call_int_str rc_intS g.b_int (by decide +kernel) (pda_cons (pd_op or_add rl_add pd_str (pd_slB (dv 1) (dv 2))) pda_nil)) (dg 3 sc.nd)))
    (pds_cons (pds_for (ps_for psw rfl (d_range3 g.b_range (pda_cons (dv 2) (pda_cons (pd_callB cr_len rc_len g.b_len (by decide +kernel) (pda_cons (dv 1) pda_nil)) (pda_cons pd_int pda_nil)))) (dg 4 sc.nd) (pds_one (pds_asg (ps_asg (pd_op or_add rl_add (pd_op or_mul rl_mul (dv 3) (pd_op op_powW rl_pow pd_int pd_int)) (pd_callTy call_int_str rc_intS g.b_int (by decide +kernel) (pda_cons (pd_sl2 (dv 1) (dv 4) (pd_op or_add rl_add (dv 4) pd_int)) pda_nil))) (dg 3 sc.nd))))))
    (pds_cons (pds_if (pdt_cmp (or_eqD (RoomG.u64 hr)) rl_eq (dv 1) (dv 0) (nomark _)) (pds_one (pds_ret (pdr_of (dv 3)))) pds_nil)
    (pds_one (pds_ret (pdr_of (pd_un un_neg rl_neg (dv 3))))))))))))) rd__number
end
end LW
namespace LW
open PySem PySem.Spec PyProof.Rows L2 DL
theorem spl_small {c : Nat} : ∀ l : List Nat, (spl c l).length ≤ l.length + 1 ∧ ∀ w ∈ spl c l, w.length ≤ l.length := by
  intro l
  induction l with
  | nil => exact ⟨by simp [spl], fun w hw => by simp [spl] at hw; simp [hw]⟩
  | cons x l ih =>
    obtain ⟨h1, h2⟩ := ih
    unfold spl
    split
    · refine ⟨by simp only [List.length_cons]; omega, fun w hw => ?_⟩
      rcases List.mem_cons.mp hw with rfl | hw
      · simp
      · have := h2 w hw
        simp only [List.length_cons]; omega
    · cases hs : spl c l with
      | nil => exact absurd hs (spl_ne c l)
      | cons y r =>
        rw [hs] at h1 h2
        simp only [List.length_cons] at h1 ⊢
        refine ⟨by omega, fun w hw => ?_⟩
        rcases List.mem_cons.mp hw with rfl | hw
        · have := h2 y (by simp)
          simp only [List.length_cons]; omega
        · have := h2 w (by simp [hw])
          omega
/-- the numbers between the signs, where they make what is good -/
def rd31 (c : Nat) (good : PyData → Bool) (l : List Nat) : Option PyData :=
  if ((spl c l).all numOk && good (.tuple ((spl c l).map fun w => .int (numV w)))) = true then some (.tuple ((spl c l).map fun w => .int (numV w))) else none
def ans31 : Option PyData → PyData
  | some d => d
  | none => .list [.str "text"]
def ornN : Option PyData → PyData
  | some d => d
  | none => .none
end LW
namespace LW
open PySem PySem.Spec PyProof.Rows L2 DL
def m__numbers (W : WD) : MS :=
  mRet (mrOf (mCallB bTup (mCons (mLc (miSeq (mVar 0)) (mgName 1) (mTYes) (mCall D__number (anyW W) (mCons (mVar 1) (mNil))) [1]) mNil)))
def D__numbers : PSpec := fun ds Q E => ∃ ws : List (List Nat), ds = [.list (ws.map fun w => .str (tx w))] ∧ ws.length ≤ 1000 ∧ (∀ w ∈ ws, w.length ≤ 10000) ∧ (ws.all numOk = false → E "InvalidText") ∧ (ws.all numOk = true → Q (.va (.tuple (ws.map fun w => .int (numV w)))))
theorem len__numbers : ∀ ds Q E, D__numbers ds Q E → ds.length = 1 := by
  rintro _ Q E ⟨ws, rfl, _⟩
  rfl
theorem rd__numbers : ∀ ds Q E, D__numbers ds Q E → m__numbers (fun c _ => E c) (endP Q) (slots0 2 ds) := by
  rintro _ Q E ⟨ws, rfl, hl, hw, q1, q2⟩
  unfold m__numbers
  walk_at "rdn"
  refine ⟨rfl, ?_⟩
  have go : ∀ (us : List (List Nat)) (acc : List (List Nat)) (x : S), acc.all numOk = true → acc ++ us = ws → lcL (mgName 1) mTYes (mCall D__number (anyW fun c _ => E c) (mCons (mVar 1) mNil)) [1] (fun out s' => Q (.va (.tuple out))) (us.map fun w => .str (tx w)) [.va (.list (ws.map fun w => .str (tx w))), x] (acc.map fun w => .int (numV w)) := by
    intro us
    induction us with
    | nil =>
      intro acc x ha e
      rw [List.append_nil] at e
      subst e
      exact q2 ha
    | cons u us ih =>
      intro acc x ha e
      have hu : u ∈ ws := by rw [← e]; simp
      simp only [List.map_cons, lcL, swipe, mgName, sset, mTYes, if_true, mCall, mCons, mNil, mVar, sget, anyW]
      refine ⟨u, rfl, hw u hu, fun h => ?_, fun h => ⟨_, rfl, ?_, ?_⟩⟩
      · intro _
        refine q1 ?_
        rw [← e, List.all_append, List.all_cons, h, Bool.false_and, Bool.and_false]
      · have : acc.length ≤ ws.length := by rw [← e]; simp
        rw [List.length_map]
        omega
      · have := ih (acc ++ [u]) (.va (.str (tx u))) (by rw [List.all_append, ha]; simp [h]) (by rw [← e]; simp)
        rw [List.map_append] at this
        exact this
  exact go ws [] .no rfl rfl
section
variable {P : Program} {w : World} {K : PySem.W.Frag} {mg : Str → Option Value} {base : Heap} {CN : String → Option Addr}
theorem ok__numbers {f : Addr} {fd : FuncData} (F : Fun K "_numbers" "_numbers" s__numbers f fd) (g : G K mg CN) (c__number : CalP P w K mg base CN 1 "_number" D__number) : FnG P w K mg base 2 f fd ["words"] (spP K CN D__numbers) := by
  have sc := sc__numbers
  exact fun_okP (m := m__numbers) F sc (by decide) len__numbers (fun cdv A outer s H E C W hw hr tk =>
    (pds_one (pds_ret (pdr_of (pd_tupOf g.b_tuple (pd_lc (pe_lcE (own := [("word", 1)]) rfl rfl tk rfl sc.nd (pdi_seq (dv 0)) (blkOk_by (N := ["words", "word"]) (sc := (defScope s__numbers)) (by decide +kernel)) (fun _ _ _ _ _ => (dgv 1 (vs := [1]) sc.nd)) (fun _ _ _ _ _ => pdts_nil) (fun _ _ _ _ _ => (pd_callX c__number hr (by decide) passX (pda_cons (dv 1) pda_nil)))))))))) rd__numbers
end
end LW
namespace LW
open PySem PySem.Spec PyProof.Rows L2 DL
def m__words (W : WD) : MS :=
  mSeq (mIf (mTNot (mT (mOp1 (bIsi [.kStr]) (mVar 0)))) (mRaise "InvalidText" W) (mNext))
  (mRet (mrOf (mStrM opSplit (mVar 0) (mVar 1))))
def isTx : PyData → Bool
  | .str _ => true
  | _ => false
def D__words : PSpec := fun ds Q E => ∃ (d : PyData) (c : Nat), ds = [d, .str (tx [c])] ∧ c < 256 ∧ (isTx d = false → E "InvalidText") ∧ (∀ z, d = .str z → z.length ≤ 100000 ∧ Q (.va (.list ((spl c (cs z)).map fun w => .str (tx w)))))
theorem len__words : ∀ ds Q E, D__words ds Q E → ds.length = 2 := by
  rintro _ Q E ⟨d, c, rfl, _⟩
  rfl
theorem rd__words : ∀ ds Q E, D__words ds Q E → m__words (fun c _ => E c) (endP Q) (slots0 2 ds) := by
  rintro _ Q E ⟨d, c, rfl, hc, q1, q2⟩
  unfold m__words
  cases d with
  | str z =>
    obtain ⟨hz, q⟩ := q2 z rfl
    walk_at "rdn"
    simp only [mStrM]
    walk_at "rdn"
    have h : opSplit (.str z) (.str (tx [c])) = some (.list ((Txt.split z (tx [c])).map .str)) := by
      show (if ((tx [c]).length == 0) = false ∧ z.length + 2 ≤ sizeLine then some (PyData.list ((Txt.split z (tx [c])).map .str)) else none) = _
      rw [if_pos ⟨rfl, by show z.length + 2 ≤ 2 ^ 24; omega⟩]
    refine ⟨_, h, ?_⟩
    have s := split_one (cs z) c hc
    rw [tx_cs] at s
    have e : (Txt.split z (tx [c])).map PyData.str = (spl c (cs z)).map fun w => .str (tx w) := by
      rw [← s, List.map_map]
      refine List.map_congr_left fun w _ => ?_
      show PyData.str w = .str (tx (cs w))
      rw [tx_cs]
    rw [e]
    exact q
  | _ =>
    walk_at "rdn"
    exact q1 rfl
section
variable {P : Program} {w : World} {K : PySem.W.Frag} {mg : Str → Option Value} {base : Heap} {CN : String → Option Addr}
theorem ok__words {f : Addr} {fd : FuncData} (F : Fun K "_words" "_words" s__words f fd) (g : G K mg CN)  : FnG P w K mg base 1 f fd ["text", "sign"] (spP K CN D__words) := by
  obtain ⟨e_InvalidText, n_InvalidText, t_InvalidText⟩ := g.x_InvalidText
  have sc := sc__words
  exact fun_okP (m := m__words) F sc (by decide) len__words (fun cdv A outer s H E C W hw hr tk =>
    (pds_cons (pds_if (pdt_not (pdt_val (pd_isi1 .kStr g.b_isinstance g.b_str (dv 0)))) (pds_one (pds_raise rfl tk t_InvalidText n_InvalidText)) pds_nil)
    (pds_one (pds_ret (pdr_of (pd_split (pe_bm PySem.F.plainAttrs_str PySem.F.slot_str_split PySem.F.type_str_split mt_split (dv 0) (pa_cons (dv 1) pa_nil)))))))) rd__words
end
end LW
namespace LW
open PySem PySem.Spec PyProof.Rows L2 DL
def m_parse_table (W : WD) : MS :=
  mSeq (mAsg (mCall D__numbers W (mCons (mCall D__words W (mCons (mVar 0) (mCons (mC (.str "x")) (mNil)))) (mNil))) (mgName 1))
  (mSeq (mIf (mTNot (mT (mCall D_is_table W (mCons (mVar 1) (mNil))))) (mRaise "InvalidText" W) (mNext))
  (mRet (mrOf (mVar 1))))
def D_parse_table : PSpec := fun ds Q E => ∃ d, ds = [d] ∧ (isTx d = false → E "InvalidText") ∧ ∀ z : Str, d = .str z → z.length ≤ 900 ∧ (rd31 120 isTab (cs z) = none → E "InvalidText") ∧ ∀ r, rd31 120 isTab (cs z) = some r → Q (.va r)
theorem len_parse_table : ∀ ds Q E, D_parse_table ds Q E → ds.length = 1 := by
  rintro _ Q E ⟨d, rfl, _⟩
  rfl
theorem rd_parse_table : ∀ ds Q E, D_parse_table ds Q E → m_parse_table (fun c _ => E c) (endP Q) (slots0 2 ds) := by
  rintro _ Q E ⟨d, rfl, q1, q2⟩
  unfold m_parse_table
  refine seq_step fun N hN => ?_
  walk_at "rdn"
  refine ⟨d, 120, rfl, by decide, q1, fun z e => ?_⟩
  obtain ⟨hz, q3, q4⟩ := q2 z e
  obtain ⟨s1, s2⟩ := spl_small (c := 120) (cs z)
  rw [len_cs] at s1 s2
  refine ⟨by omega, _, rfl, _, rfl, by omega, fun w hw => by have := s2 w hw; omega, fun h => q3 ?_, fun h => ?_⟩
  · unfold rd31
    rw [h]
    rfl
  refine ⟨_, rfl, ?_⟩
  subst hN
  cases hg : isTab (.tuple ((spl 120 (cs z)).map fun w => .int (numV w))) with
  | false =>
    refine seq_step fun N hN => ?_
    refine if_run true (fun Q h => ?_) (fun _ => ?_) (fun hc => by cases hc)
    · walk_at "rdn"
      refine ⟨_, rfl, _, rfl, _, rfl, ?_⟩
      rw [hg]
      exact h
    walk_at "rdn"
    exact q3 (by unfold rd31; rw [h, hg]; rfl)
  | true =>
    refine seq_step fun N hN => ?_
    refine if_run false (fun Q h => ?_) (fun hc => by cases hc) (fun _ => ?_)
    · walk_at "rdn"
      refine ⟨_, rfl, _, rfl, _, rfl, ?_⟩
      rw [hg]
      exact h
    walk_at "rdn"
    subst hN
    walk_at "rdn"
    exact q4 _ (by unfold rd31; rw [h, hg]; rfl)
section
variable {P : Program} {w : World} {K : PySem.W.Frag} {mg : Str → Option Value} {base : Heap} {CN : String → Option Addr}
theorem ok_parse_table {f : Addr} {fd : FuncData} (F : Fun K "parse_table" "parse_table" s_parse_table f fd) (g : G K mg CN) (c__numbers : CalP P w K mg base CN 2 "_numbers" D__numbers) (c__words : CalP P w K mg base CN 1 "_words" D__words) (c_is_table : CalP P w K mg base CN 3 "is_table" D_is_table) : FnG P w K mg base 4 f fd ["text"] (spP K CN D_parse_table) := by
  obtain ⟨e_InvalidText, n_InvalidText, t_InvalidText⟩ := g.x_InvalidText
  have sc := sc_parse_table
  exact fun_okP (m := m_parse_table) F sc (by decide) len_parse_table (fun cdv A outer s H E C W hw hr tk =>
    (pds_cons (pds_asg (ps_asg (pd_call c__numbers hr (by decide) tk (pda_cons (pd_call c__words hr (by decide) tk (pda_cons (dv 0) (pda_cons pd_str pda_nil))) pda_nil)) (dg 1 sc.nd)))
    (pds_cons (pds_if (pdt_not (pdt_val (pd_call c_is_table hr (by decide) tk (pda_cons (dv 1) pda_nil)))) (pds_one (pds_raise rfl tk t_InvalidText n_InvalidText)) pds_nil)
    (pds_one (pds_ret (pdr_of (dv 1))))))) rd_parse_table
end
end LW
namespace LW
open PySem PySem.Spec PyProof.Rows L2 DL
def m_parse_shot (W : WD) : MS :=
  mSeq (mAsg (mCall D__numbers W (mCons (mCall D__words W (mCons (mVar 0) (mCons (mC (.str " ")) (mNil)))) (mNil))) (mgName 1))
  (mSeq (mIf (mTNot (mT (mCall D_is_any_shot W (mCons (mVar 1) (mNil))))) (mRaise "InvalidText" W) (mNext))
  (mRet (mrOf (mVar 1))))
def D_parse_shot : PSpec := fun ds Q E => ∃ d, ds = [d] ∧ (isTx d = false → E "InvalidText") ∧ ∀ z : Str, d = .str z → z.length ≤ 900 ∧ (rd31 32 isAny (cs z) = none → E "InvalidText") ∧ ∀ r, rd31 32 isAny (cs z) = some r → Q (.va r)
theorem len_parse_shot : ∀ ds Q E, D_parse_shot ds Q E → ds.length = 1 := by
  rintro _ Q E ⟨d, rfl, _⟩
  rfl
theorem rd_parse_shot : ∀ ds Q E, D_parse_shot ds Q E → m_parse_shot (fun c _ => E c) (endP Q) (slots0 2 ds) := by
  rintro _ Q E ⟨d, rfl, q1, q2⟩
  unfold m_parse_shot
  refine seq_step fun N hN => ?_
  walk_at "rdn"
  refine ⟨d, 32, rfl, by decide, q1, fun z e => ?_⟩
  obtain ⟨hz, q3, q4⟩ := q2 z e
  obtain ⟨s1, s2⟩ := spl_small (c := 32) (cs z)
  rw [len_cs] at s1 s2
  refine ⟨by omega, _, rfl, _, rfl, by omega, fun w hw => by have := s2 w hw; omega, fun h => q3 ?_, fun h => ?_⟩
  · unfold rd31
    rw [h]
    rfl
  refine ⟨_, rfl, ?_⟩
  subst hN
  cases hg : isAny (.tuple ((spl 32 (cs z)).map fun w => .int (numV w))) with
  | false =>
    refine seq_step fun N hN => ?_
    refine if_run true (fun Q h => ?_) (fun _ => ?_) (fun hc => by cases hc)
    · walk_at "rdn"
      refine ⟨_, rfl, _, rfl, _, rfl, ?_⟩
      rw [hg]
      exact h
    walk_at "rdn"
    exact q3 (by unfold rd31; rw [h, hg]; rfl)
  | true =>
    refine seq_step fun N hN => ?_
    refine if_run false (fun Q h => ?_) (fun hc => by cases hc) (fun _ => ?_)
    · walk_at "rdn"
      refine ⟨_, rfl, _, rfl, _, rfl, ?_⟩
      rw [hg]
      exact h
    walk_at "rdn"
    subst hN
    walk_at "rdn"
    exact q4 _ (by unfold rd31; rw [h, hg]; rfl)
section
variable {P : Program} {w : World} {K : PySem.W.Frag} {mg : Str → Option Value} {base : Heap} {CN : String → Option Addr}
theorem ok_parse_shot {f : Addr} {fd : FuncData} (F : Fun K "parse_shot" "parse_shot" s_parse_shot f fd) (g : G K mg CN) (c__numbers : CalP P w K mg base CN 2 "_numbers" D__numbers) (c__words : CalP P w K mg base CN 1 "_words" D__words) (c_is_any_shot : CalP P w K mg base CN 3 "is_any_shot" D_is_any_shot) : FnG P w K mg base 4 f fd ["text"] (spP K CN D_parse_shot) := by
  obtain ⟨e_InvalidText, n_InvalidText, t_InvalidText⟩ := g.x_InvalidText
  have sc := sc_parse_shot
  exact fun_okP (m := m_parse_shot) F sc (by decide) len_parse_shot (fun cdv A outer s H E C W hw hr tk =>
    (pds_cons (pds_asg (ps_asg (pd_call c__numbers hr (by decide) tk (pda_cons (pd_call c__words hr (by decide) tk (pda_cons (dv 0) (pda_cons pd_str pda_nil))) pda_nil)) (dg 1 sc.nd)))
    (pds_cons (pds_if (pdt_not (pdt_val (pd_call c_is_any_shot hr (by decide) tk (pda_cons (dv 1) pda_nil)))) (pds_one (pds_raise rfl tk t_InvalidText n_InvalidText)) pds_nil)
    (pds_one (pds_ret (pdr_of (dv 1))))))) rd_parse_shot
end
end LW
namespace LW
open PySem PySem.Spec PyProof.Rows L2 DL
def m__law_same (D0 : PSpec) (W : WD) : MS :=
  mSeq (mIf (mTOr (mT (mOp1 (bIsi [.kBool]) (mVar 0))) (mT (mOp1 (bIsi [.kBool]) (mVar 1)))) (mRet (mrOf (mAnd (mOp1 (bIsi [.kBool]) (mVar 0)) (mAnd (mOp1 (bIsi [.kBool]) (mVar 1)) (mOp2 opEq (mVar 0) (mVar 1)))))) (mNext))
  (mSeq (mIf (mT (mOp2 opNe (mOp1 (bIsi [.kLst]) (mVar 0)) (mOp1 (bIsi [.kLst]) (mVar 1)))) (mRet (mrOf (mC (.bool false)))) (mNext))
  (mSeq (mIf (mTAnd (mT (mOp1 (bIsi [.kLst, .kTup]) (mVar 0))) (mT (mOp1 (bIsi [.kLst, .kTup]) (mVar 1)))) (mSeq (mIf (mT (mOp2 opNe (mCallB bLen (mCons (mVar 0) (mNil))) (mCallB bLen (mCons (mVar 1) (mNil))))) (mRet (mrOf (mC (.bool false)))) (mNext))
  (mRet (mrOf (mOp2 opEq (mLc (miRng1 (mCons (mCallB bLen (mCons (mVar 1) (mNil))) (mNil))) (mgName 2) (mTNot (mT (mCall D0 wF (mCons (mOp2 opIx (mVar 0) (mVar 2)) (mCons (mOp2 opIx (mVar 1) (mVar 2)) (mNil)))))) (mVar 2) [2]) (mLst (mNil)))))) (mNext))
  (mRet (mrOf (mAnd (mOp2 opEq (mVar 0) (mVar 1)) (mOp2 opEq (mOp1 (bIsi [.kInt]) (mVar 0)) (mOp1 (bIsi [.kInt]) (mVar 1))))))))
/-- numbers, texts, none, and lists and tuples of these, not deep -/
def sd : Nat → PyData → Bool
  | 0, _ => false
  | j + 1, .list xs => decide (xs.length ≤ 1000) && xs.all (sd j)
  | j + 1, .tuple xs => decide (xs.length ≤ 1000) && xs.all (sd j)
  | _ + 1, .int _ => true
  | _ + 1, .none => true
  | _ + 1, .bool _ => true
  | _ + 1, .str z => PyData.strOk z
  | _ + 1, _ => false
def D__law_same (j : Nat) : PSpec := fun ds Q _ => ∃ d, ds = [d, d] ∧ sd j d = true ∧ Q (.va (.bool true))
theorem never__law_same : ∀ ds Q E, ¬ D__law_same 0 ds Q E := by
  rintro _ Q E ⟨d, _, h, _⟩
  cases h
theorem len__law_same : ∀ j ds Q E, D__law_same j ds Q E → ds.length = 2 := by
  rintro j _ Q E ⟨d, rfl, _⟩
  rfl
theorem eqv_all {xs : List PyData} (h : ∀ x ∈ xs, PyData.eqv x x = true) : PyData.eqvAll xs xs = true := by
  induction xs with
  | nil => rfl
  | cons x xs ih => simp [PyData.eqvAll, h x (by simp), ih fun y hy => h y (by simp [hy])]
theorem lay_all {xs : List PyData} {j : Nat} (h : ∀ x ∈ xs, x.canLay0 = true ∧ x.depth ≤ j) : PyData.canLayAll0 xs = true ∧ PyData.depthAll xs ≤ j := by
  induction xs with
  | nil => exact ⟨rfl, by simp [PyData.depthAll]⟩
  | cons x xs ih =>
    have h1 := h x (by simp)
    have h2 := ih fun y hy => h y (by simp [hy])
    refine ⟨by simp [PyData.canLayAll0, h1.1, h2.1], ?_⟩
    simp only [PyData.depthAll]
    omega
theorem sd_ok : ∀ (j : Nat) (d : PyData), sd j d = true → d.canLay0 = true ∧ d.depth ≤ j ∧ PyData.eqv d d = true
  | 0, _, h => by cases h
  | j + 1, .list xs, h => by
    simp only [sd, Bool.and_eq_true, List.all_eq_true] at h
    have ih : ∀ x ∈ xs, _ := fun x hx => sd_ok j x (h.2 x hx)
    have a := lay_all (xs := xs) (j := j) fun x hx => ⟨(ih x hx).1, (ih x hx).2.1⟩
    refine ⟨by simp [PyData.canLay0, a.1], by simp only [PyData.depth]; omega, ?_⟩
    simp only [PyData.eqv]
    exact eqv_all fun x hx => (ih x hx).2.2
  | j + 1, .tuple xs, h => by
    simp only [sd, Bool.and_eq_true, List.all_eq_true] at h
    have ih : ∀ x ∈ xs, _ := fun x hx => sd_ok j x (h.2 x hx)
    have a := lay_all (xs := xs) (j := j) fun x hx => ⟨(ih x hx).1, (ih x hx).2.1⟩
    refine ⟨by simp [PyData.canLay0, a.1], by simp only [PyData.depth]; omega, ?_⟩
    simp only [PyData.eqv]
    exact eqv_all fun x hx => (ih x hx).2.2
  | j + 1, .int i, _ => ⟨rfl, by simp [PyData.depth], by simp [PyData.eqv]⟩
  | j + 1, .none, _ => ⟨rfl, by simp [PyData.depth], by simp [PyData.eqv]⟩
  | j + 1, .bool b, _ => ⟨rfl, by simp [PyData.depth], by simp [PyData.eqv]⟩
  | j + 1, .str z, h => ⟨by simpa [PyData.canLay0, sd] using h, by simp [PyData.depth], by simp [PyData.eqv]⟩
  | j + 1, .dict kvs, h => by simp [sd] at h
theorem opEq_self {j : Nat} {d : PyData} (hj : j ≤ 60) (h : sd j d = true) : opEq d d = some (.bool true) := by
  have k := sd_ok j d h
  have e : SeqAt.shaped d = true := by
    unfold SeqAt.shaped
    rw [k.1, decide_eq_true (by omega)]
    rfl
  unfold opEq
  rw [e, k.2.2]
  rfl
theorem opNe_self {j : Nat} {d : PyData} (hj : j ≤ 60) (h : sd j d = true) : opNe d d = some (.bool false) := by
  have k := sd_ok j d h
  have e : SeqAt.shaped d = true := by
    unfold SeqAt.shaped
    rw [k.1, decide_eq_true (by omega)]
    rfl
  unfold opNe
  rw [e, k.2.2]
  rfl
theorem same_items {j : Nat} {xs : List PyData} {d : PyData} {Q : List PyData → DSt → Prop} (hi : ∀ i : Int, opIx d (.int i) = DL.atI xs i) (hx : xs.all (sd j) = true) (hl : xs.length ≤ 1000) (q : ∀ s, Q [] s) :
    lcL (mgName 2) (mTNot (mT (mCall (D__law_same j) wF (mCons (mOp2 opIx (mVar 0) (mVar 2)) (mCons (mOp2 opIx (mVar 1) (mVar 2)) mNil))))) (mVar 2) [2] Q (rangeL 0 xs.length) [.va d, .va d, .no] [] := by
  refine lcL_run (fun s => ∃ x, s = [.va d, .va d, x]) (fun _ => none) _ ?_ _ [] ⟨_, rfl⟩ (by simp [rangeL]; omega) ?_
  · rintro e he s ⟨x, rfl⟩ Y N hY hN
    unfold rangeL at he
    obtain ⟨i, hi2, rfl⟩ := List.mem_map.mp he
    have hi3 := List.mem_range.mp hi2
    obtain ⟨y, hy, ey⟩ := DL.atI_mem (xs := xs) (r := 0 + (i : Int)) (by omega) (by omega)
    simp only [swipe, sset]
    walk_at "rdn"
    refine ⟨y, (hi _).trans ey, y, (hi _).trans ey, y, rfl, (List.all_eq_true.mp hx) y hy, _, rfl, _, rfl, ?_⟩
    exact hN _ rfl ⟨_, rfl⟩
  · rintro s ⟨x, rfl⟩
    have e : ∀ l : List PyData, l.filterMap (fun _ => (none : Option PyData)) = [] := fun l => by
      induction l with
      | nil => rfl
      | cons x l ih => simpa using ih
    rw [e]
    exact q _
theorem rd__law_same : ∀ j ds Q E, D__law_same (j + 1) ds Q E → m__law_same (D__law_same j) (fun c _ => E c) (endP Q) (slots0 3 ds) := by
  rintro j _ Q E ⟨d, rfl, h, q⟩
  have z : opEq (.list []) (.list []) = some (.bool true) := opEq_self (j := 1) (by decide) rfl
  unfold m__law_same
  cases d with
  | int i =>
    walk_at "rdn"
    rw [if_pos (by simp)]
    exact q
  | none =>
    walk_at "rdn"
    exact q
  | bool b =>
    walk_at "rdn"
    exact q
  | str z =>
    walk_at "rdn"
    rw [if_pos (by simp)]
    exact q
  | list xs =>
    simp only [sd, Bool.and_eq_true, decide_eq_true_eq] at h
    walk_at "rdn"
    rw [if_neg (by simp)]
    refine ⟨by omega, by omega, rfl, ?_⟩
    rw [Int.toNat_natCast]
    exact same_items (fun _ => rfl) h.2 h.1 fun _ => ⟨_, z, q⟩
  | tuple xs =>
    simp only [sd, Bool.and_eq_true, decide_eq_true_eq] at h
    walk_at "rdn"
    rw [if_neg (by simp)]
    refine ⟨by omega, by omega, rfl, ?_⟩
    rw [Int.toNat_natCast]
    exact same_items (fun _ => rfl) h.2 h.1 fun _ => ⟨_, z, q⟩
  | _ => simp [sd] at h
section
variable {P : Program} {w : World} {K : PySem.W.Frag} {mg : Str → Option Value} {base : Heap} {CN : String → Option Addr}
theorem ok__law_same {f : Addr} {fd : FuncData} (F : Fun K "_law_same" "_law_same" s__law_same f fd) (gm : mg "_law_same" = some (.ref f)) (bb : Binds K fd ["found", "due"] []) (g : G K mg CN)  : ∀ j, FnG P w K mg base (j + 1) f fd ["found", "due"] (spP K CN (D__law_same j))
  | 0 => fn_never never__law_same
  | j + 1 => by
    have c__law_same : CalP P w K mg base CN (j + 1) "_law_same" (D__law_same j) := ⟨_, _, _, ok__law_same F gm bb g  j, gm, F.kp, bb⟩
    have sc := sc__law_same
    exact fun_okP (m := m__law_same (D__law_same j)) F sc (by decide) (len__law_same (j + 1)) (fun cdv A outer s H E C W hw hr tk =>
    (pds_cons (pds_if (pdt_ofw (pdw_or (pdt_val (pd_isi1 .kBool g.b_isinstance g.b_bool (dv 0))) (pdw_or1 (pdt_val (pd_isi1 .kBool g.b_isinstance g.b_bool (dv 1)))))) (pds_one (pds_ret (pdr_of (pd_and (pd_isi1 .kBool g.b_isinstance g.b_bool (dv 0)) (pd_and (pd_isi1 .kBool g.b_isinstance g.b_bool (dv 1)) (pd_one (pd_cmp (or_eqD (RoomG.u64 hr)) rl_eq (dv 0) (dv 1) (nomark _)))))))) pds_nil)
    (pds_cons (pds_if (pdt_cmp (or_neD (RoomG.u64 hr)) rl_ne (pd_isi1 .kLst g.b_isinstance g.b_list (dv 0)) (pd_isi1 .kLst g.b_isinstance g.b_list (dv 1)) (nomark _)) (pds_one (pds_ret (pdr_of pd_bl))) pds_nil)
    (pds_cons (pds_if (pdt_ofw (pdw_and (pdt_val (pd_isiT [.kLst, .kTup] g.b_isinstance (dv 0) (pe_types (pa_types .kLst g.b_list (pa_types .kTup g.b_tuple pa_types0)) (by decide)))) (pdw_and1 (pdt_val (pd_isiT [.kLst, .kTup] g.b_isinstance (dv 1) (pe_types (pa_types .kLst g.b_list (pa_types .kTup g.b_tuple pa_types0)) (by decide))))))) (pds_cons (pds_if (pdt_cmp (or_neD (RoomG.u64 hr)) rl_ne (pd_callB cr_len rc_len g.b_len (by decide +kernel) (pda_cons (dv 0) pda_nil)) (pd_callB cr_len rc_len g.b_len (by decide +kernel) (pda_cons (dv 1) pda_nil)) (nomark _)) (pds_one (pds_ret (pdr_of pd_bl))) pds_nil)
    (pds_one (pds_ret (pdr_of (pd_cmp (or_eqD (RoomG.u64 hr)) rl_eq (pd_lc (pe_lc (own := [("k", 2)]) rfl sc.nd (d_range1 g.b_range (pda_cons (pd_callB cr_len rc_len g.b_len (by decide +kernel) (pda_cons (dv 1) pda_nil)) pda_nil)) (blkOk_by (N := ["found", "due", "k"]) (sc := (defScope s__law_same)) (by decide +kernel)) (fun _ _ _ _ _ => (dgv 2 (vs := [2]) sc.nd)) (fun _ _ _ _ _ => (pdts_one (pdt_not (pdt_val (pd_call c__law_same hr (Nat.le_refl _) takesF (pda_cons (pd_ix ix_seq rl_ix (dv 0) (dv 2)) (pda_cons (pd_ix ix_seq rl_ix (dv 1) (dv 2)) pda_nil))))))) (fun _ _ _ _ _ => (dv 2)))) (pd_lst pda_nil) (nomark _)))))) pds_nil)
    (pds_one (pds_ret (pdr_of (pd_and (pd_cmp (or_eqD (RoomG.u64 hr)) rl_eq (dv 0) (dv 1) (nomark _)) (pd_one (pd_cmp (or_eqD (RoomG.u64 hr)) rl_eq (pd_isi1 .kInt g.b_isinstance g.b_int (dv 0)) (pd_isi1 .kInt g.b_isinstance g.b_int (dv 1)) (nomark _))))))))))) (rd__law_same j)
end
def m__law_desk : MS :=
  mSeq (mAsg (mOp2 opAdd (mC (.int 1)) (mCallW dDraw 0 (mCons (mVar 1) (mNil)))) (mgName 2))
  (mSeq (mAsg (mOp2 opIx (mLst (mCons (mOp2 opAdd (mC (.int 1)) (mCallW dDraw 0 (mCons (mVar 1) (mNil)))) (mCons (mVar 2) (mCons (mOp2 opMul (mVar 2) (mC (.int 2))) (mCons (mOp2 opAdd (mC (.int 1)) (mCallW dDraw 0 (mCons (mC (.int 4)) (mNil)))) (mNil)))))) (mCallW dDraw 0 (mCons (mC (.int 4)) (mNil)))) (mgName 3))
  (mRet (mrOf (mTup (mCons (mVar 2) (mCons (mVar 3) (mNil)))))))
theorem log_wide {m : Int} (h1 : 1 ≤ m) (h : m < 2 ^ 200) : m.natAbs.log2 < 9000 := by
  refine (Nat.log2_lt (by omega)).mpr ?_
  have : m.natAbs < 2 ^ 200 := by omega
  exact Nat.lt_of_lt_of_le this (Nat.pow_le_pow_right (by decide) (by decide))
theorem dr {n : Nat} {m : Int} {Q : S → Nat → Prop} (h0 : 1 ≤ n) (h1 : 1 ≤ m) (h2 : m < 2 ^ 200) (k : ∀ r : Int, 0 ≤ r → r < m → Q (.va (.int r)) (n - 1)) : dDraw n [.int m] Q := ⟨m, rfl, h0, h1, log_wide h1 h2, k⟩
theorem small2 {a b : Int} (ha : a.natAbs < 2 ^ 200) (hb : b.natAbs < 2 ^ 200) : small a b = true := by
  have lg : ∀ z : Int, z.natAbs < 2 ^ 200 → z.natAbs.log2 < 200 := fun z hz => by
    by_cases h0 : z.natAbs = 0
    · rw [h0]; decide
    · exact (Nat.log2_lt h0).mpr hz
  unfold small
  have := lg a ha
  have := lg b hb
  exact decide_eq_true (by omega)
def D__law_desk : WSpec := fun n ds Q => ∃ m, ds = [.int m] ∧ 4 ≤ n ∧ 1 ≤ m ∧ m < 2 ^ 150 ∧ ∀ a b n', n ≤ n' + 4 → 1 ≤ a → a ≤ m + 1 → 1 ≤ b → b ≤ 2 * m + 5 → Q (.va (.tuple [.int a, .int b])) n'
theorem len__law_desk : ∀ n ds Q, D__law_desk n ds Q → ds.length + 1 = 2 := by
  rintro n _ Q ⟨d, rfl, _⟩
  rfl
theorem rd__law_desk : ∀ n ds Q, D__law_desk n ds Q → m__law_desk (endW Q) (slotsW 4 n ds) := by
  rintro n _ Q ⟨m, rfl, hn, h1, h2, q⟩
  unfold m__law_desk
  walk_at "rdm"
  refine dr (by omega) h1 (by omega) fun r1 p1 p2 => ?_
  walk_at "rdm"
  refine dr (by omega) h1 (by omega) fun r2 p3 p4 => ?_
  walk_at "rdm"
  rw [if_pos (small2 (by omega) (by omega))]
  walk_at "rdm"
  refine dr (by omega) (by decide) (by decide) fun r3 p5 p6 => ?_
  walk_at "rdm"
  refine dr (by omega) (by decide) (by decide) fun r4 p7 p8 => ?_
  walk_at "rdm"
  have c : r4 = 0 ∨ r4 = 1 ∨ r4 = 2 ∨ r4 = 3 := by omega
  rcases c with rfl | rfl | rfl | rfl <;> walk_at "rdm" <;> exact q _ _ _ (by omega) (by omega) (by omega) (by omega) (by omega)
section
variable {P : Program} {w : World} {K : PySem.W.Frag} {mg : Str → Option Value} {base : Heap} {CN : String → Option Addr}
theorem ok__law_desk {f : Addr} {fd : FuncData} (F : Fun K "_law_desk" "_law_desk" s__law_desk f fd) (g : G K mg CN) (c__law_draw : CalW P w K mg base 1 "_law_draw" dDraw) : FnG P w K mg base 2 f fd ["well", "most"] (spW K D__law_desk) := by
  have sc := sc__law_desk
  exact fun_okW (m := m__law_desk) (CN := CN) F sc (by decide) len__law_desk (fun cdv A outer s H E C hr tk =>
    (pds_cons (pds_asg (ps_asg (pd_op or_add rl_add pd_int (pd_callW c__law_draw hr (by decide) tk (pv 0) (pda_cons (dv 1) pda_nil))) (dg 2 sc.nd)))
    (pds_cons (pds_asg (ps_asg (pd_ix ix_seq rl_ix (pd_lst (pda_cons (pd_op or_add rl_add pd_int (pd_callW c__law_draw hr (by decide) tk (pv 0) (pda_cons (dv 1) pda_nil))) (pda_cons (dv 2) (pda_cons (pd_op or_mul rl_mul (dv 2) pd_int) (pda_cons (pd_op or_add rl_add pd_int (pd_callW c__law_draw hr (by decide) tk (pv 0) (pda_cons pd_int pda_nil))) pda_nil))))) (pd_callW c__law_draw hr (by decide) tk (pv 0) (pda_cons pd_int pda_nil))) (dg 3 sc.nd)))
    (pds_one (pds_ret (pdr_of (pd_tup (pda_cons (dv 2) (pda_cons (dv 3) pda_nil))))))))) rd__law_desk
end
def m__law_roll : MS :=
  mSeq (mAsg (mOp2 opIx (mLst (mCons (mC (.int 0)) (mCons (mOp2 opIx (mVar 1) (mC (.int 0))) (mCons (mCallW dDraw 0 (mCons (mOp2 opAdd (mOp2 opIx (mVar 1) (mC (.int 0))) (mC (.int 1))) (mNil))) (mNil))))) (mCallB bMin (mCons (mC (.int 2)) (mCons (mCallW dDraw 0 (mCons (mC (.int 5)) (mNil))) (mNil))))) (mgName 3))
  (mSeq (mAsg (mOp2 opIx (mLst (mCons (mC (.int 0)) (mCons (mOp2 opIx (mVar 1) (mC (.int 1))) (mCons (mCallW dDraw 0 (mCons (mOp2 opAdd (mOp2 opIx (mVar 1) (mC (.int 1))) (mC (.int 1))) (mNil))) (mNil))))) (mCallB bMin (mCons (mC (.int 2)) (mCons (mCallW dDraw 0 (mCons (mC (.int 5)) (mNil))) (mNil))))) (mgName 4))
  (mSeq (mAsgM [5, 6] [mrOf (mOp2 opSub (mCallW dDraw 0 (mCons (mOp2 opAdd (mOp2 opMul (mC (.int 2)) (mVar 2)) (mC (.int 1))) (mNil))) (mVar 2)), mrOf (mOp2 opSub (mCallW dDraw 0 (mCons (mOp2 opAdd (mOp2 opMul (mC (.int 2)) (mVar 2)) (mC (.int 1))) (mNil))) (mVar 2))])
  (mSeq (mIf (mT (mOp2 opEq (mCallW dDraw 0 (mCons (mC (.int 8)) (mNil))) (mC (.int 0)))) (mAsg (mC (.int 0)) (mgName 5)) (mIf (mT (mOp2 opEq (mCallW dDraw 0 (mCons (mC (.int 8)) (mNil))) (mC (.int 0)))) (mAsg (mC (.int 0)) (mgName 6)) (mNext)))
  (mRet (mrOf (mIfE (mT (mOp2 opNe (mTup (mCons (mVar 5) (mCons (mVar 6) (mNil)))) (mTup (mCons (mC (.int 0)) (mCons (mC (.int 0)) (mNil)))))) (mTup (mCons (mVar 3) (mCons (mVar 4) (mCons (mVar 5) (mCons (mVar 6) (mNil)))))) (mTup (mCons (mVar 3) (mCons (mVar 4) (mCons (mC (.int 1)) (mCons (mC (.int 1)) (mNil))))))))))))
theorem opNe_tt {a b c e : Int} : opNe (.tuple [.int a, .int b]) (.tuple [.int c, .int e]) = some (.bool (!(decide (a = c) && decide (b = e)))) := by
  unfold opNe SeqAt.shaped
  simp [PyData.canLay0, PyData.canLayAll0, PyData.depth, PyData.depthAll, PyData.eqv, PyData.eqvAll]
  by_cases h : a = c <;> by_cases h2 : b = e <;> simp [h, h2]
def D__law_roll : WSpec := fun n ds Q => ∃ a b m, ds = [.tuple [.int a, .int b], .int m] ∧ 10 ≤ n ∧ 1 ≤ a ∧ a < 2 ^ 150 ∧ 1 ≤ b ∧ b < 2 ^ 150 ∧ 1 ≤ m ∧ m < 2 ^ 150 ∧
  ∀ x y p q n', n ≤ n' + 10 → 0 ≤ x → x ≤ a → 0 ≤ y → y ≤ b → (-m - 1 ≤ p ∧ p ≤ m + 1) → (-m - 1 ≤ q ∧ q ≤ m + 1) → (p ≠ 0 ∨ q ≠ 0) → Q (.va (.tuple [.int x, .int y, .int p, .int q])) n'
theorem len__law_roll : ∀ n ds Q, D__law_roll n ds Q → ds.length + 1 = 3 := by
  rintro n _ Q ⟨a, b, m, rfl, _⟩
  rfl
theorem rd__law_roll : ∀ n ds Q, D__law_roll n ds Q → m__law_roll (endW Q) (slotsW 7 n ds) := by
  rintro n _ Q ⟨a, b, m, rfl, hn, a1, a2, b1, b2, m1, m2, q⟩
  unfold m__law_roll
  walk_at "rdm"
  refine dr (by omega) (by omega) (by omega) fun r1 p1 p2 => ?_
  walk_at "rdm"
  refine dr (by omega) (by decide) (by decide) fun r2 p3 p4 => ?_
  walk_at "rdm"
  obtain ⟨x, e1, x0, x1⟩ : ∃ x : Int, DL.atI [PyData.int 0, .int a, .int r1] (if r2 < 2 then r2 else 2) = some (.int x) ∧ 0 ≤ x ∧ x ≤ a := by
    have c : r2 = 0 ∨ r2 = 1 ∨ 2 ≤ r2 := by omega
    rcases c with rfl | rfl | c
    · exact ⟨0, rfl, by omega, by omega⟩
    · exact ⟨a, rfl, by omega, by omega⟩
    · rw [if_neg (by omega)]
      exact ⟨r1, rfl, by omega, by omega⟩
  rw [e1]
  walk_at "rdm"
  refine dr (by omega) (by omega) (by omega) fun r3 p5 p6 => ?_
  walk_at "rdm"
  refine dr (by omega) (by decide) (by decide) fun r4 p7 p8 => ?_
  walk_at "rdm"
  obtain ⟨y, e2, y0, y1⟩ : ∃ y : Int, DL.atI [PyData.int 0, .int b, .int r3] (if r4 < 2 then r4 else 2) = some (.int y) ∧ 0 ≤ y ∧ y ≤ b := by
    have c : r4 = 0 ∨ r4 = 1 ∨ 2 ≤ r4 := by omega
    rcases c with rfl | rfl | c
    · exact ⟨0, rfl, by omega, by omega⟩
    · exact ⟨b, rfl, by omega, by omega⟩
    · rw [if_neg (by omega)]
      exact ⟨r3, rfl, by omega, by omega⟩
  rw [e2]
  walk_at "rdm"
  rw [if_pos (small2 (by decide) (by omega))]
  walk_at "rdm"
  refine dr (by omega) (by omega) (by omega) fun r5 p9 p10 => ?_
  walk_at "rdm"
  refine dr (by omega) (by omega) (by omega) fun r6 p11 p12 => ?_
  walk_at "rdm"
  refine dr (by omega) (by decide) (by decide) fun r7 p13 p14 => ?_
  walk_at "rdm"
  have fin : ∀ (p r : Int) (n' : Nat), n ≤ n' + 10 → (-m - 1 ≤ p ∧ p ≤ m + 1) → (-m - 1 ≤ r ∧ r ≤ m + 1) → ∃ z, opNe (.tuple [.int p, .int r]) (.tuple [.int 0, .int 0]) = some z ∧ ∃ c, z = .bool c ∧
      if c = true then Q (.va (.tuple [.int x, .int y, .int p, .int r])) n' else Q (.va (.tuple [.int x, .int y, .int 1, .int 1])) n' := by
    intro p r n' hn' hp hr
    refine ⟨_, opNe_tt, _, rfl, ?_⟩
    by_cases hz : p = 0 ∧ r = 0
    · rw [if_neg (by simp [hz.1, hz.2])]
      exact q _ _ _ _ _ hn' x0 x1 y0 y1 (by omega) (by omega) (by omega)
    · rw [if_pos (by simp only [Bool.not_eq_true', Bool.and_eq_false_imp, decide_eq_true_eq, decide_eq_false_iff_not]; omega)]
      exact q _ _ _ _ _ hn' x0 x1 y0 y1 hp hr (by omega)
  by_cases h7 : r7 = 0
  · rw [if_pos (decide_eq_true h7)]
    exact fin _ _ _ (by omega) (by omega) (by omega)
  · rw [if_neg (by simpa using h7)]
    refine dr (by omega) (by decide) (by decide) fun r8 p15 p16 => ?_
    walk_at "rdm"
    by_cases h8 : r8 = 0
    · rw [if_pos (decide_eq_true h8)]
      exact fin _ _ _ (by omega) (by omega) (by omega)
    · rw [if_neg (by simpa using h8)]
      exact fin _ _ _ (by omega) (by omega) (by omega)
section
variable {P : Program} {w : World} {K : PySem.W.Frag} {mg : Str → Option Value} {base : Heap} {CN : String → Option Addr}
theorem ok__law_roll {f : Addr} {fd : FuncData} (F : Fun K "_law_roll" "_law_roll" s__law_roll f fd) (g : G K mg CN) (c__law_draw : CalW P w K mg base 1 "_law_draw" dDraw) : FnG P w K mg base 2 f fd ["well", "desk", "most"] (spW K D__law_roll) := by
  have sc := sc__law_roll
  exact fun_okW (m := m__law_roll) (CN := CN) F sc (by decide) len__law_roll (fun cdv A outer s H E C hr tk =>
    (pds_cons (pds_asg (ps_asg (pd_ix ix_seq rl_ix (pd_lst (pda_cons pd_int (pda_cons (pd_ix ix_seq rl_ix (dv 1) pd_int) (pda_cons (pd_callW c__law_draw hr (by decide) tk (pv 0) (pda_cons (pd_op or_add rl_add (pd_ix ix_seq rl_ix (dv 1) pd_int) pd_int) pda_nil)) pda_nil)))) (pd_callB (call_min2 rfl) rc_min g.b_min (by decide +kernel) (pda_cons pd_int (pda_cons (pd_callW c__law_draw hr (by decide) tk (pv 0) (pda_cons pd_int pda_nil)) pda_nil)))) (dg 3 sc.nd)))
    (pds_cons (pds_asg (ps_asg (pd_ix ix_seq rl_ix (pd_lst (pda_cons pd_int (pda_cons (pd_ix ix_seq rl_ix (dv 1) pd_int) (pda_cons (pd_callW c__law_draw hr (by decide) tk (pv 0) (pda_cons (pd_op or_add rl_add (pd_ix ix_seq rl_ix (dv 1) pd_int) pd_int) pda_nil)) pda_nil)))) (pd_callB (call_min2 rfl) rc_min g.b_min (by decide +kernel) (pda_cons pd_int (pda_cons (pd_callW c__law_draw hr (by decide) tk (pv 0) (pda_cons pd_int pda_nil)) pda_nil)))) (dg 4 sc.nd)))
    (pds_cons (pds_par2 (ps_par2 (i := 5) (j := 6) rfl sc.nd rfl rfl (by decide) rfl rfl (pdar_cons (pdr_of (pd_op op_sub rl_sub (pd_callW c__law_draw hr (by decide) tk (pv 0) (pda_cons (pd_op or_add rl_add (pd_op or_mul rl_mul pd_int (dv 2)) pd_int) pda_nil)) (dv 2))) (pdar_cons (pdr_of (pd_op op_sub rl_sub (pd_callW c__law_draw hr (by decide) tk (pv 0) (pda_cons (pd_op or_add rl_add (pd_op or_mul rl_mul pd_int (dv 2)) pd_int) pda_nil)) (dv 2))) pdar_nil)) rfl))
    (pds_cons (pds_if (pdt_cmp (or_eqD (RoomG.u64 hr)) rl_eq (pd_callW c__law_draw hr (by decide) tk (pv 0) (pda_cons pd_int pda_nil)) pd_int (nomark _)) (pds_one (pds_asg (ps_asg pd_int (dg 5 sc.nd)))) (pds_one (pds_if (pdt_cmp (or_eqD (RoomG.u64 hr)) rl_eq (pd_callW c__law_draw hr (by decide) tk (pv 0) (pda_cons pd_int pda_nil)) pd_int (nomark _)) (pds_one (pds_asg (ps_asg pd_int (dg 6 sc.nd)))) pds_nil)))
    (pds_one (pds_ret (pdr_of (pd_ifE (pdt_cmp (or_neD (RoomG.u64 hr)) rl_ne (pd_tup (pda_cons (dv 5) (pda_cons (dv 6) pda_nil))) (pd_tup (pda_cons pd_int (pda_cons pd_int pda_nil))) (nomark _)) (pd_tup (pda_cons (dv 3) (pda_cons (dv 4) (pda_cons (dv 5) (pda_cons (dv 6) pda_nil))))) (pd_tup (pda_cons (dv 3) (pda_cons (dv 4) (pda_cons pd_int (pda_cons pd_int pda_nil)))))))))))))) rd__law_roll
end
end LW
namespace LW
open PySem PySem.Spec PyProof.Rows L2 DL
theorem lay_allG {xs : List PyData} (h : ∀ x ∈ xs, x.canLay0 = true ∧ x.depth ≤ 50) : PyData.canLayAll0 xs = true ∧ PyData.depthAll xs ≤ 50 := by
  induction xs with
  | nil => exact ⟨rfl, by simp [PyData.depthAll]⟩
  | cons x xs ih =>
    have h1 := h x (by simp)
    have h2 := ih fun y hy => h y (by simp [hy])
    refine ⟨by simp [PyData.canLayAll0, h1.1, h2.1], ?_⟩
    simp only [PyData.depthAll]
    omega
theorem opNe_nilG {xs : List PyData} (h : ∀ x ∈ xs, x.canLay0 = true ∧ x.depth ≤ 50) : opNe (.list xs) (.list []) = some (.bool (!xs.isEmpty)) := by
  have s : SeqAt.shaped (.list xs) = true := by
    have := lay_allG h
    have h2 := this.2
    unfold SeqAt.shaped
    simp [PyData.canLay0, PyData.depth, this.1]
    omega
  unfold opNe
  rw [s, show SeqAt.shaped (.list []) = true from rfl]
  cases xs <;> simp [PyData.eqv, PyData.eqvAll]
theorem lcL_runF {α : Type} {mg : MG} {mt : MT} {me : ME} {vs : List Nat} {Q : List PyData → DSt → Prop} (I : DSt → Prop) (f g : α → PyData) (p : α → Bool) :
    ∀ as : List α, (∀ a ∈ as, ∀ s, I s → ∀ (Y : PyData → DSt → Prop) (N : DSt → Prop), (p a = true → ∀ s3, I s3 → Y (g a) s3) → (p a = false → ∀ s2, I s2 → N s2) → mg (f a) (swipe s vs) fun s1 => mt s1 fun b s2 => if b = true then me s2 Y else N s2) →
      ∀ s acc, I s → acc.length + as.length ≤ 100000 → (∀ s', I s' → Q (acc ++ (as.filter p).map g) s') → lcL mg mt me vs Q (as.map f) s acc
  | [], _, s, acc, i, _, q => by
    have := q s i
    rw [List.filter_nil, List.map_nil, List.append_nil] at this
    exact this
  | a :: as, h, s, acc, i, hl, q => by
    refine h a (by simp) s i _ _ (fun e s3 i3 => ⟨by simp at hl; omega, ?_⟩) (fun e s2 i2 => ?_)
    · refine lcL_runF I f g p as (fun a' ha => h a' (by simp [ha])) s3 (acc ++ [g a]) i3 (by simp at hl ⊢; omega) fun s' i' => ?_
      have := q s' i'
      rw [List.filter_cons_of_pos e] at this
      simpa using this
    · refine lcL_runF I f g p as (fun a' ha => h a' (by simp [ha])) s2 acc i2 (by simp at hl; omega) fun s' i' => ?_
      have := q s' i'
      rwa [List.filter_cons_of_neg (by rw [e]; decide)] at this
def chS (c : Nat) : PyData := .str ⟨#[c]⟩
theorem signs_tx (g : List Nat) : signsD (tx g) = g.map chS := rfl
/-- a list of signs, held against the empty list -/
theorem opNe_signs {g : List Nat} (h : ∀ c ∈ g, c < 128) : opNe (.list (g.map chS)) (.list []) = some (.bool (!g.isEmpty)) := by
  have := opNe_nilG (xs := g.map chS) fun x hx => by
    obtain ⟨c, hc, rfl⟩ := List.mem_map.mp hx
    have := h c hc
    refine ⟨?_, by simp [chS, PyData.depth]⟩
    simp only [chS, PyData.canLay0, PyData.strOk]
    simp
    omega
  rw [this]
  cases g <;> rfl
theorem leS_lo (c : Nat) : opLeS (.str "0") (chS c) = some (.bool (decide (48 ≤ c))) := by
  have e : (Str.ofString "0").cps.toList = [48] := rfl
  show some (PyData.bool (!decide ([c] < (Str.ofString "0").cps.toList))) = _
  rw [e]
  congr 2
  by_cases h : 48 ≤ c
  · rw [decide_eq_true h, decide_eq_false (by simp [List.cons_lt_cons_iff]; omega)]; rfl
  · rw [decide_eq_false h, decide_eq_true (by simp [List.cons_lt_cons_iff]; omega)]; rfl
theorem leS_hi (c : Nat) : opLeS (chS c) (.str "9") = some (.bool (decide (c ≤ 57))) := by
  have e : (Str.ofString "9").cps.toList = [57] := rfl
  show some (PyData.bool (!decide ((Str.ofString "9").cps.toList < [c]))) = _
  rw [e]
  congr 2
  by_cases h : c ≤ 57
  · rw [decide_eq_true h, decide_eq_false (by simp [List.cons_lt_cons_iff]; omega)]; rfl
  · rw [decide_eq_false h, decide_eq_true (by simp [List.cons_lt_cons_iff]; omega)]; rfl
theorem intS_num {l : List Nat} (h : numOk l = true) (hl : l.length ≤ 640) : bIntS [.str (tx l)] = some (.int (numV l)) := by
  unfold numOk at h
  simp only [Bool.and_eq_true] at h
  obtain ⟨⟨h1, h2⟩, -⟩ := h
  have ad := all_digits.mp h2
  have ne : digs l ≠ [] := fun z => by rw [z] at h1; cases h1
  by_cases c : neg? l = true
  · have hx : (tx l).cps.toList = 45 :: digs l := by
      show l = _
      unfold digs
      rw [if_pos c]
      unfold neg? at c
      have c := of_decide_eq_true c
      cases l with
      | nil => cases c
      | cons x r => cases c; rfl
    have := PySem.intText_neg hx ad ne (by rw [len_tx]; omega)
    show (match PySem.intText? (tx l) with
      | some n => if (tx l).length ≤ 640 then some (PyData.int n) else none
      | none => none) = _
    rw [this]
    show (if (tx l).length ≤ 640 then some (PyData.int _) else none) = _
    rw [if_pos (by rw [len_tx]; exact hl)]
    unfold numV
    rw [if_pos c]
  · have e : digs l = l := by unfold digs; rw [if_neg c]
    have := intS_ok (l := l) (by rw [e] at ad; exact ad) (by rw [e] at ne; exact ne) hl
    rw [this]
    unfold numV
    rw [if_neg c, e]
end LW
namespace LW
open PySem PySem.Spec PyProof.Rows L2 DL
def m__law_figure (W : WD) : MS :=
  mSeq (mAsg (mIfE (mT (mOp2 opEq (mSl opSl (mVar 0) mNoPart (mPart (mC (.int 1)))) (mC (.str "-")))) (mSl opSl (mVar 0) (mPart (mC (.int 1))) mNoPart) (mVar 0)) (mgName 1))
  (mSeq (mIf (mTOr (mT (mOp2 opEq (mVar 1) (mC (.str "")))) (mT (mOp2 opNe (mLc (miStr (mVar 1)) (mgName 2) (mTNot (mT (mChain opLeS opLeS (mC (.str "0")) (mVar 2) (mC (.str "9"))))) (mVar 2) [2]) (mLst (mNil))))) (mRet (mrOf (mC .none))) (mNext))
  (mSeq (mIf (mTAnd (mT (mOp2 opEq (mOp2 opIx (mVar 1) (mC (.int 0))) (mC (.str "0")))) (mT (mOp2 opNe (mVar 0) (mC (.str "0"))))) (mRet (mrOf (mC .none))) (mNext))
  (mRet (mrOf (mCallB bIntS (mCons (mVar 0) (mNil)))))))
def figD (l : List Nat) : PyData := if numOk l = true then .int (numV l) else .none
def D__law_figure : PSpec := fun ds Q _ => ∃ l : List Nat, ds = [.str (tx l)] ∧ l.length ≤ 640 ∧ (∀ c ∈ l, c < 128) ∧ Q (.va (figD l))
theorem len__law_figure : ∀ ds Q E, D__law_figure ds Q E → ds.length = 1 := by
  rintro _ Q E ⟨l, rfl, _⟩
  rfl
theorem one_str (c : Nat) (s : String) (k : Nat) (e : (Str.ofString s).cps.toList = [k]) : decide (tx [c] = Str.ofString s) = decide (c = k) := by
  have : Str.ofString s = tx [k] := by rw [← tx_cs (Str.ofString s)]; exact congrArg tx e
  rw [this]
  by_cases h : c = k
  · subst h; simp
  · rw [decide_eq_false h, decide_eq_false fun z => h (by have := tx_inj z; simpa using this)]
theorem rd__law_figure : ∀ ds Q E, D__law_figure ds Q E → m__law_figure (fun c _ => E c) (endP Q) (slots0 3 ds) := by
  rintro _ Q E ⟨l, rfl, hl, h128, q⟩
  unfold m__law_figure
  have sl : ∀ {lo hi : Option Int}, opSl (.str (tx l)) lo hi = some (.str (tx (DL.cutL l lo hi))) := by
    intro lo hi
    show (if (tx l).length ≤ 100000 then some (PyData.str ⟨(DL.cutL (tx l).cps.toList lo hi).toArray⟩) else none) = _
    rw [if_pos (by rw [len_tx]; omega)]
    rfl
  refine seq_run (fun s => s = [.va (.str (tx l)), .va (.str (tx (digs l))), .no]) (fun N h1 => ?_) ?_
  · walk_at "rdn"
    refine ⟨_, sl, ?_⟩
    have e1 : DL.cutL l none (some (1 : Int)) = l.take 1 := cutL_to (n := 1)
    have e2 : DL.cutL l (some (1 : Int)) none = l.drop 1 := cutL_from (n := 1)
    rw [e1]
    have t : decide (tx (l.take 1) = ("-" : Str)) = neg? l := by
      unfold neg?
      cases l with
      | nil => rfl
      | cons x r =>
        have := one_str x "-" 45 rfl
        show decide (tx [x] = _) = _
        rw [this]
        simp
    refine ⟨_, opEq_str, _, rfl, ?_⟩
    rw [t]
    cases c : neg? l with
    | true =>
      rw [if_pos rfl]
      refine ⟨_, sl, ?_⟩
      rw [e2]
      refine h1 _ ?_
      unfold digs
      rw [if_pos c, List.drop_one]
    | false =>
      rw [if_neg (by decide)]
      refine h1 _ ?_
      unfold digs
      rw [if_neg (by rw [c]; decide)]
  rintro _ rfl
  have dl : (digs l).length ≤ l.length := by
    unfold digs
    split
    · rw [List.length_tail]; omega
    · exact Nat.le_refl _
  have d128 : ∀ c ∈ digs l, c < 128 := by
    unfold digs
    split
    · exact fun c hc => h128 c (List.mem_of_mem_tail hc)
    · exact h128
  have ok : numOk l = (!(digs l).isEmpty && (digs l).all isD && !(decide ((digs l).head? = some 48) && !decide (l = [48]))) := rfl
  have fig : ∀ {b : Bool}, numOk l = b → figD l = if b = true then .int (numV l) else .none := fun h => by unfold figD; rw [h]
  generalize digs l = g at *
  have comp : ∀ Q : Bool → DSt → Prop, (∀ x, Q (!(g.filter fun c => !isD c).isEmpty) [.va (.str (tx l)), .va (.str (tx g)), x]) → miStr (mVar 1) [.va (.str (tx l)), .va (.str (tx g)), .no] fun ds s => unOwn s [2] = true ∧ lcL (mgName 2) (mTNot (mT (mChain opLeS opLeS (mC (.str "0")) (mVar 2) (mC (.str "9"))))) (mVar 2) [2] (fun out s' => ∃ r, opNe (.list out) (.list []) = some r ∧ ∃ c, r = .bool c ∧ Q c (sback s s' [2])) ds s [] := by
    intro Q h
    simp only [miStr, mVar, sget]
    refine ⟨_, rfl, rfl, ?_⟩
    rw [signs_tx]
    refine lcL_runF (fun s => ∃ x, s = [.va (.str (tx l)), .va (.str (tx g)), x]) chS chS (fun c => !isD c) g ?_ _ [] ⟨_, rfl⟩ (by simp; omega) ?_
    · rintro c hc s ⟨x, rfl⟩ Y N hY hN
      simp only [swipe, sset, mgName, mTNot, mT, mChain, mC, mVar, sget]
      refine ⟨_, leS_lo c, ?_⟩
      by_cases a : 48 ≤ c
      · rw [if_pos (decide_eq_true a)]
        refine ⟨_, leS_hi c, _, rfl, ?_⟩
        by_cases b : c ≤ 57
        · rw [decide_eq_true b, if_neg (by decide)]
          exact hN (by simp [isD, a, b]) _ ⟨_, rfl⟩
        · rw [decide_eq_false b, if_pos (by decide)]
          exact hY (by simp [isD, b]) _ ⟨_, rfl⟩
      · rw [if_neg (by simp [a])]
        refine ⟨_, rfl, ?_⟩
        rw [if_pos (by decide)]
        exact hY (by simp [isD, a]) _ ⟨_, rfl⟩
    · rintro s ⟨x, rfl⟩
      rw [List.nil_append]
      refine ⟨_, opNe_signs (fun c hc => d128 c (List.mem_filter.mp hc).1), _, rfl, ?_⟩
      exact h _
  have nil : decide (tx g = Str.ofString "") = g.isEmpty := by
    cases g with
    | nil => rfl
    | cons c r =>
      refine decide_eq_false fun z => ?_
      have : Str.ofString "" = tx [] := rfl
      rw [this] at z
      cases tx_inj z
  have odd : (!(g.filter fun c => !isD c).isEmpty) = !g.all isD := by
    cases h : g.all isD with
    | true =>
      have : (g.filter fun c => !isD c) = [] := List.filter_eq_nil_iff.mpr fun c hc => by simp [(List.all_eq_true.mp h) c hc]
      rw [this]; rfl
    | false =>
      obtain ⟨c, hc, hd⟩ := List.all_eq_false.mp h
      have m : c ∈ g.filter fun c => !isD c := List.mem_filter.mpr ⟨hc, by simpa using hd⟩
      cases k : g.filter fun c => !isD c with
      | nil => rw [k] at m; cases m
      | cons _ _ => rfl
  refine seq_run (fun s => (!g.isEmpty && g.all isD) = true ∧ ∃ x, s = [.va (.str (tx l)), .va (.str (tx g)), x]) (fun N hN => ?_) ?_
  · have fin : (!g.isEmpty && g.all isD) = false → Q (.va .none) := fun k => by
      rw [fig (b := false) (by rw [ok, k]; rfl)] at q
      exact q
    walk_at "rdn"
    rw [nil]
    cases e : g.isEmpty with
    | true =>
      rw [if_pos rfl]
      exact fin (by simp [e])
    | false =>
      rw [if_neg (by decide)]
      refine comp (fun c s => if c = true then Q (.va .none) else N s) fun x => ?_
      rw [odd]
      cases a : g.all isD with
      | true =>
        rw [if_neg (by decide)]
        exact hN _ ⟨by simp [e, a], _, rfl⟩
      | false =>
        rw [if_pos (by decide)]
        exact fin (by rw [a, Bool.and_false])
  rintro _ ⟨k, x, rfl⟩
  rw [k, Bool.true_and] at ok
  cases g with
  | nil => cases k
  | cons c r =>
  have ix : opIx (.str (tx (c :: r))) (.int 0) = some (.str (tx [c])) := by
    show (if (tx (c :: r)).length ≤ 100000 then (DL.atI (tx (c :: r)).cps.toList 0).map fun c => PyData.str ⟨#[c]⟩ else none) = _
    rw [if_pos (by rw [len_tx]; omega)]
    show (DL.atI (c :: r) 0).map _ = _
    rw [atI0]
    rfl
  have e1 : decide (tx [c] = Str.ofString "0") = decide ((c :: r).head? = some 48) := by
    rw [one_str c "0" 48 rfl]
    simp
  have e2 : decide (tx l = Str.ofString "0") = decide (l = [48]) := by
    have : Str.ofString "0" = tx [48] := rfl
    rw [this]
    by_cases z : l = [48]
    · subst z; simp
    · rw [decide_eq_false (fun k => z (tx_inj k)), decide_eq_false z]
  cases n : numOk l with
  | false =>
    refine seq_step fun N hN => ?_
    refine if_run true (fun Q h => ?_) (fun _ => ?_) (fun hc => by cases hc)
    · walk_at "rdn"
      refine ⟨_, ix, _, opEq_str, _, rfl, ?_⟩
      rw [n] at ok
      rw [e1]
      cases z : decide ((c :: r).head? = some 48) with
      | true =>
        rw [if_pos rfl]
        rw [e2]
        rw [z] at ok
        cases y : decide (l = [48]) with
        | true => rw [y] at ok; cases ok
        | false => exact h
      | false => rw [z] at ok; cases ok
    · walk_at "rdn"
      rw [fig n] at q
      exact q
  | true =>
    refine seq_step fun N hN => ?_
    refine if_run false (fun Q h => ?_) (fun hc => by cases hc) (fun _ => ?_)
    · walk_at "rdn"
      refine ⟨_, ix, _, opEq_str, _, rfl, ?_⟩
      rw [n] at ok
      rw [e1]
      cases z : decide ((c :: r).head? = some 48) with
      | true =>
        rw [if_pos rfl]
        rw [e2]
        rw [z] at ok
        cases y : decide (l = [48]) with
        | true => exact h
        | false => rw [y] at ok; cases ok
      | false =>
        rw [if_neg (by decide)]
        exact h
    · walk_at "rdn"
      subst hN
      walk_at "rdn"
      refine ⟨_, intS_num n hl, ?_⟩
      rw [fig n, if_pos rfl] at q
      exact q
section
variable {P : Program} {w : World} {K : PySem.W.Frag} {mg : Str → Option Value} {base : Heap} {CN : String → Option Addr}
theorem ok__law_figure {f : Addr} {fd : FuncData} (F : Fun K "_law_figure" "_law_figure" s__law_figure f fd) (g : G K mg CN)  : FnG P w K mg base 1 f fd ["word"] (spP K CN D__law_figure) := by
  have sc := sc__law_figure
  exact fun_okP (m := m__law_figure) F sc (by decide) len__law_figure (fun cdv A outer s H E C W hw hr tk =>
    (pds_cons (pds_asg (ps_asg (pd_ifE (pdt_cmp (or_eqD (RoomG.u64 hr)) rl_eq (pd_slB (dv 0) pd_int) pd_str (nomark _)) (pd_slA (dv 0) pd_int) (dv 0)) (dg 1 sc.nd)))
    (pds_cons (pds_if (pdt_ofw (pdw_or (pdt_cmp (or_eqD (RoomG.u64 hr)) rl_eq (dv 1) pd_str (nomark _)) (pdw_or1 (pdt_cmp (or_neD (RoomG.u64 hr)) rl_ne (pd_lc (pe_lc (own := [("sign", 2)]) rfl sc.nd (pdi_str (dv 1)) (blkOk_by (N := ["word", "digits", "sign"]) (sc := (defScope s__law_figure)) (by decide +kernel)) (fun _ _ _ _ _ => (dgv 2 (vs := [2]) sc.nd)) (fun _ _ _ _ _ => (pdts_one (pdt_not (pdt_chain2 op_le_str op_le_str rl_leS rl_leS pd_str (dv 2) pd_str)))) (fun _ _ _ _ _ => (dv 2)))) (pd_lst pda_nil) (nomark _))))) (pds_one (pds_ret (pdr_of pd_non))) pds_nil)
    (pds_cons (pds_if (pdt_ofw (pdw_and (pdt_cmp (or_eqD (RoomG.u64 hr)) rl_eq (pd_ix ix_seq rl_ix (dv 1) pd_int) pd_str (nomark _)) (pdw_and1 (pdt_cmp (or_neD (RoomG.u64 hr)) rl_ne (dv 0) pd_str (nomark _))))) (pds_one (pds_ret (pdr_of pd_non))) pds_nil)
    (pds_one (pds_ret (pdr_of (pd_callTy call_int_str rc_intS g.b_int (by decide +kernel) (pda_cons (dv 0) pda_nil))))))))) rd__law_figure
end
end LW
namespace LW
open PySem PySem.Spec PyProof.Rows L2 DL
def m__law_read (W : WD) : MS :=
  mSeq (mAsg (mCallB bTup (mCons (mLc (miSeq (mStrM opSplit (mVar 0) (mIfE (mT (mOp2 opEq (mVar 1) (mC (.int 2)))) (mC (.str "x")) (mC (.str " "))))) (mgName 3) (mTYes) (mCall D__law_figure wF (mCons (mVar 3) (mNil))) [3]) mNil)) (mgName 2))
  (mSeq (mIf (mTOr (mT (mOp2 opNe (mCallB bLen (mCons (mVar 2) (mNil))) (mVar 1))) (mT (mOp2 opIn (mC .none) (mVar 2)))) (mRet (mrOf (mC .none))) (mNext))
  (mSeq (mIf (mT (mOp2 opEq (mVar 1) (mC (.int 2)))) (mRet (mrOf (mIfE (mTAnd (mT (mOp2 opGt (mOp2 opIx (mVar 2) (mC (.int 0))) (mC (.int 0)))) (mT (mOp2 opGt (mOp2 opIx (mVar 2) (mC (.int 1))) (mC (.int 0))))) (mVar 2) (mC .none)))) (mNext))
  (mSeq (mIf (mTOr (mT (mOp2 opLt (mOp2 opIx (mVar 2) (mC (.int 0))) (mC (.int 0)))) (mTOr (mT (mOp2 opLt (mOp2 opIx (mVar 2) (mC (.int 1))) (mC (.int 0)))) (mTAnd (mT (mOp2 opEq (mOp2 opIx (mVar 2) (mC (.int 2))) (mC (.int 0)))) (mT (mOp2 opEq (mOp2 opIx (mVar 2) (mC (.int 3))) (mC (.int 0))))))) (mRet (mrOf (mC .none))) (mNext))
  (mRet (mrOf (mVar 2))))))
def sgn31 (size : Int) : Nat := if size = 2 then 120 else 32
def good31 (size : Int) : PyData → Bool := if size = 2 then isTab else isAny
def D__law_read : PSpec := fun ds Q _ => ∃ (l : List Nat) (size : Int), ds = [.str (tx l), .int size] ∧ (size = 2 ∨ size = 4) ∧ l.length ≤ 600 ∧ (∀ c ∈ l, c < 128) ∧ Q (.va (ornN (rd31 (sgn31 size) (good31 size) l)))
theorem len__law_read : ∀ ds Q E, D__law_read ds Q E → ds.length = 2 := by
  rintro _ Q E ⟨l, size, rfl, _⟩
  rfl
theorem spl_mem {c : Nat} : ∀ (l : List Nat) (P : Nat → Prop), (∀ x ∈ l, P x) → ∀ w ∈ spl c l, ∀ x ∈ w, P x := by
  intro l P
  induction l with
  | nil => intro _ w hw x hx; simp [spl] at hw; subst hw; cases hx
  | cons y l ih =>
    intro h
    have ih := ih fun x hx => h x (by simp [hx])
    unfold spl
    split
    · intro w hw
      rcases List.mem_cons.mp hw with rfl | hw
      · intro x hx; cases hx
      · exact ih w hw
    · cases hs : spl c l with
      | nil => exact absurd hs (spl_ne c l)
      | cons z r =>
        rw [hs] at ih
        intro w hw
        rcases List.mem_cons.mp hw with rfl | hw
        · intro x hx
          rcases List.mem_cons.mp hx with rfl | hx
          · exact h x (by simp)
          · exact ih z (by simp) x hx
        · exact ih w (by simp [hw])
theorem split_eq {l : List Nat} {c : Nat} {s : Str} (hs : s = tx [c]) (hc : c < 256) (hl : l.length ≤ 600) : opSplit (.str (tx l)) (.str s) = some (.list ((spl c l).map fun w => .str (tx w))) := by
  subst hs
  have h : opSplit (.str (tx l)) (.str (tx [c])) = some (.list ((Txt.split (tx l) (tx [c])).map .str)) := by
    show (if ((tx [c]).length == 0) = false ∧ (tx l).length + 2 ≤ sizeLine then some (PyData.list ((Txt.split (tx l) (tx [c])).map .str)) else none) = _
    rw [if_pos ⟨rfl, by rw [len_tx]; show l.length + 2 ≤ 2 ^ 24; omega⟩]
  rw [h, ← split_one l c hc, List.map_map]
  refine congrArg some (congrArg PyData.list (List.map_congr_left fun w _ => ?_))
  show PyData.str w = .str (tx (cs w))
  rw [tx_cs]
theorem figs_any : ∀ ws : List (List Nat), ((ws.map figD).any fun d => PyData.eqv d .none) = !ws.all numOk
  | [] => rfl
  | w :: ws => by
    rw [List.map_cons, List.any_cons, List.all_cons, figs_any ws, Bool.not_and]
    congr 1
    show PyData.eqv (figD w) .none = _
    unfold figD
    cases numOk w <;> rfl
theorem figs_none {ws : List (List Nat)} : opIn .none (.tuple (ws.map figD)) = some (.bool (!ws.all numOk)) := by
  have fl : (flatD .none && (ws.map figD).all flatD) = true := by
    rw [show flatD .none = true from rfl, Bool.true_and, List.all_map]
    refine List.all_eq_true.mpr fun w _ => ?_
    show flatD (figD w) = true
    unfold figD
    split <;> rfl
  show (if (flatD .none && (ws.map figD).all flatD) = true then some (PyData.bool ((ws.map figD).any fun d => PyData.eqv d .none)) else none) = _
  rw [if_pos fl, figs_any]
theorem figs_ok {ws : List (List Nat)} (h : ws.all numOk = true) : ws.map figD = ws.map fun w => .int (numV w) :=
  List.map_congr_left fun w hw => by unfold figD; rw [(List.all_eq_true.mp h) w hw]; rfl
theorem rd__law_read : ∀ ds Q E, D__law_read ds Q E → m__law_read (fun c _ => E c) (endP Q) (slots0 4 ds) := by
  rintro _ Q E ⟨l, size, rfl, hsz, hl, h128, q⟩
  unfold m__law_read
  have sg : sgn31 size < 256 ∧ (if size = 2 then Str.ofString "x" else Str.ofString " ") = tx [sgn31 size] := by
    rcases hsz with rfl | rfl
    · exact ⟨by decide, rfl⟩
    · exact ⟨by decide, rfl⟩
  obtain ⟨s1, s2⟩ := spl_small (c := sgn31 size) l
  have w128 := spl_mem (c := sgn31 size) l (· < 128) h128
  refine seq_run (fun s => ∃ x, s = [.va (.str (tx l)), .va (.int size), .va (.tuple ((spl (sgn31 size) l).map figD)), x]) (fun N hN => ?_) ?_
  · walk_at "rdn"
    simp only [mStrM]
    walk_at "rdn"
    have go : ∀ s : Str, s = tx [sgn31 size] → ∃ r, opSplit (.str (tx l)) (.str s) = some r ∧ ∃ ds, items r = some ds ∧ unOwn [.va (.str (tx l)), .va (.int size), .no, .no] [3] = true ∧ lcL (mgName 3) mTYes (mCall D__law_figure wF (mCons (mVar 3) mNil)) [3] (fun out s' => N (sset (sback [.va (.str (tx l)), .va (.int size), .no, .no] s' [3]) 2 (.va (.tuple out)))) ds [.va (.str (tx l)), .va (.int size), .no, .no] [] := by
      intro s e
      refine ⟨_, split_eq e sg.1 hl, _, rfl, rfl, ?_⟩
      refine lcL_run (fun s => ∃ x, s = [.va (.str (tx l)), .va (.int size), .no, x]) (fun d => match d with | .str z => some (figD (cs z)) | _ => none) _ ?_ _ [] ⟨_, rfl⟩ (by rw [List.length_map, List.length_nil]; omega) ?_
      · rintro d hd s ⟨x, rfl⟩ Y N hY hN
        obtain ⟨w, hw, rfl⟩ := List.mem_map.mp hd
        simp only [swipe, sset]
        walk_at "rdn"
        exact ⟨w, rfl, by have := s2 w hw; omega, w128 w hw, _, rfl, hY _ _ rfl ⟨_, rfl⟩⟩
      · rintro s ⟨x, rfl⟩
        rw [List.nil_append]
        have e : ∀ ws : List (List Nat), (ws.map fun w => PyData.str (tx w)).filterMap (fun d => match d with | .str z => some (figD (cs z)) | _ => none) = ws.map figD := by
          intro ws
          induction ws with
          | nil => rfl
          | cons w ws ih =>
            rw [List.map_cons, List.filterMap_cons, ih]
            rfl
        rw [e]
        exact hN _ ⟨_, rfl⟩
    have e := sg.2
    by_cases c2 : size = 2
    · rw [if_pos c2] at e
      rw [if_pos (decide_eq_true c2)]
      exact go _ e
    · rw [if_neg c2] at e
      rw [if_neg (by simp [c2])]
      exact go _ e
  rintro _ ⟨x, rfl⟩
  have hq : ∀ b : Bool, ((spl (sgn31 size) l).all numOk && good31 size (.tuple ((spl (sgn31 size) l).map fun w => .int (numV w)))) = b → Q (.va (if b = true then .tuple ((spl (sgn31 size) l).map fun w => .int (numV w)) else .none)) := fun b hb => by
    unfold rd31 at q
    rw [hb] at q
    cases b <;> exact q
  generalize spl (sgn31 size) l = ws at *
  refine seq_run (fun s => (ws.length : Int) = size ∧ ws.all numOk = true ∧ s = [.va (.str (tx l)), .va (.int size), .va (.tuple (ws.map fun w => .int (numV w))), x]) (fun N hN => ?_) ?_
  · walk_at "rdn"
    by_cases hl2 : (ws.length : Int) = size
    · rw [List.length_map, if_neg (by simp [hl2])]
      refine ⟨_, figs_none, _, rfl, ?_⟩
      cases hall : ws.all numOk with
      | false =>
        rw [if_pos (by decide)]
        exact hq false (by rw [hall]; rfl)
      | true =>
        rw [if_neg (by decide), figs_ok hall]
        exact hN _ ⟨hl2, hall, rfl⟩
    · rw [List.length_map, if_pos (by simp [hl2])]
      refine hq false ?_
      have g : good31 size (.tuple (ws.map fun w => .int (numV w))) = false := by
        rcases hsz with rfl | rfl
        · match ws, hl2 with
          | [], _ => rfl
          | [_], _ => rfl
          | [_, _], h => exact absurd rfl h
          | _ :: _ :: _ :: _, _ => rfl
        · match ws, hl2 with
          | [], _ => rfl
          | [_], _ => rfl
          | [_, _], _ => rfl
          | [_, _, _], _ => rfl
          | [_, _, _, _], h => exact absurd rfl h
          | _ :: _ :: _ :: _ :: _ :: _, _ => rfl
      rw [g, Bool.and_false]
  rintro _ ⟨hlen, hall, rfl⟩
  rw [hall] at hq
  rcases hsz with rfl | rfl
  · obtain ⟨u, v, rfl⟩ : ∃ u v, ws = [u, v] := by
      match ws, hlen with
      | [u, v], _ => exact ⟨u, v, rfl⟩
    refine seq_step fun N hN => ?_
    walk_at "rdn"
    rw [if_pos (by decide)]
    have g : good31 2 (.tuple ([u, v].map fun w => .int (numV w))) = (decide (1 ≤ numV u) && decide (1 ≤ numV v)) := rfl
    have hq := hq _ rfl
    rw [Bool.true_and, g] at hq
    by_cases c1 : 0 < numV u
    · rw [if_pos (decide_eq_true c1)]
      by_cases c2 : 0 < numV v
      · rw [if_pos (decide_eq_true c2)]
        rw [decide_eq_true (show 1 ≤ numV u from c1), decide_eq_true (show 1 ≤ numV v from c2)] at hq
        exact hq
      · rw [if_neg (by simpa using c2)]
        rw [decide_eq_false (show ¬ 1 ≤ numV v from c2), Bool.and_false] at hq
        exact hq
    · rw [if_neg (by simpa using c1)]
      rw [decide_eq_false (show ¬ 1 ≤ numV u from c1), Bool.false_and] at hq
      exact hq
  · obtain ⟨u, v, y, z, rfl⟩ : ∃ u v y z, ws = [u, v, y, z] := by
      match ws, hlen with
      | [u, v, y, z], _ => exact ⟨u, v, y, z, rfl⟩
    refine seq_step fun N hN => ?_
    walk_at "rdn"
    rw [if_neg (by decide)]
    subst hN
    walk_at "rdn"
    have g : good31 4 (.tuple ([u, v, y, z].map fun w => .int (numV w))) = (decide (0 ≤ numV u) && decide (0 ≤ numV v) && (!decide (numV y = 0) || !decide (numV z = 0))) := rfl
    have hq := hq _ rfl
    rw [Bool.true_and, g] at hq
    by_cases c1 : numV u < 0
    · rw [if_pos (decide_eq_true c1)]
      rw [decide_eq_false (show ¬ 0 ≤ numV u by omega), Bool.false_and, Bool.false_and] at hq
      exact hq
    rw [if_neg (by simpa using c1)]
    rw [decide_eq_true (show 0 ≤ numV u by omega), Bool.true_and] at hq
    by_cases c2 : numV v < 0
    · rw [if_pos (decide_eq_true c2)]
      rw [decide_eq_false (show ¬ 0 ≤ numV v by omega), Bool.false_and] at hq
      exact hq
    rw [if_neg (by simpa using c2)]
    rw [decide_eq_true (show 0 ≤ numV v by omega), Bool.true_and] at hq
    by_cases c3 : numV y = 0
    · rw [if_pos (decide_eq_true c3)]
      rw [decide_eq_true c3] at hq
      by_cases c4 : numV z = 0
      · rw [if_pos (decide_eq_true c4)]
        rw [decide_eq_true c4] at hq
        exact hq
      · rw [if_neg (by simpa using c4)]
        rw [decide_eq_false c4] at hq
        exact hq
    · rw [if_neg (by simpa using c3)]
      rw [decide_eq_false c3] at hq
      exact hq
section
variable {P : Program} {w : World} {K : PySem.W.Frag} {mg : Str → Option Value} {base : Heap} {CN : String → Option Addr}
theorem ok__law_read {f : Addr} {fd : FuncData} (F : Fun K "_law_read" "_law_read" s__law_read f fd) (g : G K mg CN) (c__law_figure : CalP P w K mg base CN 1 "_law_figure" D__law_figure) : FnG P w K mg base 2 f fd ["line", "size"] (spP K CN D__law_read) := by
  have sc := sc__law_read
  exact fun_okP (m := m__law_read) F sc (by decide) len__law_read (fun cdv A outer s H E C W hw hr tk =>
    (pds_cons (pds_asg (ps_asg (pd_tupOf g.b_tuple (pd_lc (pe_lc (own := [("word", 3)]) rfl sc.nd (pdi_seq (pd_split (pe_bm PySem.F.plainAttrs_str PySem.F.slot_str_split PySem.F.type_str_split mt_split (dv 0) (pa_cons (pd_ifE (pdt_cmp (or_eqD (RoomG.u64 hr)) rl_eq (dv 1) pd_int (nomark _)) pd_str pd_str) pa_nil)))) (blkOk_by (N := ["line", "size", "found", "word"]) (sc := (defScope s__law_read)) (by decide +kernel)) (fun _ _ _ _ _ => (dgv 3 (vs := [3]) sc.nd)) (fun _ _ _ _ _ => pdts_nil) (fun _ _ _ _ _ => (pd_call c__law_figure hr (by decide) takesF (pda_cons (dv 3) pda_nil)))))) (dg 2 sc.nd)))
    (pds_cons (pds_if (pdt_ofw (pdw_or (pdt_cmp (or_neD (RoomG.u64 hr)) rl_ne (pd_callB cr_len rc_len g.b_len (by decide +kernel) (pda_cons (dv 2) pda_nil)) (dv 1) (nomark _)) (pdw_or1 (pdt_cmp or_in rl_in pd_non (dv 2) rfl)))) (pds_one (pds_ret (pdr_of pd_non))) pds_nil)
    (pds_cons (pds_if (pdt_cmp (or_eqD (RoomG.u64 hr)) rl_eq (dv 1) pd_int (nomark _)) (pds_one (pds_ret (pdr_of (pd_ifE (pdt_ofw (pdw_and (pdt_cmp op_gt rl_cmpI (pd_ix ix_seq rl_ix (dv 2) pd_int) pd_int (nomark _)) (pdw_and1 (pdt_cmp op_gt rl_cmpI (pd_ix ix_seq rl_ix (dv 2) pd_int) pd_int (nomark _))))) (dv 2) pd_non)))) pds_nil)
    (pds_cons (pds_if (pdt_ofw (pdw_or (pdt_cmp op_lt rl_cmpI (pd_ix ix_seq rl_ix (dv 2) pd_int) pd_int (nomark _)) (pdw_or (pdt_cmp op_lt rl_cmpI (pd_ix ix_seq rl_ix (dv 2) pd_int) pd_int (nomark _)) (pdw_or1 (pdt_ofw (pdw_and (pdt_cmp (or_eqD (RoomG.u64 hr)) rl_eq (pd_ix ix_seq rl_ix (dv 2) pd_int) pd_int (nomark _)) (pdw_and1 (pdt_cmp (or_eqD (RoomG.u64 hr)) rl_eq (pd_ix ix_seq rl_ix (dv 2) pd_int) pd_int (nomark _))))))))) (pds_one (pds_ret (pdr_of pd_non))) pds_nil)
    (pds_one (pds_ret (pdr_of (dv 2))))))))) rd__law_read
end
end LW
namespace LW
open PySem PySem.Spec PyProof.Rows L2 DL
def m__law_told (W : WD) : MS :=
  mTry (fun Wd => mSeq (mIf (mT (mOp2 opEq (mVar 0) (mC (.int 0)))) (mRet (mrOf (mCall D_parse_table Wd (mCons (mVar 1) (mNil))))) (mNext))
  (mSeq (mIf (mT (mOp2 opEq (mVar 0) (mC (.int 1)))) (mRet (mrOf (mCallK D_parse_table Wd (gSel 0 1 [.k 0]) mNil (mCons (mVar 1) (mNil))))) (mNext))
  (mSeq (mIf (mT (mOp2 opEq (mVar 0) (mC (.int 2)))) (mRet (mrOf (mCall D_parse_shot Wd (mCons (mVar 1) (mNil))))) (mNext))
  (mSeq (mIf (mT (mOp2 opEq (mVar 0) (mC (.int 3)))) (mRet (mrOf (mCallK D_parse_shot Wd (gSel 0 1 [.k 0]) mNil (mCons (mVar 1) (mNil))))) (mNext))
  (mSeq (mIf (mT (mOp2 opEq (mVar 0) (mC (.int 4)))) (mRet (mrOf (mIfE (mT (mOp1 (bIsi [.kTup]) (mVar 1))) (mCall D_format_table Wd (mCons (mVar 1) (mNil))) (mCallK D_format_table Wd (gSel 0 1 [.k 0]) mNil (mCons (mVar 1) (mNil)))))) (mNext))
  (mRet (mrOf (mIfE (mT (mOp1 (bIsi [.kTup]) (mVar 1))) (mCall D_format_shot Wd (mCons (mVar 1) (mNil))) (mCallK D_format_shot Wd (gSel 0 1 [.k 0]) mNil (mCons (mVar 1) (mNil))))))))))) 3 (fun c => isSub c "ShotError") (fun c a => mSeq (mAsgR 2 (mrLst (mCons (mIsE 3 a (isSub c "InvalidText")) (mCons (mIsE 3 a (isSub c "InvalidTable")) (mNil)))))
  (mSeq (mApp 2 (mIsE 3 a (isSub c "InvalidShot")))
  (mSeq (mIf (mTOr (mTNot (mT (mIsE 3 a (isSub c "ValueError")))) (mT (mOp2 opNe (mMeth opCnt (mVar 2) (mC (.bool true))) (mC (.int 1))))) (mRet (mrOf (mC (.int 0)))) (mNext))
  (mRet (mrOf (mOp2 opIx (mLst (mCons (mLst (mCons (mC (.str "text")) (mNil))) (mCons (mLst (mCons (mC (.str "table")) (mNil))) (mCons (mLst (mCons (mC (.str "shot")) (mNil))) (mNil))))) (mMeth opIdx (mVar 2) (mC (.bool true))))))))) W
/-- what is told of one call -/
def Told31 (w : Int) (X : PyData) (r : PyData) : Prop :=
  ((w = 0 ∨ w = 1) ∧ ((isTx X = false ∧ r = .list [.str "text"]) ∨ ∃ z : Str, X = .str z ∧ z.length ≤ 900 ∧ r = ans31 (rd31 120 isTab (cs z)))) ∨
  ((w = 2 ∨ w = 3) ∧ ((isTx X = false ∧ r = .list [.str "text"]) ∨ ∃ z : Str, X = .str z ∧ z.length ≤ 900 ∧ r = ans31 (rd31 32 isAny (cs z)))) ∨
  (w = 4 ∧ ((isTab X = false ∧ r = .list [.str "table"]) ∨ ∃ a b : Int, isTab X = true ∧ X = .tuple [.int a, .int b] ∧ sz 2000 a ∧ sz 2000 b ∧ r = .str (tx (glue 120 [decL a, decL b])))) ∨
  (w = 5 ∧ ((isAny X = false ∧ r = .list [.str "shot"]) ∨ ∃ x y p q : Int, isAny X = true ∧ X = .tuple [.int x, .int y, .int p, .int q] ∧ (sz 2000 x ∧ sz 2000 y ∧ sz 2000 p ∧ sz 2000 q) ∧ r = .str (tx (glue 32 [decL x, decL y, decL p, decL q]))))
def D__law_told : PSpec := fun ds Q _ => ∃ w X r, ds = [.int w, X] ∧ Told31 w X r ∧ Q (.va r)
theorem len__law_told : ∀ ds Q E, D__law_told ds Q E → ds.length = 2 := by
  rintro _ Q E ⟨w, X, r, rfl, _⟩
  rfl
/-- the class that is raised, and what tells it -/
def Word31 (c : String) (r : PyData) : Prop := (c = "InvalidText" ∧ r = .list [.str "text"]) ∨ (c = "InvalidTable" ∧ r = .list [.str "table"]) ∨ (c = "InvalidShot" ∧ r = .list [.str "shot"])
theorem parseT {X r : PyData} {Q : S → Prop} {E : String → Prop} (h : (isTx X = false ∧ r = .list [.str "text"]) ∨ ∃ z : Str, X = .str z ∧ z.length ≤ 900 ∧ r = ans31 (rd31 120 isTab (cs z))) (e : ∀ c, Word31 c r → E c) (q : Q (.va r)) : D_parse_table [X] Q E := by
  rcases h with ⟨h1, h2⟩ | ⟨z, rfl, hz, rfl⟩
  · exact ⟨X, rfl, fun _ => e _ (.inl ⟨rfl, h2⟩), fun z h => by rw [h] at h1; cases h1⟩
  · refine ⟨_, rfl, fun h => (by cases h), fun z' h => ?_⟩
    cases h
    refine ⟨hz, fun h => ?_, fun r h => ?_⟩
    · exact e _ (.inl ⟨rfl, by rw [h]; rfl⟩)
    · rw [h] at q; exact q
theorem parseS {X r : PyData} {Q : S → Prop} {E : String → Prop} (h : (isTx X = false ∧ r = .list [.str "text"]) ∨ ∃ z : Str, X = .str z ∧ z.length ≤ 900 ∧ r = ans31 (rd31 32 isAny (cs z))) (e : ∀ c, Word31 c r → E c) (q : Q (.va r)) : D_parse_shot [X] Q E := by
  rcases h with ⟨h1, h2⟩ | ⟨z, rfl, hz, rfl⟩
  · exact ⟨X, rfl, fun _ => e _ (.inl ⟨rfl, h2⟩), fun z h => by rw [h] at h1; cases h1⟩
  · refine ⟨_, rfl, fun h => (by cases h), fun z' h => ?_⟩
    cases h
    refine ⟨hz, fun h => ?_, fun r h => ?_⟩
    · exact e _ (.inl ⟨rfl, by rw [h]; rfl⟩)
    · rw [h] at q; exact q
theorem formT {X r : PyData} {Q : S → Prop} {E : String → Prop} (h : (isTab X = false ∧ r = .list [.str "table"]) ∨ ∃ a b : Int, isTab X = true ∧ X = .tuple [.int a, .int b] ∧ sz 2000 a ∧ sz 2000 b ∧ r = .str (tx (glue 120 [decL a, decL b]))) (e : ∀ c, Word31 c r → E c) (q : Q (.va r)) : D_format_table [X] Q E := by
  rcases h with ⟨h1, h2⟩ | ⟨a, b, h1, rfl, z1, z2, rfl⟩
  · exact ⟨X, rfl, fun _ => e _ (.inr (.inl ⟨rfl, h2⟩)), fun z => by rw [h1] at z; cases z⟩
  · exact ⟨_, rfl, fun z => (by rw [h1] at z; cases z), fun _ => ⟨a, b, rfl, ⟨z1, z2⟩, q⟩⟩
theorem formS {X r : PyData} {Q : S → Prop} {E : String → Prop} (h : (isAny X = false ∧ r = .list [.str "shot"]) ∨ ∃ x y p q : Int, isAny X = true ∧ X = .tuple [.int x, .int y, .int p, .int q] ∧ (sz 2000 x ∧ sz 2000 y ∧ sz 2000 p ∧ sz 2000 q) ∧ r = .str (tx (glue 32 [decL x, decL y, decL p, decL q]))) (e : ∀ c, Word31 c r → E c) (q : Q (.va r)) : D_format_shot [X] Q E := by
  rcases h with ⟨h1, h2⟩ | ⟨x, y, p, s, h1, rfl, z, rfl⟩
  · exact ⟨X, rfl, fun _ => e _ (.inr (.inr ⟨rfl, h2⟩)), fun z => by rw [h1] at z; cases z⟩
  · exact ⟨_, rfl, fun z => (by rw [h1] at z; cases z), fun _ => ⟨x, y, p, s, rfl, z, q⟩⟩
theorem ite_two {c : Prop} [Decidable c] {P R : Prop} (h1 : P) (h2 : R) : if c then P else R := by
  split <;> assumption
theorem kind31 (X : PyData) : ∃ t : Bool, bIsi [.kTup] X = some (.bool t) := by
  cases X <;> exact ⟨_, rfl⟩
theorem rd__law_told : ∀ ds Q E, D__law_told ds Q E → m__law_told (fun c _ => E c) (endP Q) (slots0 4 ds) := by
  rintro _ Q E ⟨w, X, r, rfl, ht, h⟩
  unfold m__law_told
  refine try_run (fun c s => Word31 c r ∧ s = [.va (.int w), .va X, .no, .no]) ?_ ?_
  · rintro c s ⟨hc, rfl⟩
    have hs : isSub c "ShotError" = true := by rcases hc with ⟨rfl, rfl⟩ | ⟨rfl, rfl⟩ | ⟨rfl, rfl⟩ <;> decide +kernel
    have hv : isSub c "ValueError" = true := by rcases hc with ⟨rfl, rfl⟩ | ⟨rfl, rfl⟩ | ⟨rfl, rfl⟩ <;> decide +kernel
    refine ⟨hs, fun a => ?_⟩
    obtain ⟨b0, b1, b2, k, e0, e1, e2, ec, ei, er⟩ : ∃ (b0 b1 b2 : Bool) (k : Int), isSub c "InvalidText" = b0 ∧ isSub c "InvalidTable" = b1 ∧ isSub c "InvalidShot" = b2 ∧ opCnt [.bool b0, .bool b1, .bool b2] (.bool true) = some (.int 1) ∧ opIdx [.bool b0, .bool b1, .bool b2] (.bool true) = some (.int k) ∧ DL.atI [PyData.list [.str "text"], .list [.str "table"], .list [.str "shot"]] k = some r := by
      rcases hc with ⟨rfl, rfl⟩ | ⟨rfl, rfl⟩ | ⟨rfl, rfl⟩
      · exact ⟨true, false, false, 0, by decide +kernel, by decide +kernel, by decide +kernel, rfl, rfl, rfl⟩
      · exact ⟨false, true, false, 1, by decide +kernel, by decide +kernel, by decide +kernel, rfl, rfl, rfl⟩
      · exact ⟨false, false, true, 2, by decide +kernel, by decide +kernel, by decide +kernel, rfl, rfl, rfl⟩
    rw [hv, e0, e1, e2]
    refine seq_step fun N hN => ?_
    walk_at "rdn"
    simp only [mIsE, sget]
    refine ⟨trivial, trivial, ?_⟩
    try walk_at "rdn"
    subst hN
    refine seq_step fun N hN => ?_
    walk_at "rdn"
    simp only [mIsE, sget]
    refine ⟨trivial, ?_⟩
    try walk_at "rdn"
    subst hN
    refine ⟨by decide, ?_⟩
    refine seq_step fun N hN => ?_
    walk_at "rdn"
    simp only [mIsE, sget]
    refine ⟨trivial, ?_⟩
    try walk_at "rdn"
    simp only [mMeth, mVar, mC, sget, sset]
    refine ⟨_, rfl, _, ec, _, rfl, _, rfl, ?_⟩
    rw [if_neg (by decide)]
    subst hN
    walk_at "rdn"
    simp only [mMeth, mVar, mC, sget, sset]
    exact ⟨_, rfl, _, ei, _, er, h⟩
  · intro Wd hW
    have hW : ∀ c, Word31 c r → Wd c [.va (.int w), .va X, .no, .no] := fun c h => hW c _ ⟨h, rfl⟩
    rcases ht with ⟨rfl | rfl, ht⟩ | ⟨rfl | rfl, ht⟩ | ⟨rfl, ht⟩ | ⟨rfl, ht⟩
    · refine seq_step fun N hN => ?_
      walk_at "rdn"
      rw [if_pos (by decide)]
      exact parseT ht (fun c hc => hW c hc) ⟨_, rfl, h⟩
    · refine seq_step fun N hN => ?_
      walk_at "rdn"
      rw [if_neg (by decide)]
      subst hN
      refine seq_step fun N hN => ?_
      walk_at "rdn"
      rw [if_pos (by decide)]
      exact parseT ht (fun c hc => hW c hc) ⟨_, rfl, h⟩
    · refine seq_step fun N hN => ?_
      walk_at "rdn"
      rw [if_neg (by decide)]
      subst hN
      refine seq_step fun N hN => ?_
      walk_at "rdn"
      rw [if_neg (by decide)]
      subst hN
      refine seq_step fun N hN => ?_
      walk_at "rdn"
      rw [if_pos (by decide)]
      exact parseS ht (fun c hc => hW c hc) ⟨_, rfl, h⟩
    · refine seq_step fun N hN => ?_
      walk_at "rdn"
      rw [if_neg (by decide)]
      subst hN
      refine seq_step fun N hN => ?_
      walk_at "rdn"
      rw [if_neg (by decide)]
      subst hN
      refine seq_step fun N hN => ?_
      walk_at "rdn"
      rw [if_neg (by decide)]
      subst hN
      refine seq_step fun N hN => ?_
      walk_at "rdn"
      rw [if_pos (by decide)]
      exact parseS ht (fun c hc => hW c hc) ⟨_, rfl, h⟩
    · refine seq_step fun N hN => ?_
      walk_at "rdn"
      rw [if_neg (by decide)]
      subst hN
      refine seq_step fun N hN => ?_
      walk_at "rdn"
      rw [if_neg (by decide)]
      subst hN
      refine seq_step fun N hN => ?_
      walk_at "rdn"
      rw [if_neg (by decide)]
      subst hN
      refine seq_step fun N hN => ?_
      walk_at "rdn"
      rw [if_neg (by decide)]
      subst hN
      refine seq_step fun N hN => ?_
      walk_at "rdn"
      rw [if_pos (by decide)]
      exact ite_two (formT ht (fun c hc => hW c hc) ⟨_, rfl, h⟩) (formT ht (fun c hc => hW c hc) ⟨_, rfl, h⟩)
    · refine seq_step fun N hN => ?_
      walk_at "rdn"
      rw [if_neg (by decide)]
      subst hN
      refine seq_step fun N hN => ?_
      walk_at "rdn"
      rw [if_neg (by decide)]
      subst hN
      refine seq_step fun N hN => ?_
      walk_at "rdn"
      rw [if_neg (by decide)]
      subst hN
      refine seq_step fun N hN => ?_
      walk_at "rdn"
      rw [if_neg (by decide)]
      subst hN
      refine seq_step fun N hN => ?_
      walk_at "rdn"
      rw [if_neg (by decide)]
      subst hN
      walk_at "rdn"
      exact ite_two (formS ht (fun c hc => hW c hc) ⟨_, rfl, h⟩) (formS ht (fun c hc => hW c hc) ⟨_, rfl, h⟩)
section
variable {P : Program} {w : World} {K : PySem.W.Frag} {mg : Str → Option Value} {base : Heap} {CN : String → Option Addr}
theorem ok__law_told {f : Addr} {fd : FuncData} (F : Fun K "_law_told" "_law_told" s__law_told f fd) (g : G K mg CN) (c_format_shot : CalP P w K mg base CN 4 "format_shot" D_format_shot) (c_format_table : CalP P w K mg base CN 5 "format_table" D_format_table) (c_parse_shot : CalP P w K mg base CN 4 "parse_shot" D_parse_shot) (c_parse_table : CalP P w K mg base CN 4 "parse_table" D_parse_table) (kc_parse_table_0_text : CalK P w K mg base CN 4 "parse_table" D_parse_table ["text"] (gSel 0 1 [.k 0])) (kc_parse_shot_0_text : CalK P w K mg base CN 4 "parse_shot" D_parse_shot ["text"] (gSel 0 1 [.k 0])) (kc_format_table_0_table : CalK P w K mg base CN 5 "format_table" D_format_table ["table"] (gSel 0 1 [.k 0])) (kc_format_shot_0_shot : CalK P w K mg base CN 4 "format_shot" D_format_shot ["shot"] (gSel 0 1 [.k 0])) : FnG P w K mg base 6 f fd ["way", "thing"] (spP K CN D__law_told) := by
  obtain ⟨ch_ShotError, mh_ShotError, hx_ShotError⟩ := g.h_ShotError
  obtain ⟨ckt_InvalidShot, mt_InvalidShot, kt_InvalidShot⟩ := g.kt_InvalidShot
  obtain ⟨ckt_InvalidTable, mt_InvalidTable, kt_InvalidTable⟩ := g.kt_InvalidTable
  obtain ⟨ckt_InvalidText, mt_InvalidText, kt_InvalidText⟩ := g.kt_InvalidText
  have sc := sc__law_told
  exact fun_okP (m := m__law_told) F sc (by decide) len__law_told (fun cdv A outer s H E C W hw hr tk =>
    (pds_one (pds_try (i := 3) rfl rfl sc.nd rfl rfl ⟨rfl, by decide, .inl mh_ShotError⟩ tk hx_ShotError (fun F1 Wd pn xe tk1 po => (pds_cons (pds_if (pdt_cmp (or_eqD (RoomG.u64 hr)) rl_eq (dv 0) pd_int (nomark _)) (pds_one (pds_ret (pdr_of (pd_call c_parse_table hr (by decide) tk1 (pda_cons (dv 1) pda_nil))))) pds_nil)
    (pds_cons (pds_if (pdt_cmp (or_eqD (RoomG.u64 hr)) rl_eq (dv 0) pd_int (nomark _)) (pds_one (pds_ret (pdr_of (pd_callK0 kc_parse_table_0_text hr (by decide) tk1 (pdk_cons (dv 1) pdk_nil))))) pds_nil)
    (pds_cons (pds_if (pdt_cmp (or_eqD (RoomG.u64 hr)) rl_eq (dv 0) pd_int (nomark _)) (pds_one (pds_ret (pdr_of (pd_call c_parse_shot hr (by decide) tk1 (pda_cons (dv 1) pda_nil))))) pds_nil)
    (pds_cons (pds_if (pdt_cmp (or_eqD (RoomG.u64 hr)) rl_eq (dv 0) pd_int (nomark _)) (pds_one (pds_ret (pdr_of (pd_callK0 kc_parse_shot_0_text hr (by decide) tk1 (pdk_cons (dv 1) pdk_nil))))) pds_nil)
    (pds_cons (pds_if (pdt_cmp (or_eqD (RoomG.u64 hr)) rl_eq (dv 0) pd_int (nomark _)) (pds_one (pds_ret (pdr_of (pd_ifE (pdt_val (pd_isi1 .kTup g.b_isinstance g.b_tuple (dv 1))) (pd_call c_format_table hr (by decide) tk1 (pda_cons (dv 1) pda_nil)) (pd_callK0 kc_format_table_0_table hr (by decide) tk1 (pdk_cons (dv 1) pdk_nil)))))) pds_nil)
    (pds_one (pds_ret (pdr_of (pd_ifE (pdt_val (pd_isi1 .kTup g.b_isinstance g.b_tuple (dv 1))) (pd_call c_format_shot hr (by decide) tk1 (pda_cons (dv 1) pda_nil)) (pd_callK0 kc_format_shot_0_shot hr (by decide) tk1 (pdk_cons (dv 1) pdk_nil)))))))))))) (fun a oe pn c A hA hz hfl => (pds_cons (pds_asgR (ps_set (i := 2) sc.nd rfl (.inl rfl) (pdr_lst (pda_cons (pd_isE (tv := .ref ckt_InvalidText) (g.ec c A hA) hz hfl g.b_isinstance (kt_InvalidText c A hA) (fun _ r => r) rfl (.inl rfl) (pe_glob rfl mt_InvalidText rfl)) (pda_cons (pd_isE (tv := .ref ckt_InvalidTable) (g.ec c A hA) hz hfl g.b_isinstance (kt_InvalidTable c A hA) (fun _ r => r) rfl (.inl rfl) (pe_glob rfl mt_InvalidTable rfl)) pda_nil)))))
    (pds_cons (pds_app (ps_expr (pe_bm PySem.F.plainAttrs_list PySem.F.slot_list_append PySem.F.type_list_append mt_append (pv 2) (pa_cons (pd_isE (tv := .ref ckt_InvalidShot) (g.ec c A hA) hz hfl g.b_isinstance (kt_InvalidShot c A hA) (fun _ r => r) rfl (.inl rfl) (pe_glob rfl mt_InvalidShot rfl)) pa_nil))))
    (pds_cons (pds_if (pdt_ofw (pdw_or (pdt_not (pdt_val (pd_isE (tv := .ty "ValueError") (g.ec c A hA) hz hfl g.b_isinstance (g.kb_ValueError c A hA) (fun _ r => r) rfl (.inl rfl) (pe_bltn (v := .ty "ValueError") rfl g.b_ValueError (by decide +kernel) rfl (by decide) (by decide))))) (pdw_or1 (pdt_cmp (or_neD (by have h := RoomG.u64 hr; exact h)) rl_ne (pd_count (dv 2) pd_bl (pe_bm PySem.F.plainAttrs_list PySem.F.slot_list_count PySem.F.type_list_count mt_countF (dv 2) (pa_cons pd_bl pa_nil))) pd_int (nomark _))))) (pds_one (pds_ret (pdr_of pd_int))) pds_nil)
    (pds_one (pds_ret (pdr_of (pd_ix ix_seq rl_ix (pd_lst (pda_cons (pd_lst (pda_cons pd_str pda_nil)) (pda_cons (pd_lst (pda_cons pd_str pda_nil)) (pda_cons (pd_lst (pda_cons pd_str pda_nil)) pda_nil)))) (pd_index (dv 2) pd_bl (pe_bm PySem.F.plainAttrs_list PySem.F.slot_list_index PySem.F.type_list_index mt_index (dv 2) (pa_cons pd_bl pa_nil)))))))))))))) rd__law_told
end
end LW
namespace LW
open PySem PySem.Spec PyProof.Rows L2 DL
def m__law_longest (W : WD) : MS :=
  mSeq (mAsg (mTup (mCons (mC (.int 0)) (mCons (mC (.int 0)) (mNil)))) (mgTup 2 (mgCons (mgName 1) (mgCons (mgName 2) (mgNil)))))
  (mSeq (mFor (miStr (mVar 0)) (mgName 3) (mSeq (mAsg (mIfE (mT (mChain opLeS opLeS (mC (.str "0")) (mVar 3) (mC (.str "9")))) (mOp2 opAdd (mVar 2) (mC (.int 1))) (mC (.int 0))) (mgName 2))
  (mAsg (mCallB bMax (mCons (mVar 1) (mCons (mVar 2) (mNil)))) (mgName 1))))
  (mRet (mrOf (mVar 1))))
def D__law_longest : PSpec := fun ds Q _ => ∃ l : List Nat, ds = [.str (tx l)] ∧ l.length ≤ 9000 ∧ ∀ k : Int, Q (.va (.int k))
theorem len__law_longest : ∀ ds Q E, D__law_longest ds Q E → ds.length = 1 := by
  rintro _ Q E ⟨l, rfl, _⟩
  rfl
theorem rd__law_longest : ∀ ds Q E, D__law_longest ds Q E → m__law_longest (fun c _ => E c) (endP Q) (slots0 4 ds) := by
  rintro _ Q E ⟨l, rfl, hl, q⟩
  unfold m__law_longest
  refine seq_step fun N hN => ?_
  walk_at "rdn"
  subst hN
  refine seq_step fun N hN => ?_
  simp only [mFor, miStr, mVar, sget]
  refine ⟨_, rfl, ?_⟩
  rw [signs_tx]
  refine forL_run (fun rr s => (∀ d ∈ rr, ∃ c, d = chS c) ∧ ∃ (i j : Int) (x : S), s = [.va (.str (tx l)), .va (.int i), .va (.int j), x]) ?_ ?_ _ _ ⟨fun d hd => by obtain ⟨c, -, rfl⟩ := List.mem_map.mp hd; exact ⟨c, rfl⟩, 0, 0, .no, rfl⟩
  · rintro d rr s N' ⟨hd, i, j, x, rfl⟩ hN'
    obtain ⟨c, rfl⟩ := hd d (by simp)
    have hd' := fun d h => hd d (List.mem_cons_of_mem _ h)
    simp only [mgName, sset]
    refine seq_step fun N3 hN3 => ?_
    have go : ∀ (k : Int), N3 [.va (.str (tx l)), .va (.int i), .va (.int k), .va (chS c)] := fun k => by
      subst hN3
      walk_at "rdn"
      exact hN' _ ⟨hd', _, _, _, rfl⟩
    simp only [mAsg, mIfE, mT, mChain, mC, mVar, sget]
    refine ⟨_, leS_lo c, ?_⟩
    by_cases a : 48 ≤ c
    · rw [if_pos (decide_eq_true a)]
      refine ⟨_, leS_hi c, _, rfl, ?_⟩
      by_cases b : c ≤ 57
      · rw [decide_eq_true b, if_pos rfl]
        walk_at "rdn"
        exact go _
      · rw [decide_eq_false b, if_neg (by decide)]
        walk_at "rdn"
        exact go _
    · rw [if_neg (by simp [a])]
      refine ⟨_, rfl, ?_⟩
      rw [if_neg (by decide)]
      walk_at "rdn"
      exact go _
  · rintro s ⟨hd, i, j, x, rfl⟩
    subst hN
    walk_at "rdn"
    exact q _
section
variable {P : Program} {w : World} {K : PySem.W.Frag} {mg : Str → Option Value} {base : Heap} {CN : String → Option Addr}
theorem ok__law_longest {f : Addr} {fd : FuncData} (F : Fun K "_law_longest" "_law_longest" s__law_longest f fd) (g : G K mg CN)  : FnG P w K mg base 1 f fd ["line"] (spP K CN D__law_longest) := by
  have sc := sc__law_longest
  exact fun_okP (m := m__law_longest) F sc (by decide) len__law_longest (fun cdv A outer s H E C W hw hr tk =>
    (pds_cons (pds_asg (ps_asg (pd_tup (pda_cons pd_int (pda_cons pd_int pda_nil))) (pdg_tup rfl (gcons (dg 1 sc.nd) (gcons (dg 2 sc.nd) pdgs_nil)))))
    (pds_cons (pds_for (ps_for psw rfl (pdi_str (dv 0)) (dg 3 sc.nd) (pds_cons (pds_asg (ps_asg (pd_ifE (pdt_chain2 op_le_str op_le_str rl_leS rl_leS pd_str (dv 3) pd_str) (pd_op or_add rl_add (dv 2) pd_int) pd_int) (dg 2 sc.nd)))
    (pds_one (pds_asg (ps_asg (pd_callB (call_max2 rfl) rc_max g.b_max (by decide +kernel) (pda_cons (dv 1) (pda_cons (dv 2) pda_nil))) (dg 1 sc.nd)))))))
    (pds_one (pds_ret (pdr_of (dv 1))))))) rd__law_longest
end
end LW
namespace LW
open PySem PySem.Spec PyProof.Rows L2 DL
def m__law_bent : MS :=
  mSeq (mAsg (mCallW dDraw 0 (mCons (mOp2 opAdd (mCallB bLen (mCons (mVar 1) (mNil))) (mC (.int 1))) (mNil))) (mgName 2))
  (mSeq (mAsg (mLst (mCons (mC (.str " ")) (mCons (mC (.str "x")) (mCons (mC (.str "-")) (mCons (mC (.str "0")) (mCons (mC (.str "1")) (mCons (mC (.str "+")) (mCons (mC (.str "_")) (mCons (mC (.str "X")) (mCons (mC (.str "a")) (mCons (mC (.str ".")) (mCons (mC (.str "	")) (mCons (mC (.str "\n")) (mCons (mC (.str " 0")) (mCons (mC (.str "-0")) (mNil)))))))))))))))) (mgName 3))
  (mSeq (mAsg (mOp2 opIx (mVar 3) (mCallW dDraw 0 (mCons (mC (.int 14)) (mNil)))) (mgName 4))
  (mSeq (mAsg (mCallW dDraw 0 (mCons (mC (.int 4)) (mNil))) (mgName 5))
  (mRet (mrOf (mOp2 opAdd (mOp2 opAdd (mSl opSl (mVar 1) mNoPart (mPart (mVar 2))) (mOp2 opIx (mLst (mCons (mVar 4) (mCons (mVar 4) (mCons (mC (.str "")) (mCons (mSl opSl (mVar 1) (mPart (mVar 2)) (mPart (mOp2 opAdd (mVar 2) (mC (.int 2))))) (mNil)))))) (mVar 5))) (mSl opSl (mVar 1) (mPart (mOp2 opAdd (mVar 2) (mOp2 opIx (mLst (mCons (mC (.int 0)) (mCons (mC (.int 1)) (mCons (mC (.int 1)) (mCons (mC (.int 0)) (mNil)))))) (mVar 5)))) mNoPart)))))))
def D__law_bent : WSpec := fun n ds Q => ∃ l : List Nat, ds = [.str (tx l)] ∧ 3 ≤ n ∧ l.length ≤ 9000 ∧ (∀ c ∈ l, c < 128) ∧ ∀ l' : List Nat, l'.length ≤ l.length + 3 → (∀ c ∈ l', c < 128) → Q (.va (.str (tx l'))) (n - 3)
theorem len__law_bent : ∀ n ds Q, D__law_bent n ds Q → ds.length + 1 = 2 := by
  rintro n _ Q ⟨l, rfl, _⟩
  rfl
theorem cut_len (l : List Nat) (lo hi : Option Int) : (cutL l lo hi).length ≤ l.length := cutL_len
theorem opSl_s {z : Str} {lo hi : Option Int} (h : z.length ≤ 100000) : opSl (.str z) lo hi = some (.str (tx (cutL (cs z) lo hi))) := if_pos h
theorem cut_le2 (l : List Nat) (r : Nat) : (cutL l (some (r : Int)) (some ((r : Int) + 2))).length ≤ 2 := by
  unfold cutL
  rw [List.length_take]
  have : sIx l.length l.length (some ((r : Int) + 2)) ≤ sIx l.length 0 (some (r : Int)) + 2 := by
    unfold sIx
    dsimp only
    rw [if_neg (by omega), if_neg (by omega)]
    omega
  omega
theorem cut_two (l : List Nat) (r s : Nat) (h : r ≤ s) : (cutL l none (some (r : Int))).length + (cutL l (some (s : Int)) none).length ≤ l.length := by
  unfold cutL
  have e1 : sIx l.length 0 none = 0 := rfl
  have e2 : sIx l.length l.length none = l.length := rfl
  have e3 : ∀ d r : Nat, sIx l.length d (some (r : Int)) = min r l.length := by
    intro d r
    unfold sIx
    dsimp only
    rw [if_neg (by omega)]
    omega
  rw [e1, e2, e3, e3, List.length_take, List.length_take, List.length_drop, List.length_drop]
  omega
theorem cut_mem {l : List Nat} {lo hi : Option Int} {c : Nat} (h : c ∈ cutL l lo hi) : c ∈ l := by
  unfold cutL at h
  exact List.mem_of_mem_drop (List.mem_of_mem_take h)
theorem rd__law_bent : ∀ n ds Q, D__law_bent n ds Q → m__law_bent (endW Q) (slotsW 6 n ds) := by
  rintro n _ Q ⟨l, rfl, hn, hl, h128, q⟩
  unfold m__law_bent
  have bl : bLen [.str (tx l)] = some (.int (l.length : Int)) := by
    show (if (tx l).length ≤ 100000 then some (PyData.int ((tx l).length : Int)) else none) = _
    rw [if_pos (by rw [len_tx]; omega), len_tx]
  refine seq_step fun N hN => ?_
  walk_at "rdn"
  refine ⟨_, bl, _, rfl, ?_⟩
  refine dr (by omega) (by omega) ?_ fun u u0 u1 => ⟨_, rfl, ?_⟩
  · exact Int.lt_of_le_of_lt (show ((l.length : Int) + 1) ≤ 10000 by omega) (by decide)
  obtain ⟨a, rfl⟩ : ∃ a : Nat, u = (a : Int) := ⟨u.toNat, by omega⟩
  subst hN
  refine seq_step fun N hN => ?_
  walk_at "rdn"
  subst hN
  refine seq_step fun N hN => ?_
  walk_at "rdn"
  refine dr (by omega) (by decide) (by decide) fun v v0 v1 => ⟨_, rfl, ?_⟩
  obtain ⟨t, ht, t128, hs⟩ : ∃ t : List Nat, t.length ≤ 2 ∧ (∀ c ∈ t, c < 128) ∧ DL.atI [PyData.str " ", .str "x", .str "-", .str "0", .str "1", .str "+", .str "_", .str "X", .str "a", .str ".", .str "\t", .str "\n", .str " 0", .str "-0"] v = some (.str (tx t)) := by
    have c : v = 0 ∨ v = 1 ∨ v = 2 ∨ v = 3 ∨ v = 4 ∨ v = 5 ∨ v = 6 ∨ v = 7 ∨ v = 8 ∨ v = 9 ∨ v = 10 ∨ v = 11 ∨ v = 12 ∨ v = 13 := by omega
    rcases c with rfl | rfl | rfl | rfl | rfl | rfl | rfl | rfl | rfl | rfl | rfl | rfl | rfl | rfl
    · exact ⟨[32], by decide, by decide, rfl⟩
    · exact ⟨[120], by decide, by decide, rfl⟩
    · exact ⟨[45], by decide, by decide, rfl⟩
    · exact ⟨[48], by decide, by decide, rfl⟩
    · exact ⟨[49], by decide, by decide, rfl⟩
    · exact ⟨[43], by decide, by decide, rfl⟩
    · exact ⟨[95], by decide, by decide, rfl⟩
    · exact ⟨[88], by decide, by decide, rfl⟩
    · exact ⟨[97], by decide, by decide, rfl⟩
    · exact ⟨[46], by decide, by decide, rfl⟩
    · exact ⟨[9], by decide, by decide, rfl⟩
    · exact ⟨[10], by decide, by decide, rfl⟩
    · exact ⟨[32, 48], by decide, by decide, rfl⟩
    · exact ⟨[45, 48], by decide, by decide, rfl⟩
  refine ⟨_, hs, ?_⟩
  subst hN
  refine seq_step fun N hN => ?_
  walk_at "rdn"
  refine dr (by omega) (by decide) (by decide) fun w w0 w1 => ⟨_, rfl, ?_⟩
  subst hN
  have s1 : ∀ lo hi, opSl (.str (tx l)) lo hi = some (.str (tx (cutL l lo hi))) := fun lo hi => by
    show (if (tx l).length ≤ 100000 then some (PyData.str ⟨(DL.cutL (tx l).cps.toList lo hi).toArray⟩) else none) = _
    rw [if_pos (by rw [len_tx]; omega)]
    rfl
  have ad : ∀ x y : List Nat, x.length + y.length ≤ 100000 → opAdd (.str (tx x)) (.str (tx y)) = some (.str (tx (x ++ y))) := fun x y h => by
    rw [← tx_app]
    exact if_pos (by rw [len_tx, len_tx]; exact h)
  have cw : w = 0 ∨ w = 1 ∨ w = 2 ∨ w = 3 := by omega
  walk_at "rdn"
  refine ⟨_, s1 _ _, _, s1 _ _, ?_⟩
  obtain ⟨m, b, f, hm, m128, hb, e1, e2, e3⟩ : ∃ (m : List Nat) (b : Nat) (f : Int), m.length ≤ 2 ∧ (∀ c ∈ m, c < 128) ∧ a ≤ b ∧ DL.atI [PyData.str (tx t), PyData.str (tx t), PyData.str "", PyData.str (tx (cutL l (some (a : Int)) (some ((a : Int) + 2))))] w = some (.str (tx m)) ∧ DL.atI [PyData.int 0, PyData.int 1, PyData.int 1, PyData.int 0] w = some (.int f) ∧ (a : Int) + f = (b : Int) := by
    rcases cw with rfl | rfl | rfl | rfl
    · exact ⟨t, a, 0, ht, t128, Nat.le_refl _, rfl, rfl, by omega⟩
    · exact ⟨t, a + 1, 1, ht, t128, by omega, rfl, rfl, by omega⟩
    · exact ⟨[], a + 1, 1, by decide, fun c hc => (by cases hc), by omega, rfl, rfl, by omega⟩
    · exact ⟨_, a, 0, cut_le2 l a, fun c hc => h128 c (cut_mem hc), Nat.le_refl _, rfl, rfl, by omega⟩
  have c2 := cut_two l a b hb
  refine ⟨_, e1, _, ad _ _ (by omega), _, e2, _, rfl, _, rfl, ?_⟩
  rw [e3]
  refine ⟨_, s1 _ _, _, ad _ _ (by rw [List.length_append]; omega), ?_⟩
  rw [show n - 1 - 1 - 1 = n - 3 by omega]
  refine q _ (by rw [List.length_append, List.length_append]; omega) fun c hc => ?_
  rcases List.mem_append.mp hc with hc | hc
  · rcases List.mem_append.mp hc with hc | hc
    · exact h128 c (cut_mem hc)
    · exact m128 c hc
  · exact h128 c (cut_mem hc)
section
variable {P : Program} {w : World} {K : PySem.W.Frag} {mg : Str → Option Value} {base : Heap} {CN : String → Option Addr}
theorem ok__law_bent {f : Addr} {fd : FuncData} (F : Fun K "_law_bent" "_law_bent" s__law_bent f fd) (g : G K mg CN) (c__law_draw : CalW P w K mg base 1 "_law_draw" dDraw) : FnG P w K mg base 2 f fd ["well", "line"] (spW K D__law_bent) := by
  have sc := sc__law_bent
  exact fun_okW (m := m__law_bent) (CN := CN) F sc (by decide) len__law_bent (fun cdv A outer s H E C hr tk =>
    (pds_cons (pds_asg (ps_asg (pd_callW c__law_draw hr (by decide) tk (pv 0) (pda_cons (pd_op or_add rl_add (pd_callB cr_len rc_len g.b_len (by decide +kernel) (pda_cons (dv 1) pda_nil)) pd_int) pda_nil)) (dg 2 sc.nd)))
    (pds_cons (pds_asg (ps_asg (pd_lst (pda_cons pd_str (pda_cons pd_str (pda_cons pd_str (pda_cons pd_str (pda_cons pd_str (pda_cons pd_str (pda_cons pd_str (pda_cons pd_str (pda_cons pd_str (pda_cons pd_str (pda_cons pd_str (pda_cons pd_str (pda_cons pd_str (pda_cons pd_str pda_nil))))))))))))))) (dg 3 sc.nd)))
    (pds_cons (pds_asg (ps_asg (pd_ix ix_seq rl_ix (dv 3) (pd_callW c__law_draw hr (by decide) tk (pv 0) (pda_cons pd_int pda_nil))) (dg 4 sc.nd)))
    (pds_cons (pds_asg (ps_asg (pd_callW c__law_draw hr (by decide) tk (pv 0) (pda_cons pd_int pda_nil)) (dg 5 sc.nd)))
    (pds_one (pds_ret (pdr_of (pd_op or_add rl_add (pd_op or_add rl_add (pd_slB (dv 1) (dv 2)) (pd_ix ix_seq rl_ix (pd_lst (pda_cons (dv 4) (pda_cons (dv 4) (pda_cons pd_str (pda_cons (pd_sl2 (dv 1) (dv 2) (pd_op or_add rl_add (dv 2) pd_int)) pda_nil))))) (dv 5))) (pd_slA (dv 1) (pd_op or_add rl_add (dv 2) (pd_ix ix_seq rl_ix (pd_lst (pda_cons pd_int (pda_cons pd_int (pda_cons pd_int (pda_cons pd_int pda_nil))))) (dv 5))))))))))))) rd__law_bent
end
end LW
namespace LW
open PySem PySem.Spec PyProof.Rows L2 DL
theorem read_table {a b : Int} (a1 : 1 ≤ a) (b1 : 1 ≤ b) : rd31 120 isTab (glue 120 [decL a, decL b]) = some (.tuple [.int a, .int b]) := by
  have e : spl 120 (glue 120 [decL a, decL b]) = [decL a, decL b] := by
    refine spl_glue 120 _ (by simp) fun w hw => ?_
    simp only [List.mem_cons, List.not_mem_nil, or_false] at hw
    rcases hw with rfl | rfl <;> exact decL_sp _ _ (.inr (by decide))
  unfold rd31
  rw [e]
  simp only [List.map_cons, List.map_nil, List.all_cons, List.all_nil, (decL_ok a).1, (decL_ok b).1, (decL_ok a).2, (decL_ok b).2, Bool.true_and]
  rw [if_pos (by simp [isTab, a1, b1])]
theorem read_shot {x y p q : Int} (h : isAny (.tuple [.int x, .int y, .int p, .int q]) = true) : rd31 32 isAny (glue 32 [decL x, decL y, decL p, decL q]) = some (.tuple [.int x, .int y, .int p, .int q]) := by
  have e : spl 32 (glue 32 [decL x, decL y, decL p, decL q]) = [decL x, decL y, decL p, decL q] := by
    refine spl_glue 32 _ (by simp) fun w hw => ?_
    simp only [List.mem_cons, List.not_mem_nil, or_false] at hw
    rcases hw with rfl | rfl | rfl | rfl <;> exact decL_sp _ _ (.inl (by decide))
  unfold rd31
  rw [e]
  simp only [List.map_cons, List.map_nil, List.all_cons, List.all_nil, (decL_ok x).1, (decL_ok y).1, (decL_ok p).1, (decL_ok q).1, (decL_ok x).2, (decL_ok y).2, (decL_ok p).2, (decL_ok q).2, Bool.true_and]
  rw [if_pos h]
theorem rd31_sd {c : Nat} {good : PyData → Bool} {l : List Nat} (j : Nat) (hl : l.length ≤ 900) : sd (j + 2) (ans31 (rd31 c good l)) = true := by
  unfold rd31
  split
  · obtain ⟨s1, -⟩ := spl_small (c := c) l
    show (decide (((spl c l).map fun w => PyData.int (numV w)).length ≤ 1000) && ((spl c l).map fun w => PyData.int (numV w)).all (sd (j + 1))) = true
    rw [List.length_map, decide_eq_true (by omega), List.all_map, Bool.true_and]
    exact List.all_eq_true.mpr fun w _ => rfl
  · have : PyData.strOk "text" = true := by decide +kernel
    simp [ans31, sd, this]
/-- a table or a shot, and how it is written -/
def Val31 (size : Int) (v : PyData) (l : List Nat) : Prop :=
  (size = 2 ∧ ∃ a b : Int, v = .tuple [.int a, .int b] ∧ 1 ≤ a ∧ 1 ≤ b ∧ sz 2000 a ∧ sz 2000 b ∧ l = glue 120 [decL a, decL b]) ∨
  (size = 4 ∧ ∃ x y p q : Int, v = .tuple [.int x, .int y, .int p, .int q] ∧ isAny v = true ∧ (sz 2000 x ∧ sz 2000 y ∧ sz 2000 p ∧ sz 2000 q) ∧ l = glue 32 [decL x, decL y, decL p, decL q])
def way31 (size : Int) : Int := if size = 2 then 0 else 2
theorem val_read {size : Int} {v : PyData} {l : List Nat} (h : Val31 size v l) : rd31 (sgn31 size) (good31 size) l = some v := by
  rcases h with ⟨rfl, a, b, rfl, a1, b1, -, -, rfl⟩ | ⟨rfl, x, y, p, q, rfl, h, -, rfl⟩
  · exact read_table a1 b1
  · exact read_shot h
theorem val_told {size : Int} {v : PyData} {l : List Nat} (h : Val31 size v l) : Told31 (4 + way31 size / 2) v (.str (tx l)) := by
  rcases h with ⟨rfl, a, b, rfl, a1, b1, z1, z2, rfl⟩ | ⟨rfl, x, y, p, q, rfl, h, z, rfl⟩
  · exact .inr (.inr (.inl ⟨rfl, .inr ⟨a, b, by simp [isTab, a1, b1], rfl, z1, z2, rfl⟩⟩))
  · exact .inr (.inr (.inr ⟨rfl, .inr ⟨x, y, p, q, h, rfl, z, rfl⟩⟩))
theorem told_read {size k : Int} {l : List Nat} (hs : size = 2 ∨ size = 4) (hk : k = 0 ∨ k = 1) (hl : l.length ≤ 900) : Told31 (way31 size + k) (.str (tx l)) (ans31 (rd31 (sgn31 size) (good31 size) l)) := by
  rcases hs with rfl | rfl
  · exact .inl ⟨by rcases hk with rfl | rfl <;> simp [way31], .inr ⟨_, rfl, hl, rfl⟩⟩
  · exact .inr (.inl ⟨by rcases hk with rfl | rfl <;> simp [way31], .inr ⟨_, rfl, hl, rfl⟩⟩)
theorem ite_no {c : Prop} {i : Decidable c} {P R : Prop} (h : ¬ c) (r : R) : @ite Prop c i P R := by
  rw [if_neg h]
  exact r
theorem no_word {c : String} {z : Str} : ¬ Word31 c (.str z) := by
  rintro (⟨-, h⟩ | ⟨-, h⟩ | ⟨-, h⟩) <;> cases h
theorem decL_128 (n : Int) : ∀ c ∈ decL n, c < 128 := by
  intro c hc
  have := decL_sp n c
  rcases Nat.lt_or_ge c 128 with h | h
  · exact h
  · exact absurd hc (this (.inr (by omega)))
theorem decL_30 {n : Int} (h : n.natAbs < 10 ^ 40) : (decL n).length ≤ 41 := by
  have := dig_len (n := n.natAbs) (k := 40) (by decide) h
  unfold decL
  split
  · rw [List.length_cons]; omega
  · omega
theorem strI {n : Int} (h : sz 1000 n) : bStrI [.int n] = some (.str (tx (decL n))) := by
  have lg := sz_log h
  show (if n.natAbs.log2 < 1920 then some (PyData.str (Str.ofString (toString n))) else none) = _
  rw [if_pos (by omega)]
  congr 2
  unfold decL
  by_cases c : n < 0
  · rw [if_pos c]
    obtain ⟨k, rfl⟩ : ∃ k : Nat, n = Int.negSucc k := ⟨(-n - 1).toNat, by omega⟩
    have e : toString (Int.negSucc k) = "-" ++ toString ((k + 1 : Nat) : Int) := rfl
    have := str_dig (k + 1)
    refine cs_inj ?_
    show (Str.ofString (toString (Int.negSucc k))).cps.toList = _
    rw [PyProof.Rows.signs_ofString, e]
    have t : (Str.ofString (toString ((k + 1 : Nat) : Int))).cps.toList = dig (k + 1) := by rw [this]; rfl
    rw [PyProof.Rows.signs_ofString] at t
    rw [String.toList_append, List.map_append, t]
    rfl
  · rw [if_neg c]
    obtain ⟨k, rfl⟩ : ∃ k : Nat, n = (k : Int) := ⟨n.toNat, by omega⟩
    exact str_dig k
end LW
namespace LW
open PySem PySem.Spec PyProof.Rows L2 DL
def m__law_right : MS :=
  mSeq (mAsg (mIfE (mT (mOp2 opEq (mVar 3) (mC (.int 2)))) (mC (.int 0)) (mC (.int 2))) (mgName 4))
  (mSeq (mIf (mT (mOp2 opNe (mCall D__law_told wF (mCons (mOp2 opAdd (mC (.int 4)) (mOp2 opFdiv (mVar 4) (mC (.int 2)))) (mCons (mVar 1) (mNil)))) (mVar 2))) (mRet (mrOf (mC (.bool false)))) (mNext))
  (mSeq (mAsg (mIfE (mT (mOp2 opEq (mVar 3) (mC (.int 2)))) (mCallK D_format_table wF (gSel 0 1 [.k 0]) mNil (mCons (mVar 1) (mNil))) (mCallK D_format_shot wF (gSel 0 1 [.k 0]) mNil (mCons (mVar 1) (mNil)))) (mgName 5))
  (mSeq (mIf (mT (mOp2 opNe (mVar 5) (mVar 2))) (mRet (mrOf (mC (.bool false)))) (mNext))
  (mSeq (mIf (mTNot (mT (mCall (D__law_same 5) wF (mCons (mLst (mCons (mCall D__law_told wF (mCons (mVar 4) (mCons (mVar 2) (mNil)))) (mCons (mCall D__law_told wF (mCons (mOp2 opAdd (mVar 4) (mC (.int 1))) (mCons (mVar 2) (mNil)))) (mNil)))) (mCons (mLst (mCons (mVar 1) (mCons (mVar 1) (mNil)))) (mNil)))))) (mRet (mrOf (mC (.bool false)))) (mNext))
  (mSeq (mFor (miRng1 (mCons (mC (.int 5)) (mNil))) (mgName 6) (mSeq (mAsg (mCallW D__law_bent 0 (mCons (mVar 2) (mNil))) (mgName 2))
  (mSeq (mIf (mT (mOp2 opGt (mCall D__law_longest wF (mCons (mVar 2) (mNil))) (mC (.int 40)))) (mBreak) (mNext))
  (mSeq (mAsg (mCall D__law_read wF (mCons (mVar 2) (mCons (mVar 3) (mNil)))) (mgName 7))
  (mIf (mTNot (mT (mCall (D__law_same 5) wF (mCons (mCall D__law_told wF (mCons (mVar 4) (mCons (mVar 2) (mNil)))) (mCons (mIfE (mT (mOp2 opIsN2 (mVar 7) (mC .none))) (mLst (mCons (mC (.str "text")) (mNil))) (mVar 7)) (mNil)))))) (mRet (mrOf (mC (.bool false)))) (mNext))))))
  (mRet (mrOf (mC (.bool true)))))))))
def D__law_right : WSpec := fun n ds Q => ∃ (v : PyData) (l : List Nat) (size : Int), ds = [v, .str (tx l), .int size] ∧ 20 ≤ n ∧ l.length ≤ 400 ∧ (∀ c ∈ l, c < 128) ∧ Val31 size v l ∧ ∀ n', n ≤ n' + 15 → Q (.va (.bool true)) n'
theorem len__law_right : ∀ n ds Q, D__law_right n ds Q → ds.length + 1 = 4 := by
  rintro n _ Q ⟨v, l, size, rfl, _⟩
  rfl
theorem rd__law_right : ∀ n ds Q, D__law_right n ds Q → m__law_right (endW Q) (slotsW 8 n ds) := by
  rintro n _ Q ⟨v, l, size, rfl, hn, hl, h128, hv, q⟩
  unfold m__law_right
  have hsz : size = 2 ∨ size = 4 := hv.imp (·.1) (·.1)
  have hrd := val_read hv
  have e31 : ans31 (rd31 (sgn31 size) (good31 size) l) = v := by rw [hrd]; rfl
  have svj : ∀ j, sd (j + 2) v = true := fun j => by rw [← e31]; exact rd31_sd j (by omega)
  have wy : way31 size = 0 ∨ way31 size = 2 := by rcases hsz with rfl | rfl <;> simp [way31]
  refine seq_run (fun s => s = [.well n, .va v, .va (.str (tx l)), .va (.int size), .va (.int (way31 size)), .no, .no, .no]) (fun N hN => ?_) ?_
  · walk_at "rdn"
    unfold way31 at hN
    by_cases c : size = 2
    · rw [if_pos (decide_eq_true c)]
      rw [if_pos c] at hN
      exact hN _ rfl
    · rw [if_neg (by simp [c])]
      rw [if_neg c] at hN
      exact hN _ rfl
  rintro _ rfl
  refine seq_step fun N hN => ?_
  refine if_run false (fun Q h => ?_) (fun hc => by cases hc) (fun _ => ?_)
  · walk_at "rdn"
    refine ⟨_, opFdiv_ok (k := 5) (by decide) (by unfold sz; decide) (by decide), _, rfl, ?_⟩
    refine ⟨_, _, _, rfl, val_told hv, _, rfl, ?_⟩
    refine ⟨_, opNe_str, _, rfl, ?_⟩
    rw [decide_eq_true rfl]
    exact h
  walk_at "rdn"
  subst hN
  refine seq_run (fun s => s = [.well n, .va v, .va (.str (tx l)), .va (.int size), .va (.int (way31 size)), .va (.str (tx l)), .no, .no]) (fun N hN => ?_) ?_
  · walk_at "rdn"
    have hN := hN _ rfl
    rcases hv with ⟨rfl, a, b, rfl, a1, b1, z1, z2, e⟩ | ⟨rfl, x, y, p, s, rfl, h, z, e⟩
    · rw [if_pos (by decide)]
      refine formT (.inr ⟨a, b, by simp [isTab, a1, b1], rfl, z1, z2, rfl⟩) (fun c hc => absurd hc no_word) ⟨_, rfl, ?_⟩
      rw [← e]
      exact hN
    · rw [if_neg (by decide)]
      refine formS (.inr ⟨x, y, p, s, h, rfl, z, rfl⟩) (fun c hc => absurd hc no_word) ⟨_, rfl, ?_⟩
      rw [← e]
      exact hN
  rintro _ rfl
  refine seq_step fun N hN => ?_
  refine if_run false (fun Q h => ?_) (fun hc => by cases hc) (fun _ => ?_)
  · walk_at "rdn"
    exact h
  walk_at "rdn"
  subst hN
  refine seq_step fun N hN => ?_
  refine if_run false (fun Q h => ?_) (fun hc => by cases hc) (fun _ => ?_)
  · walk_at "rdn"
    refine ⟨_, _, _, rfl, by have := told_read (k := 0) (l := l) hsz (.inl rfl) (by omega); rw [Int.add_zero] at this; exact this, _, rfl, ?_⟩
    refine ⟨_, _, _, rfl, told_read (k := 1) hsz (.inr rfl) (by omega), _, rfl, ?_⟩
    rw [e31]
    exact ⟨_, rfl, by simp [sd, svj 2], _, rfl, _, rfl, h⟩
  walk_at "rdn"
  subst hN
  refine seq_step fun N hN => ?_
  simp only [mFor, miRng1]
  walk_at "rdn"
  refine ⟨by decide, by decide, ?_⟩
  refine forL_run (fun rr s => ∃ (m : Nat) (l' : List Nat) (x6 x7 : S), s = [.well m, .va v, .va (.str (tx l')), .va (.int size), .va (.int (way31 size)), .va (.str (tx l)), x6, x7] ∧ m + 15 = n + 3 * rr.length ∧ l'.length + 3 * rr.length ≤ 415 ∧ ∀ c ∈ l', c < 128) ?_ ?_ _ _ ⟨n, l, _, _, rfl, ?_, ?_, h128⟩
  · rintro d rr s N' ⟨m, l', x6, x7, rfl, hm, hl', h128'⟩ hN'
    simp only [List.length_cons] at hm hl'
    simp only [mgName, sset]
    refine seq_step fun N3 hN3 => ?_
    walk_at "rdn"
    refine ⟨l', rfl, by omega, by omega, h128', fun l2 hl2 h2 => ⟨_, rfl, ?_⟩⟩
    subst hN3
    refine seq_step fun N3 hN3 => ?_
    walk_at "rdn"
    refine ⟨l2, rfl, by omega, fun k => ⟨_, rfl, ?_⟩⟩
    refine ⟨_, rfl, _, rfl, ?_⟩
    by_cases c : k > 40
    · rw [if_pos (decide_eq_true c)]
      subst hN
      walk_at "rdn"
      exact q _ (by omega)
    rw [if_neg (by simpa using c)]
    subst hN3
    refine seq_step fun N3 hN3 => ?_
    walk_at "rdn"
    refine ⟨l2, size, rfl, hsz, by omega, h2, _, rfl, ?_⟩
    subst hN3
    have s2 := fun j => rd31_sd (c := sgn31 size) (good := good31 size) (l := l2) j (by omega)
    refine if_run false (fun Q h => ?_) (fun hc => by cases hc) (fun _ => ?_)
    · walk_at "rdn"
      refine ⟨_, _, _, rfl, by have := told_read (k := 0) (l := l2) hsz (.inl rfl) (by omega); rw [Int.add_zero] at this; exact this, _, rfl, ?_⟩
      cases e : rd31 (sgn31 size) (good31 size) l2 with
      | none =>
        rw [e] at s2 h
        simp only [ornN, ans31] at s2 h ⊢
        rw [if_pos trivial]
        exact ⟨_, rfl, s2 3, _, rfl, _, rfl, h⟩
      | some d' =>
        obtain ⟨ys, rfl⟩ : ∃ ys, d' = .tuple ys := by
          unfold rd31 at e
          split at e
          · cases e; exact ⟨_, rfl⟩
          · cases e
        rw [e] at s2 h
        simp only [ornN, ans31] at s2 h ⊢
        exact ite_no (fun z => by cases z) ⟨_, rfl, s2 3, _, rfl, _, rfl, h⟩
    walk_at "rdn"
    exact hN' _ ⟨_, _, _, _, rfl, by omega, by omega, h2⟩
  · rintro s ⟨m, l', x6, x7, rfl, hm, hl', h128'⟩
    subst hN
    walk_at "rdn"
    exact q _ (by simp at hm; omega)
  · show n + 15 = n + 3 * 5
    rfl
  · show l.length + 3 * 5 ≤ 415
    omega
section
variable {P : Program} {w : World} {K : PySem.W.Frag} {mg : Str → Option Value} {base : Heap} {CN : String → Option Addr}
theorem ok__law_right {f : Addr} {fd : FuncData} (F : Fun K "_law_right" "_law_right" s__law_right f fd) (g : G K mg CN) (c__law_bent : CalW P w K mg base 2 "_law_bent" D__law_bent) (c__law_longest : CalP P w K mg base CN 1 "_law_longest" D__law_longest) (c__law_read : CalP P w K mg base CN 2 "_law_read" D__law_read) (c__law_same : CalP P w K mg base CN 6 "_law_same" (D__law_same 5)) (c__law_told : CalP P w K mg base CN 6 "_law_told" D__law_told) (kc_format_table_0_table : CalK P w K mg base CN 5 "format_table" D_format_table ["table"] (gSel 0 1 [.k 0])) (kc_format_shot_0_shot : CalK P w K mg base CN 4 "format_shot" D_format_shot ["shot"] (gSel 0 1 [.k 0])) : FnG P w K mg base 7 f fd ["well", "value_here", "line", "size"] (spW K D__law_right) := by
  have sc := sc__law_right
  exact fun_okW (m := m__law_right) (CN := CN) F sc (by decide) len__law_right (fun cdv A outer s H E C hr tk =>
    (pds_cons (pds_asg (ps_asg (pd_ifE (pdt_cmp (or_eqD (RoomG.u64 hr)) rl_eq (dv 3) pd_int (nomark _)) pd_int pd_int) (dg 4 sc.nd)))
    (pds_cons (pds_if (pdt_cmp (or_neD (RoomG.u64 hr)) rl_ne (pd_call c__law_told hr (by decide) tk (pda_cons (pd_op or_add rl_add pd_int (pd_op op_fdivW rl_fdiv (dv 4) pd_int)) (pda_cons (dv 1) pda_nil))) (dv 2) (nomark _)) (pds_one (pds_ret (pdr_of pd_bl))) pds_nil)
    (pds_cons (pds_asg (ps_asg (pd_ifE (pdt_cmp (or_eqD (RoomG.u64 hr)) rl_eq (dv 3) pd_int (nomark _)) (pd_callK0 kc_format_table_0_table hr (by decide) tk (pdk_cons (dv 1) pdk_nil)) (pd_callK0 kc_format_shot_0_shot hr (by decide) tk (pdk_cons (dv 1) pdk_nil))) (dg 5 sc.nd)))
    (pds_cons (pds_if (pdt_cmp (or_neD (RoomG.u64 hr)) rl_ne (dv 5) (dv 2) (nomark _)) (pds_one (pds_ret (pdr_of pd_bl))) pds_nil)
    (pds_cons (pds_if (pdt_not (pdt_val (pd_call c__law_same hr (by decide) tk (pda_cons (pd_lst (pda_cons (pd_call c__law_told hr (by decide) tk (pda_cons (dv 4) (pda_cons (dv 2) pda_nil))) (pda_cons (pd_call c__law_told hr (by decide) tk (pda_cons (pd_op or_add rl_add (dv 4) pd_int) (pda_cons (dv 2) pda_nil))) pda_nil))) (pda_cons (pd_lst (pda_cons (dv 1) (pda_cons (dv 1) pda_nil))) pda_nil))))) (pds_one (pds_ret (pdr_of pd_bl))) pds_nil)
    (pds_cons (pds_for (ps_for psw rfl (d_range1 g.b_range (pda_cons pd_int pda_nil)) (dg 6 sc.nd) (pds_cons (pds_asg (ps_asg (pd_callW c__law_bent hr (by decide) tk (pv 0) (pda_cons (dv 2) pda_nil)) (dg 2 sc.nd)))
    (pds_cons (pds_if (pdt_cmp op_gt rl_cmpI (pd_call c__law_longest hr (by decide) tk (pda_cons (dv 2) pda_nil)) pd_int (nomark _)) (pds_one pds_break) pds_nil)
    (pds_cons (pds_asg (ps_asg (pd_call c__law_read hr (by decide) tk (pda_cons (dv 2) (pda_cons (dv 3) pda_nil))) (dg 7 sc.nd)))
    (pds_one (pds_if (pdt_not (pdt_val (pd_call c__law_same hr (by decide) tk (pda_cons (pd_call c__law_told hr (by decide) tk (pda_cons (dv 4) (pda_cons (dv 2) pda_nil))) (pda_cons (pd_ifE (pdt_cmp op_isN rl_isN (dv 7) pd_non (nomark _)) (pd_lst (pda_cons pd_str pda_nil)) (dv 7)) pda_nil))))) (pds_one (pds_ret (pdr_of pd_bl))) pds_nil)))))))
    (pds_one (pds_ret (pdr_of pd_bl)))))))))) rd__law_right
end
end LW
namespace LW
open PySem PySem.Spec PyProof.Rows L2 DL
def m__law_refused : MS :=
  mSeq (mAsg (mLst (mCons (mC .none) (mCons (mC (.int 5)) (mCons (mC (.str "")) (mCons (mC (.str "4")) (mCons (mC (.str "4x")) (mCons (mC (.str "x2")) (mCons (mC (.str "4x0")) (mCons (mC (.str "04x2")) (mCons (mC (.str "4x2x1")) (mCons (mC (.str "4 x 2")) (mCons (mC (.str "4X2")) (mCons (mLst (mCons (mC (.str "4x2")) (mNil))) (mCons (mDict0) (mCons (mC (.str "-4x2")) (mNil)))))))))))))))) (mgName 3))
  (mSeq (mIf (mT (mOp2 opNe (mCall D__law_told wF (mCons (mCallW dDraw 0 (mCons (mC (.int 2)) (mNil))) (mCons (mOp2 opIx (mVar 3) (mCallW dDraw 0 (mCons (mC (.int 14)) (mNil)))) (mNil)))) (mLst (mCons (mC (.str "text")) (mNil))))) (mRet (mrOf (mC (.bool false)))) (mNext))
  (mSeq (mAsg (mLst (mCons (mC .none) (mCons (mC (.int 5)) (mCons (mC (.str "")) (mCons (mC (.str "0 0 0 0")) (mCons (mC (.str "1 1 1")) (mCons (mC (.str "1 1 1 1 1")) (mCons (mC (.str "-1 0 1 1")) (mCons (mC (.str "0 0 -0 1")) (mNil)))))))))) (mgName 3))
  (mSeq (mAsg (mOp2 opAdd (mVar 3) (mLst (mCons (mC (.str "0 0 01 1")) (mCons (mC (.str " 0 0 1 1")) (mCons (mC (.str "0,0,1,1")) (mNil)))))) (mgName 3))
  (mSeq (mIf (mT (mOp2 opNe (mCall D__law_told wF (mCons (mOp2 opAdd (mC (.int 2)) (mCallW dDraw 0 (mCons (mC (.int 2)) (mNil)))) (mCons (mOp2 opIx (mVar 3) (mCallW dDraw 0 (mCons (mC (.int 11)) (mNil)))) (mNil)))) (mLst (mCons (mC (.str "text")) (mNil))))) (mRet (mrOf (mC (.bool false)))) (mNext))
  (mSeq (mAsg (mLst (mCons (mC .none) (mCons (mTup (mNil)) (mCons (mCallB bList (mCons (mVar 1) (mNil))) (mCons (mTup (mCons (mC (.int 0)) (mCons (mC (.int 1)) (mNil)))) (mCons (mTup (mCons (mC (.int 1)) (mNil))) (mCons (mTup (mCons (mC (.int 1)) (mCons (mC (.int 1)) (mCons (mC (.int 1)) (mNil))))) (mCons (mC (.str "4x2")) (mCons (mC (.int 5)) (mCons (mDict0) (mCons (mTup (mCons (mC (.bool true)) (mCons (mC (.int 1)) (mNil)))) (mNil)))))))))))) (mgName 3))
  (mSeq (mIf (mT (mOp2 opNe (mCall D__law_told wF (mCons (mC (.int 4)) (mCons (mOp2 opIx (mVar 3) (mCallW dDraw 0 (mCons (mC (.int 10)) (mNil)))) (mNil)))) (mLst (mCons (mC (.str "table")) (mNil))))) (mRet (mrOf (mC (.bool false)))) (mNext))
  (mSeq (mAsg (mLst (mCons (mC .none) (mCons (mTup (mNil)) (mCons (mCallB bList (mCons (mVar 2) (mNil))) (mCons (mSl opSl (mVar 2) mNoPart (mPart (mC (.int 3)))) (mCons (mTup (mCons (mC (.int 1)) (mCons (mC (.int 1)) (mCons (mC (.int 0)) (mCons (mC (.int 0)) (mNil)))))) (mCons (mTup (mCons (mOp1 opNeg (mC (.int 1))) (mCons (mC (.int 1)) (mCons (mC (.int 1)) (mCons (mC (.int 1)) (mNil)))))) (mNil)))))))) (mgName 3))
  (mSeq (mAsg (mOp2 opAdd (mVar 3) (mLst (mCons (mC (.str "0 0 1 1")) (mCons (mC (.int 5)) (mCons (mDict0) (mCons (mTup (mCons (mC (.int 1)) (mCons (mC (.int 1)) (mCons (mC (.bool true)) (mCons (mC (.int 1)) (mNil)))))) (mNil))))))) (mgName 3))
  (mRet (mrOf (mOp2 opEq (mCall D__law_told wF (mCons (mC (.int 5)) (mCons (mOp2 opIx (mVar 3) (mCallW dDraw 0 (mCons (mC (.int 10)) (mNil)))) (mNil)))) (mLst (mCons (mC (.str "shot")) (mNil))))))))))))))
theorem pick31 {P : PyData → Prop} {xs : List PyData} {u : Int} (u0 : 0 ≤ u) (u1 : u < xs.length) (h : ∀ d ∈ xs, P d) : ∃ d, DL.atI xs u = some d ∧ P d := by
  obtain ⟨d, hd, e⟩ := DL.atI_mem u0 u1
  exact ⟨d, e, h d hd⟩
def D__law_refused : WSpec := fun n ds Q => ∃ a b x y p q : Int, ds = [.tuple [.int a, .int b], .tuple [.int x, .int y, .int p, .int q]] ∧ 10 ≤ n ∧ Q (.va (.bool true)) (n - 6)
theorem len__law_refused : ∀ n ds Q, D__law_refused n ds Q → ds.length + 1 = 3 := by
  rintro n _ Q ⟨a, b, x, y, p, q, rfl, _⟩
  rfl
/-- no text of such a kind -/
def No31 (c : Nat) (good : PyData → Bool) (d : PyData) : Prop := isTx d = false ∨ ∃ z : Str, d = .str z ∧ z.length ≤ 900 ∧ rd31 c good (cs z) = none
theorem rd__law_refused : ∀ n ds Q, D__law_refused n ds Q → m__law_refused (endW Q) (slotsW 4 n ds) := by
  rintro n _ Q ⟨a, b, x, y, p, s, rfl, hn, q⟩
  unfold m__law_refused
  have strT : ∀ z : String, (Str.ofString z).length ≤ 900 → rd31 120 isTab (cs (Str.ofString z)) = none → No31 120 isTab (.str (Str.ofString z)) := fun z h1 h2 => .inr ⟨_, rfl, h1, h2⟩
  have strS : ∀ z : String, (Str.ofString z).length ≤ 900 → rd31 32 isAny (cs (Str.ofString z)) = none → No31 32 isAny (.str (Str.ofString z)) := fun z h1 h2 => .inr ⟨_, rfl, h1, h2⟩
  have tT : ∀ {w : Int} {d : PyData}, w = 0 ∨ w = 1 → No31 120 isTab d → Told31 w d (.list [.str "text"]) := fun {w d} hw h => by
    rcases h with h | ⟨z, e, hz, h⟩
    · exact .inl ⟨hw, .inl ⟨h, rfl⟩⟩
    · exact .inl ⟨hw, .inr ⟨z, e, hz, by rw [h]; rfl⟩⟩
  have tS : ∀ {w : Int} {d : PyData}, w = 2 ∨ w = 3 → No31 32 isAny d → Told31 w d (.list [.str "text"]) := fun {w d} hw h => by
    rcases h with h | ⟨z, e, hz, h⟩
    · exact .inr (.inl ⟨hw, .inl ⟨h, rfl⟩⟩)
    · exact .inr (.inl ⟨hw, .inr ⟨z, e, hz, by rw [h]; rfl⟩⟩)
  have sT : sd 2 (.list [.str "text"]) = true := by decide +kernel
  have sB : sd 2 (.list [.str "table"]) = true := by decide +kernel
  have sS : sd 2 (.list [.str "shot"]) = true := by decide +kernel
  refine seq_step fun N hN => ?_
  walk_at "rdn"
  subst hN
  refine seq_step fun N hN => ?_
  walk_at "rdn"
  refine dr (by omega) (by decide) (by decide) fun w w0 w1 => ⟨_, rfl, ?_⟩
  refine dr (by omega) (by decide) (by decide) fun u u0 u1 => ⟨_, rfl, ?_⟩
  obtain ⟨d, e, hd⟩ := pick31 (P := No31 120 isTab) (xs := [.none, .int 5, .str "", .str "4", .str "4x", .str "x2", .str "4x0", .str "04x2", .str "4x2x1", .str "4 x 2", .str "4X2", .list [.str "4x2"], .dict [], .str "-4x2"]) u0 u1 (by
    intro d hd
    simp only [List.mem_cons, List.not_mem_nil, or_false] at hd
    rcases hd with rfl | rfl | rfl | rfl | rfl | rfl | rfl | rfl | rfl | rfl | rfl | rfl | rfl | rfl
    all_goals first | exact .inl rfl | exact strT _ (by decide) rfl)
  refine ⟨_, e, _, _, _, rfl, tT (by omega) hd, _, rfl, _, opNe_self (j := 2) (by decide) sT, _, rfl, ?_⟩
  rw [if_neg (by decide)]
  subst hN
  refine seq_step fun N hN => ?_
  walk_at "rdn"
  subst hN
  refine seq_step fun N hN => ?_
  walk_at "rdn"
  subst hN
  refine seq_step fun N hN => ?_
  walk_at "rdn"
  refine dr (by omega) (by decide) (by decide) fun w w0 w1 => ⟨_, rfl, _, rfl, ?_⟩
  refine dr (by omega) (by decide) (by decide) fun u u0 u1 => ⟨_, rfl, ?_⟩
  obtain ⟨d, e, hd⟩ := pick31 (P := No31 32 isAny) (xs := [.none, .int 5, .str "", .str "0 0 0 0", .str "1 1 1", .str "1 1 1 1 1", .str "-1 0 1 1", .str "0 0 -0 1", .str "0 0 01 1", .str " 0 0 1 1", .str "0,0,1,1"]) u0 u1 (by
    intro d hd
    simp only [List.mem_cons, List.not_mem_nil, or_false] at hd
    rcases hd with rfl | rfl | rfl | rfl | rfl | rfl | rfl | rfl | rfl | rfl | rfl
    all_goals first | exact .inl rfl | exact strS _ (by decide) rfl)
  refine ⟨_, e, _, _, _, rfl, tS (by omega) hd, _, rfl, _, opNe_self (j := 2) (by decide) sT, _, rfl, ?_⟩
  rw [if_neg (by decide)]
  subst hN
  refine seq_step fun N hN => ?_
  walk_at "rdn"
  subst hN
  refine seq_step fun N hN => ?_
  walk_at "rdn"
  refine dr (by omega) (by decide) (by decide) fun u u0 u1 => ⟨_, rfl, ?_⟩
  obtain ⟨d, e, hd⟩ := pick31 (P := fun d => isTab d = false) (xs := [.none, .tuple [], .list [.int a, .int b], .tuple [.int 0, .int 1], .tuple [.int 1], .tuple [.int 1, .int 1, .int 1], .str "4x2", .int 5, .dict [], .tuple [.bool true, .int 1]]) u0 u1 (by
    intro d hd
    simp only [List.mem_cons, List.not_mem_nil, or_false] at hd
    rcases hd with rfl | rfl | rfl | rfl | rfl | rfl | rfl | rfl | rfl | rfl <;> rfl)
  refine ⟨_, e, _, _, _, rfl, .inr (.inr (.inl ⟨rfl, .inl ⟨hd, rfl⟩⟩)), _, rfl, _, opNe_self (j := 2) (by decide) sB, _, rfl, ?_⟩
  rw [if_neg (by decide)]
  subst hN
  refine seq_step fun N hN => ?_
  walk_at "rdn"
  subst hN
  refine seq_step fun N hN => ?_
  walk_at "rdn"
  subst hN
  walk_at "rdn"
  refine dr (by omega) (by decide) (by decide) fun u u0 u1 => ⟨_, rfl, ?_⟩
  obtain ⟨d, e, hd⟩ := pick31 (P := fun d => isAny d = false) (xs := [.none, .tuple [], .list [.int x, .int y, .int p, .int s], .tuple [.int x, .int y, .int p], .tuple [.int 1, .int 1, .int 0, .int 0], .tuple [.int (-1), .int 1, .int 1, .int 1], .str "0 0 1 1", .int 5, .dict [], .tuple [.int 1, .int 1, .bool true, .int 1]]) u0 u1 (by
    intro d hd
    simp only [List.mem_cons, List.not_mem_nil, or_false] at hd
    rcases hd with rfl | rfl | rfl | rfl | rfl | rfl | rfl | rfl | rfl | rfl <;> rfl)
  refine ⟨_, e, _, _, _, rfl, .inr (.inr (.inr ⟨rfl, .inl ⟨hd, rfl⟩⟩)), _, rfl, _, opEq_self (j := 2) (by decide) sS, ?_⟩
  rw [show n - 1 - 1 - 1 - 1 - 1 - 1 = n - 6 by omega]
  exact q
section
variable {P : Program} {w : World} {K : PySem.W.Frag} {mg : Str → Option Value} {base : Heap} {CN : String → Option Addr}
theorem ok__law_refused {f : Addr} {fd : FuncData} (F : Fun K "_law_refused" "_law_refused" s__law_refused f fd) (g : G K mg CN) (c__law_draw : CalW P w K mg base 1 "_law_draw" dDraw) (c__law_told : CalP P w K mg base CN 6 "_law_told" D__law_told) : FnG P w K mg base 7 f fd ["well", "desk", "shot_here"] (spW K D__law_refused) := by
  have sc := sc__law_refused
  exact fun_okW (m := m__law_refused) (CN := CN) F sc (by decide) len__law_refused (fun cdv A outer s H E C hr tk =>
    (pds_cons (pds_asg (ps_asg (pd_lst (pda_cons pd_non (pda_cons pd_int (pda_cons pd_str (pda_cons pd_str (pda_cons pd_str (pda_cons pd_str (pda_cons pd_str (pda_cons pd_str (pda_cons pd_str (pda_cons pd_str (pda_cons pd_str (pda_cons (pd_lst (pda_cons pd_str pda_nil)) (pda_cons pd_dict0 (pda_cons pd_str pda_nil))))))))))))))) (dg 3 sc.nd)))
    (pds_cons (pds_if (pdt_cmp (or_neD (RoomG.u64 hr)) rl_ne (pd_call c__law_told hr (by decide) tk (pda_cons (pd_callW c__law_draw hr (by decide) tk (pv 0) (pda_cons pd_int pda_nil)) (pda_cons (pd_ix ix_seq rl_ix (dv 3) (pd_callW c__law_draw hr (by decide) tk (pv 0) (pda_cons pd_int pda_nil))) pda_nil))) (pd_lst (pda_cons pd_str pda_nil)) (nomark _)) (pds_one (pds_ret (pdr_of pd_bl))) pds_nil)
    (pds_cons (pds_asg (ps_asg (pd_lst (pda_cons pd_non (pda_cons pd_int (pda_cons pd_str (pda_cons pd_str (pda_cons pd_str (pda_cons pd_str (pda_cons pd_str (pda_cons pd_str pda_nil))))))))) (dg 3 sc.nd)))
    (pds_cons (pds_asg (ps_asg (pd_op or_add rl_add (dv 3) (pd_lst (pda_cons pd_str (pda_cons pd_str (pda_cons pd_str pda_nil))))) (dg 3 sc.nd)))
    (pds_cons (pds_if (pdt_cmp (or_neD (RoomG.u64 hr)) rl_ne (pd_call c__law_told hr (by decide) tk (pda_cons (pd_op or_add rl_add pd_int (pd_callW c__law_draw hr (by decide) tk (pv 0) (pda_cons pd_int pda_nil))) (pda_cons (pd_ix ix_seq rl_ix (dv 3) (pd_callW c__law_draw hr (by decide) tk (pv 0) (pda_cons pd_int pda_nil))) pda_nil))) (pd_lst (pda_cons pd_str pda_nil)) (nomark _)) (pds_one (pds_ret (pdr_of pd_bl))) pds_nil)
    (pds_cons (pds_asg (ps_asg (pd_lst (pda_cons pd_non (pda_cons (pd_tup pda_nil) (pda_cons (pd_callTy call_list_of rc_list g.b_list (by decide +kernel) (pda_cons (dv 1) pda_nil)) (pda_cons (pd_tup (pda_cons pd_int (pda_cons pd_int pda_nil))) (pda_cons (pd_tup (pda_cons pd_int pda_nil)) (pda_cons (pd_tup (pda_cons pd_int (pda_cons pd_int (pda_cons pd_int pda_nil)))) (pda_cons pd_str (pda_cons pd_int (pda_cons pd_dict0 (pda_cons (pd_tup (pda_cons pd_bl (pda_cons pd_int pda_nil))) pda_nil))))))))))) (dg 3 sc.nd)))
    (pds_cons (pds_if (pdt_cmp (or_neD (RoomG.u64 hr)) rl_ne (pd_call c__law_told hr (by decide) tk (pda_cons pd_int (pda_cons (pd_ix ix_seq rl_ix (dv 3) (pd_callW c__law_draw hr (by decide) tk (pv 0) (pda_cons pd_int pda_nil))) pda_nil))) (pd_lst (pda_cons pd_str pda_nil)) (nomark _)) (pds_one (pds_ret (pdr_of pd_bl))) pds_nil)
    (pds_cons (pds_asg (ps_asg (pd_lst (pda_cons pd_non (pda_cons (pd_tup pda_nil) (pda_cons (pd_callTy call_list_of rc_list g.b_list (by decide +kernel) (pda_cons (dv 2) pda_nil)) (pda_cons (pd_slB (dv 2) pd_int) (pda_cons (pd_tup (pda_cons pd_int (pda_cons pd_int (pda_cons pd_int (pda_cons pd_int pda_nil))))) (pda_cons (pd_tup (pda_cons (pd_un un_neg rl_neg pd_int) (pda_cons pd_int (pda_cons pd_int (pda_cons pd_int pda_nil))))) pda_nil))))))) (dg 3 sc.nd)))
    (pds_cons (pds_asg (ps_asg (pd_op or_add rl_add (dv 3) (pd_lst (pda_cons pd_str (pda_cons pd_int (pda_cons pd_dict0 (pda_cons (pd_tup (pda_cons pd_int (pda_cons pd_int (pda_cons pd_bl (pda_cons pd_int pda_nil))))) pda_nil)))))) (dg 3 sc.nd)))
    (pds_one (pds_ret (pdr_of (pd_cmp (or_eqD (RoomG.u64 hr)) rl_eq (pd_call c__law_told hr (by decide) tk (pda_cons pd_int (pda_cons (pd_ix ix_seq rl_ix (dv 3) (pd_callW c__law_draw hr (by decide) tk (pv 0) (pda_cons pd_int pda_nil))) pda_nil))) (pd_lst (pda_cons pd_str pda_nil)) (nomark _))))))))))))))) rd__law_refused
end
end LW
namespace LW
open PySem PySem.Spec PyProof.Rows L2 DL
/-- for at in range(max(1, min(c, len(script)))) -/
theorem at_loop {ns : List Int} {c : Int} {body : MS} {D : DE} {rest : DSt} (hl : ns.length ≤ 63) (hc : 1 ≤ c ∧ c ≤ 60) (I : DSt → Prop) (h0 : I (.scr ns :: rest)) (hs : ∀ j : Int, 0 ≤ j → j < 2 ^ 20 → ∀ (s : DSt) (N : DSt → Prop), I s → (∀ s', I s' → N s') → body { D with nx := N, ct := N, bk := D.nx } (sset s 1 (.va (.int j)))) (hf : ∀ s, I s → D.nx s) :
    mFor (miRng1 (mCons (mCallB bMax (mCons (mC (.int 1)) (mCons (mCallB bMin (mCons (mC (.int c)) (mCons (mLenScr 0) (mNil)))) (mNil)))) (mNil))) (mgName 1) body D (.scr ns :: rest) := by
  walk_at "rdn"
  generalize hk : (if (if (ns.length : Int) < c then (ns.length : Int) else c) > 1 then if (ns.length : Int) < c then (ns.length : Int) else c else 1) = k
  have k0 : 0 ≤ k := by rw [← hk]; split <;> (try split) <;> omega
  have k1 : k ≤ 60 := by rw [← hk]; split <;> (try split) <;> omega
  refine ⟨by omega, by omega, ?_⟩
  refine forL_run (fun r s => (∀ d ∈ r, ∃ j : Int, d = .int j ∧ 0 ≤ j ∧ j < 2 ^ 20) ∧ I s) ?_ ?_ _ _ ⟨?_, h0⟩
  · rintro d r s N ⟨hd, i⟩ hN
    obtain ⟨j, rfl, j0, j1⟩ := hd d (by simp)
    have hd' := fun d h => hd d (List.mem_cons_of_mem _ h)
    exact hs j j0 j1 s N i fun s' i' => hN s' ⟨hd', i'⟩
  · rintro s ⟨-, i⟩
    exact hf s i
  · intro d hd
    unfold rangeL at hd
    obtain ⟨i, hi, rfl⟩ := List.mem_map.mp hd
    have := List.mem_range.mp hi
    exact ⟨_, rfl, by omega, by omega⟩
theorem ten_pow (k : Int) (n : Int) (h0 : 0 ≤ k) (h1 : k ≤ 100) (e : (10 : Int) ^ k.toNat = n) : opPow (.int 10) (.int k) = some (.int n) := by
  rw [opPow_i, if_pos ⟨h0, h1, big10⟩, e]
end LW
namespace LW
open PySem PySem.Spec PyProof.Rows L2 DL
def m_law : MS :=
  mSeq (mFor (miRng1 (mCons (mCallB bMax (mCons (mC (.int 1)) (mCons (mCallB bMin (mCons (mC (.int 6)) (mCons (mLenScr 0) (mNil)))) (mNil)))) (mNil))) (mgName 1) (mSeq (mAsgR 2 (mWell 0 (mVar 1)))
  (mFor (miRng1 (mCons (mC (.int 4)) (mNil))) (mgName 3) (mSeq (mAsg (mCallW D__law_desk 2 (mCons (mOp2 opIx (mLst (mCons (mC (.int 9)) (mCons (mOp2 opPow (mC (.int 10)) (mC (.int 28))) (mNil)))) (mCallW dDraw 2 (mCons (mC (.int 2)) (mNil)))) (mNil))) (mgName 4))
  (mSeq (mAsg (mCallW D__law_roll 2 (mCons (mVar 4) (mCons (mOp2 opIx (mLst (mCons (mC (.int 9)) (mCons (mOp2 opPow (mC (.int 10)) (mC (.int 28))) (mNil)))) (mCallW dDraw 2 (mCons (mC (.int 2)) (mNil)))) (mNil)))) (mgName 5))
  (mSeq (mIf (mTNot (mT (mCallW D__law_right 2 (mCons (mVar 4) (mCons (mOp2 opAdd (mOp2 opAdd (mCallB bStrI (mCons (mOp2 opIx (mVar 4) (mC (.int 0))) (mNil))) (mC (.str "x"))) (mCallB bStrI (mCons (mOp2 opIx (mVar 4) (mC (.int 1))) (mNil)))) (mCons (mC (.int 2)) (mNil))))))) (mRet (mrOf (mC (.bool false)))) (mNext))
  (mSeq (mAsg (mVar 5) (mgTup 4 (mgCons (mgName 6) (mgCons (mgName 7) (mgCons (mgName 8) (mgCons (mgName 9) (mgNil)))))))
  (mSeq (mAsg (mOp2 opAdd (mOp2 opAdd (mOp2 opAdd (mOp2 opAdd (mOp2 opAdd (mOp2 opAdd (mCallB bStrI (mCons (mVar 6) (mNil))) (mC (.str " "))) (mCallB bStrI (mCons (mVar 7) (mNil)))) (mC (.str " "))) (mCallB bStrI (mCons (mVar 8) (mNil)))) (mC (.str " "))) (mCallB bStrI (mCons (mVar 9) (mNil)))) (mgName 10))
  (mSeq (mIf (mTNot (mT (mCallW D__law_right 2 (mCons (mVar 5) (mCons (mVar 10) (mCons (mC (.int 4)) (mNil))))))) (mRet (mrOf (mC (.bool false)))) (mNext))
  (mIf (mTNot (mT (mCallW D__law_refused 2 (mCons (mVar 4) (mCons (mVar 5) (mNil)))))) (mRet (mrOf (mC (.bool false)))) (mNext)))))))))))
  (mSeq (mAsg (mOp2 opSub (mOp2 opPow (mC (.int 10)) (mC (.int 40))) (mC (.int 1))) (mgName 11))
  (mSeq (mIf (mT (mOp2 opNe (mCall D__law_told wF (mCons (mC (.int 0)) (mCons (mOp2 opAdd (mOp2 opAdd (mCallB bStrI (mCons (mVar 11) (mNil))) (mC (.str "x"))) (mCallB bStrI (mCons (mOp2 opSub (mVar 11) (mC (.int 7))) (mNil)))) (mNil)))) (mTup (mCons (mVar 11) (mCons (mOp2 opSub (mVar 11) (mC (.int 7))) (mNil)))))) (mRet (mrOf (mC (.bool false)))) (mNext))
  (mSeq (mIf (mT (mOp2 opNe (mCall D__law_told wF (mCons (mC (.int 2)) (mCons (mOp2 opAdd (mOp2 opAdd (mOp2 opAdd (mOp2 opAdd (mC (.str "5 ")) (mCallB bStrI (mCons (mVar 11) (mNil)))) (mC (.str " -"))) (mCallB bStrI (mCons (mVar 11) (mNil)))) (mC (.str " 0"))) (mNil)))) (mTup (mCons (mC (.int 5)) (mCons (mVar 11) (mCons (mOp1 opNeg (mVar 11)) (mCons (mC (.int 0)) (mNil)))))))) (mRet (mrOf (mC (.bool false)))) (mNext))
  (mRet (mrOf (mOp2 opEq (mCall D__law_told wF (mCons (mC (.int 2)) (mCons (mC (.str "1 0 -1 1")) (mNil)))) (mTup (mCons (mC (.int 1)) (mCons (mC (.int 0)) (mCons (mOp1 opNeg (mC (.int 1))) (mCons (mC (.int 1)) (mNil))))))))))))
theorem add_tx {x y : List Nat} (h : x.length + y.length ≤ 100000) : opAdd (.str (tx x)) (.str (tx y)) = some (.str (tx (x ++ y))) := by
  rw [← tx_app]
  exact if_pos (by rw [len_tx, len_tx]; exact h)
theorem sz40 {n : Int} (h : -(10 ^ 40) < n) (h2 : n < 10 ^ 40) : sz 1000 n ∧ (decL n).length ≤ 41 := by
  have e : (10 : Int) ^ 40 = ((10 ^ 40 : Nat) : Int) := by norm_cast
  have k : n.natAbs < 10 ^ 40 := by omega
  exact ⟨Nat.lt_of_lt_of_le k (by decide +kernel), decL_30 k⟩
theorem rd_law : ∀ ns : List Int, ns.length ≤ 63 → (∀ z ∈ ns, Builtin.Int.intBits z ≤ 1048576) → m_law endL (.scr ns :: List.replicate (["script", "at", "well", "k", "desk", "shot_here", "x", "y", "p", "q", "line", "far"].length - 1) .no) := by
  intro ns hl hb
  unfold m_law
  show mSeq _ _ _ [.scr ns, .no, .no, .no, .no, .no, .no, .no, .no, .no, .no, .no]
  have p28 := ten_pow 28 10000000000000000000000000000 (by decide) (by decide) (by decide +kernel)
  have p40 := ten_pow 40 10000000000000000000000000000000000000000 (by decide) (by decide) (by decide +kernel)
  refine seq_run (fun s => ∃ x1 x2 x3 x4 x5 x6 x7 x8 x9 x10, s = [.scr ns, x1, x2, x3, x4, x5, x6, x7, x8, x9, x10, .no]) (fun N0 h0 => ?_) ?_
  · refine at_loop hl (by decide) (fun s => ∃ x1 x2 x3 x4 x5 x6 x7 x8 x9 x10, s = [.scr ns, x1, x2, x3, x4, x5, x6, x7, x8, x9, x10, .no]) ⟨_, _, _, _, _, _, _, _, _, _, rfl⟩ ?_ ?_
    · rintro j j0 j1 s N1 ⟨x1, x2, x3, x4, x5, x6, x7, x8, x9, x10, rfl⟩ hN1
      simp only [sset]
      refine seq_run (fun s => ∃ n, s = [.scr ns, .va (.int j), .well n, x3, x4, x5, x6, x7, x8, x9, x10, .no] ∧ 2 ^ 59 + 900 ≤ n) (fun N2 h2 => ?_) ?_
      · walk_at "rdn"
        exact ⟨hl, hb, j0, j1, h2 _ ⟨_, rfl, by decide⟩⟩
      rintro _ ⟨n, rfl, hn⟩
      simp only [mFor, miRng1]
      walk_at "rdn"
      refine ⟨by decide, by decide, ?_⟩
      refine forL_run (fun r s => ∃ n x3 x4 x5 x6 x7 x8 x9 x10, s = [.scr ns, .va (.int j), .well n, x3, x4, x5, x6, x7, x8, x9, x10, .no] ∧ 2 ^ 59 + 200 * r.length ≤ n) ?_ ?_ _ _ ⟨n, _, _, _, _, _, _, _, _, rfl, ?_⟩
      · rintro d r s N' ⟨n, x3, x4, x5, x6, x7, x8, x9, x10, rfl, hn⟩ hN'
        simp only [List.length_cons] at hn
        simp only [mgName, sset]
        have two : ∀ {u m m' : Int}, 0 ≤ u → u < 2 → 1 ≤ m → 1 ≤ m' → ∃ g : Int, DL.atI [PyData.int m, .int m'] u = some (.int g) ∧ 1 ≤ g ∧ (g = m ∨ g = m') := by
          intro u m m' h0 h1 hm hm'
          have c : u = 0 ∨ u = 1 := by omega
          rcases c with rfl | rfl
          · exact ⟨_, rfl, hm, .inl rfl⟩
          · exact ⟨_, rfl, hm', .inr rfl⟩
        refine seq_step fun N3 hN3 => ?_
        walk_at "rdn"
        refine ⟨_, p28, ?_⟩
        refine dr (by omega) (by decide) (by decide) fun u u0 u1 => ⟨_, rfl, ?_⟩
        obtain ⟨g, hg, g1, g2⟩ := two u0 u1 (show (1 : Int) ≤ 9 by decide) (show (1 : Int) ≤ 10000000000000000000000000000 by decide)
        refine ⟨_, hg, ?_⟩
        refine ⟨g, rfl, by omega, by omega, by omega, fun a b n1 hn1 a1 a2 b1 b2 => ⟨_, rfl, ?_⟩⟩
        try walk_at "rdn"
        subst hN3
        refine seq_step fun N3 hN3 => ?_
        walk_at "rdn"
        refine ⟨_, p28, ?_⟩
        refine dr (by omega) (by decide) (by decide) fun u u0 u1 => ⟨_, rfl, ?_⟩
        obtain ⟨c, hc, c1, c2⟩ := two u0 u1 (show (1 : Int) ≤ 9 by decide) (show (1 : Int) ≤ 10000000000000000000000000000 by decide)
        refine ⟨_, hc, ?_⟩
        refine ⟨a, b, c, rfl, by omega, a1, by omega, b1, by omega, by omega, by omega, fun x y p q n2 hn2 x0 x1 y0 y1 hp hq hw => ⟨_, rfl, ?_⟩⟩
        try walk_at "rdn"
        subst hN3
        obtain ⟨za, la⟩ := sz40 (n := a) (by omega) (by omega)
        obtain ⟨zb, lb⟩ := sz40 (n := b) (by omega) (by omega)
        obtain ⟨zx, lx⟩ := sz40 (n := x) (by omega) (by omega)
        obtain ⟨zy, ly⟩ := sz40 (n := y) (by omega) (by omega)
        obtain ⟨zp, lp⟩ := sz40 (n := p) (by omega) (by omega)
        obtain ⟨zq, lq⟩ := sz40 (n := q) (by omega) (by omega)
        have up : ∀ {z : Int}, sz 1000 z → sz 2000 z := fun h => sz_mono h (by decide)
        refine seq_step fun N3 hN3 => ?_
        walk_at "rdn"
        refine ⟨_, strI za, _, add_tx (y := [120]) (by simp; omega), _, strI zb, _, add_tx (by simp; omega), ?_⟩
        have lT : decL a ++ [120] ++ decL b = glue 120 [decL a, decL b] := by simp [glue]
        rw [lT]
        have h128 : ∀ n : Int, ∀ c ∈ decL n, c < 128 := decL_128
        refine ⟨_, _, _, rfl, by omega, by rw [← lT]; simp; omega, ?_, .inl ⟨rfl, a, b, rfl, a1, b1, up za, up zb, rfl⟩, fun n3 hn3 => ⟨_, rfl, _, rfl, ?_⟩⟩
        · rw [← lT]
          intro c hc
          simp only [List.mem_append, List.mem_singleton] at hc
          rcases hc with (hc | rfl) | hc
          · exact h128 _ c hc
          · decide
          · exact h128 _ c hc
        rw [if_neg (by decide)]
        subst hN3
        refine seq_step fun N3 hN3 => ?_
        walk_at "rdn"
        subst hN3
        refine seq_step fun N3 hN3 => ?_
        walk_at "rdn"
        refine ⟨_, strI zx, _, add_tx (y := [32]) (by simp; omega), _, strI zy, _, add_tx (by simp; omega), _, add_tx (y := [32]) (by simp; omega), _, strI zp, _, add_tx (by simp; omega), _, add_tx (y := [32]) (by simp; omega), _, strI zq, _, add_tx (by simp; omega), ?_⟩
        have lS : decL x ++ [32] ++ decL y ++ [32] ++ decL p ++ [32] ++ decL q = glue 32 [decL x, decL y, decL p, decL q] := by simp [glue]
        rw [lS]
        subst hN3
        have hany : isAny (.tuple [.int x, .int y, .int p, .int q]) = true := by
          simp [isAny, x0, y0]
          rcases hw with h | h <;> simp [h]
        refine seq_step fun N3 hN3 => ?_
        walk_at "rdn"
        refine ⟨_, _, _, rfl, by omega, by rw [← lS]; simp; omega, ?_, .inr ⟨rfl, x, y, p, q, rfl, hany, ⟨up zx, up zy, up zp, up zq⟩, rfl⟩, fun n4 hn4 => ⟨_, rfl, _, rfl, ?_⟩⟩
        · rw [← lS]
          intro c hc
          simp only [List.mem_append, List.mem_singleton] at hc
          rcases hc with (((((hc | rfl) | hc) | rfl) | hc) | rfl) | hc
          · exact h128 _ c hc
          · decide
          · exact h128 _ c hc
          · decide
          · exact h128 _ c hc
          · decide
          · exact h128 _ c hc
        rw [if_neg (by decide)]
        subst hN3
        walk_at "rdn"
        refine ⟨a, b, x, y, p, q, rfl, by omega, _, rfl, _, rfl, ?_⟩
        rw [if_neg (by decide)]
        exact hN' _ ⟨_, _, _, _, _, _, _, _, _, rfl, by omega⟩
      · rintro s ⟨n, x3, x4, x5, x6, x7, x8, x9, x10, rfl, hn⟩
        exact hN1 _ ⟨_, _, _, _, _, _, _, _, _, _, rfl⟩
      · show 2 ^ 59 + 200 * 4 ≤ n
        omega
    · rintro s ⟨x1, x2, x3, x4, x5, x6, x7, x8, x9, x10, rfl⟩
      exact h0 _ ⟨_, _, _, _, _, _, _, _, _, _, rfl⟩
  · rintro _ ⟨x1, x2, x3, x4, x5, x6, x7, x8, x9, x10, rfl⟩
    refine seq_step fun N hN => ?_
    walk_at "rdn"
    refine ⟨_, p40, _, rfl, ?_⟩
    subst hN
    have big : (10000000000000000000000000000000000000000 : Int) = 10 ^ 40 := by decide +kernel
    obtain ⟨f, hf, f1, f2⟩ : ∃ f : Int, 10000000000000000000000000000000000000000 - 1 = f ∧ 10 ≤ f ∧ f < 10 ^ 40 := ⟨_, rfl, by decide, by decide +kernel⟩
    rw [hf]
    obtain ⟨zf, lf⟩ := sz40 (n := f) (by omega) (by omega)
    obtain ⟨zg, lg⟩ := sz40 (n := f - 7) (by omega) (by omega)
    refine seq_step fun N hN => ?_
    walk_at "rdn"
    refine ⟨_, strI zf, _, add_tx (y := [120]) (by simp; omega), _, strI zg, _, add_tx (by simp; omega), ?_⟩
    have lT : decL f ++ [120] ++ decL (f - 7) = glue 120 [decL f, decL (f - 7)] := by simp [glue]
    rw [lT]
    refine ⟨_, _, _, rfl, .inl ⟨.inl rfl, .inr ⟨_, rfl, by rw [len_tx, ← lT]; simp; omega, rfl⟩⟩, _, rfl, ?_⟩
    rw [cs_tx, read_table (by omega) (by omega)]
    refine ⟨_, opNe_self (j := 2) (by decide) rfl, _, rfl, ?_⟩
    rw [if_neg (by decide)]
    subst hN
    refine seq_step fun N hN => ?_
    walk_at "rdn"
    refine ⟨_, strI zf, _, add_tx (x := [53, 32]) (by simp; omega), _, add_tx (y := [32, 45]) (by simp; omega), _, strI zf, _, add_tx (by simp; omega), _, add_tx (y := [32, 48]) (by simp; omega), ?_⟩
    have d5 : decL 5 = [53] := dig_lt (n := 5) (by decide)
    have d0 : decL 0 = [48] := dig_lt (n := 0) (by decide)
    have dn : decL (-f) = 45 :: decL f := by
      unfold decL
      rw [if_pos (by omega), if_neg (by omega), Int.natAbs_neg]
    have lS : [53, 32] ++ decL f ++ [32, 45] ++ decL f ++ [32, 48] = glue 32 [decL 5, decL f, decL (-f), decL 0] := by
      rw [d5, d0, dn]
      simp [glue]
    rw [lS]
    refine ⟨_, _, _, rfl, .inr (.inl ⟨.inl rfl, .inr ⟨_, rfl, by rw [len_tx, ← lS]; simp; omega, rfl⟩⟩), _, rfl, ?_⟩
    rw [cs_tx, read_shot (by simp [isAny]; omega)]
    refine ⟨_, opNe_self (j := 2) (by decide) rfl, _, rfl, ?_⟩
    rw [if_neg (by decide)]
    subst hN
    walk_at "rdn"
    refine ⟨_, _, _, rfl, .inr (.inl ⟨.inl rfl, .inr ⟨_, rfl, by decide, rfl⟩⟩), _, rfl, ?_⟩
    have e : rd31 32 isAny (cs (Str.ofString "1 0 -1 1")) = some (.tuple [.int 1, .int 0, .int (-1), .int 1]) := rfl
    rw [e]
    exact opEq_self (j := 2) (by decide) rfl
section
variable {P : Program} {w : World} {K : PySem.W.Frag} {mg : Str → Option Value} {base : Heap} {CN : String → Option Addr}
theorem ok_law {f : Addr} {fd : FuncData} (F : Fun K "law" "law" s_law f fd) (g : G K mg CN) (c__law_desk : CalW P w K mg base 2 "_law_desk" D__law_desk) (c__law_draw : CalW P w K mg base 1 "_law_draw" dDraw) (c__law_refused : CalW P w K mg base 7 "_law_refused" D__law_refused) (c__law_right : CalW P w K mg base 7 "_law_right" D__law_right) (c__law_roll : CalW P w K mg base 2 "_law_roll" D__law_roll) (c__law_told : CalP P w K mg base CN 6 "_law_told" D__law_told) (c__law_well : CalL P w K mg base 1 "_law_well") : FnG P w K mg base 8 f fd ["script"] (spL K) := by
  have sc := sc_law
  exact fun_okL (m := m_law) (CN := CN) F sc (by decide) (fun cdv A outer s H E C hw hr tk =>
    (pds_cons (pds_for (ps_for psw rfl (d_range1 g.b_range (pda_cons (pd_callB (call_max2 rfl) rc_max g.b_max (by decide +kernel) (pda_cons pd_int (pda_cons (pd_callB (call_min2 rfl) rc_min g.b_min (by decide +kernel) (pda_cons pd_int (pda_cons (pd_lenScr (x := "") g.b_len (i := 0) rfl (.inl rfl)) pda_nil))) pda_nil))) pda_nil)) (dg 1 sc.nd) (pds_cons (pds_asgR (ps_set (i := 2) sc.nd rfl (.inl rfl) (pdr_well hw c__law_well hr (by decide) tk (pv 0) (dv 1))))
    (pds_one (pds_for (ps_for psw rfl (d_range1 g.b_range (pda_cons pd_int pda_nil)) (dg 3 sc.nd) (pds_cons (pds_asg (ps_asg (pd_callW c__law_desk hr (by decide) tk (pv 2) (pda_cons (pd_ix ix_seq rl_ix (pd_lst (pda_cons pd_int (pda_cons (pd_op op_powW rl_pow pd_int pd_int) pda_nil))) (pd_callW c__law_draw hr (by decide) tk (pv 2) (pda_cons pd_int pda_nil))) pda_nil)) (dg 4 sc.nd)))
    (pds_cons (pds_asg (ps_asg (pd_callW c__law_roll hr (by decide) tk (pv 2) (pda_cons (dv 4) (pda_cons (pd_ix ix_seq rl_ix (pd_lst (pda_cons pd_int (pda_cons (pd_op op_powW rl_pow pd_int pd_int) pda_nil))) (pd_callW c__law_draw hr (by decide) tk (pv 2) (pda_cons pd_int pda_nil))) pda_nil))) (dg 5 sc.nd)))
    (pds_cons (pds_if (pdt_not (pdt_val (pd_callW c__law_right hr (by decide) tk (pv 2) (pda_cons (dv 4) (pda_cons (pd_op or_add rl_add (pd_op or_add rl_add (pd_callTy call_str_int rc_strI g.b_str (by decide +kernel) (pda_cons (pd_ix ix_seq rl_ix (dv 4) pd_int) pda_nil)) pd_str) (pd_callTy call_str_int rc_strI g.b_str (by decide +kernel) (pda_cons (pd_ix ix_seq rl_ix (dv 4) pd_int) pda_nil))) (pda_cons pd_int pda_nil)))))) (pds_one (pds_ret (pdr_of pd_bl))) pds_nil)
    (pds_cons (pds_asg (ps_asg (dv 5) (pdg_tup rfl (gcons (dg 6 sc.nd) (gcons (dg 7 sc.nd) (gcons (dg 8 sc.nd) (gcons (dg 9 sc.nd) pdgs_nil)))))))
    (pds_cons (pds_asg (ps_asg (pd_op or_add rl_add (pd_op or_add rl_add (pd_op or_add rl_add (pd_op or_add rl_add (pd_op or_add rl_add (pd_op or_add rl_add (pd_callTy call_str_int rc_strI g.b_str (by decide +kernel) (pda_cons (dv 6) pda_nil)) pd_str) (pd_callTy call_str_int rc_strI g.b_str (by decide +kernel) (pda_cons (dv 7) pda_nil))) pd_str) (pd_callTy call_str_int rc_strI g.b_str (by decide +kernel) (pda_cons (dv 8) pda_nil))) pd_str) (pd_callTy call_str_int rc_strI g.b_str (by decide +kernel) (pda_cons (dv 9) pda_nil))) (dg 10 sc.nd)))
    (pds_cons (pds_if (pdt_not (pdt_val (pd_callW c__law_right hr (by decide) tk (pv 2) (pda_cons (dv 5) (pda_cons (dv 10) (pda_cons pd_int pda_nil)))))) (pds_one (pds_ret (pdr_of pd_bl))) pds_nil)
    (pds_one (pds_if (pdt_not (pdt_val (pd_callW c__law_refused hr (by decide) tk (pv 2) (pda_cons (dv 4) (pda_cons (dv 5) pda_nil))))) (pds_one (pds_ret (pdr_of pd_bl))) pds_nil))))))))))))))
    (pds_cons (pds_asg (ps_asg (pd_op op_sub rl_sub (pd_op op_powW rl_pow pd_int pd_int) pd_int) (dg 11 sc.nd)))
    (pds_cons (pds_if (pdt_cmp (or_neD (RoomG.u64 hr)) rl_ne (pd_call c__law_told hr (by decide) tk (pda_cons pd_int (pda_cons (pd_op or_add rl_add (pd_op or_add rl_add (pd_callTy call_str_int rc_strI g.b_str (by decide +kernel) (pda_cons (dv 11) pda_nil)) pd_str) (pd_callTy call_str_int rc_strI g.b_str (by decide +kernel) (pda_cons (pd_op op_sub rl_sub (dv 11) pd_int) pda_nil))) pda_nil))) (pd_tup (pda_cons (dv 11) (pda_cons (pd_op op_sub rl_sub (dv 11) pd_int) pda_nil))) (nomark _)) (pds_one (pds_ret (pdr_of pd_bl))) pds_nil)
    (pds_cons (pds_if (pdt_cmp (or_neD (RoomG.u64 hr)) rl_ne (pd_call c__law_told hr (by decide) tk (pda_cons pd_int (pda_cons (pd_op or_add rl_add (pd_op or_add rl_add (pd_op or_add rl_add (pd_op or_add rl_add pd_str (pd_callTy call_str_int rc_strI g.b_str (by decide +kernel) (pda_cons (dv 11) pda_nil))) pd_str) (pd_callTy call_str_int rc_strI g.b_str (by decide +kernel) (pda_cons (dv 11) pda_nil))) pd_str) pda_nil))) (pd_tup (pda_cons pd_int (pda_cons (dv 11) (pda_cons (pd_un un_neg rl_neg (dv 11)) (pda_cons pd_int pda_nil))))) (nomark _)) (pds_one (pds_ret (pdr_of pd_bl))) pds_nil)
    (pds_one (pds_ret (pdr_of (pd_cmp (or_eqD (RoomG.u64 hr)) rl_eq (pd_call c__law_told hr (by decide) tk (pda_cons pd_int (pda_cons pd_str pda_nil))) (pd_tup (pda_cons pd_int (pda_cons pd_int (pda_cons (pd_un un_neg rl_neg pd_int) (pda_cons pd_int pda_nil))))) (nomark _)))))))))) rd_law
end
end LW
namespace LW
open PySem PySem.Spec PyProof.Rows L2 DL
theorem all_mk {l : PySem.W.OpenLaw} {w : World} {K : PySem.W.Frag} {h : Heap} {mg : Str → Option Value} {fa f1 f2 f3 f4 f5 f6 f7 f8 f9 f10 f11 f12 f13 f14 f15 f16 f17 f18 f19 f20 f21 f22 f23 f24 f25 f26 C_InvalidShot C_InvalidTable C_InvalidText C_ShotError : Addr} (X : K.In h) (G0 : h.Ns mainGlobals mg) (hfa : mg "law" = some (.ref fa))
    {od1 an1 od2 an2 od3 an3 od4 an4 od5 an5 od6 an6 od7 an7 od8 an8 od9 an9 od10 an10 od11 an11 od12 an12 od13 an13 od14 an14 od15 an15 od16 an16 od17 an17 od18 an18 od19 an19 od20 an20 od21 an21 od22 an22 od23 an23 od24 an24 od25 an25 od26 an26 : Option Addr} {sl1 sl2 sl3 sl4 sl5 sl6 sl7 sl8 sl9 sl10 sl11 sl12 sl13 sl14 sl15 sl16 sl17 sl18 sl19 sl20 sl21 sl22 sl23 sl24 sl25 sl26 : Array (Option Value)} {oc1 kV1 dc1 pm1 cd1 ct1 oc2 kV2 dc2 pm2 cd2 ct2 oc3 kV3 dc3 pm3 cd3 ct3 oc4 kV4 dc4 pm4 cd4 ct4 oc5 kV5 dc5 pm5 cd5 ct5 oc6 kV6 dc6 pm6 cd6 ct6 oc7 kV7 dc7 pm7 cd7 ct7 oc8 kV8 dc8 pm8 cd8 ct8 oc9 kV9 dc9 pm9 cd9 ct9 oc10 kV10 dc10 pm10 cd10 ct10 oc11 kV11 dc11 pm11 cd11 ct11 oc12 kV12 dc12 pm12 cd12 ct12 oc13 kV13 dc13 pm13 cd13 ct13 oc14 kV14 dc14 pm14 cd14 ct14 oc15 kV15 dc15 pm15 cd15 ct15 oc16 kV16 dc16 pm16 cd16 ct16 oc17 kV17 dc17 pm17 cd17 ct17 oc18 kV18 dc18 pm18 cd18 ct18 oc19 kV19 dc19 pm19 cd19 ct19 oc20 kV20 dc20 pm20 cd20 ct20 oc21 kV21 dc21 pm21 cd21 ct21 oc22 kV22 dc22 pm22 cd22 ct22 oc23 kV23 dc23 pm23 cd23 ct23 oc24 kV24 dc24 pm24 cd24 ct24 oc25 kV25 dc25 pm25 cd25 ct25 oc26 kV26 dc26 pm26 cd26 ct26 : Value}
    (a1 : PySem.W.nsIn K mainGlobals "is_whole" = some (some (.ref f1))) (l1 : K.lookup f1 = some ⟨oc1, od1, .func (PySem.W.fnOf "is_whole" "is_whole" (defArgs s_is_whole) (defBody s_is_whole) (defScope s_is_whole) .none kV1 dc1 pm1 an1 cd1 ct1), sl1⟩) (c1 : PySem.W.codeIn K cd1 "is_whole" = true) (k1 : PySem.W.keepIn K (.ref f1) = true)
    (a2 : PySem.W.nsIn K mainGlobals "are_whole" = some (some (.ref f2))) (l2 : K.lookup f2 = some ⟨oc2, od2, .func (PySem.W.fnOf "are_whole" "are_whole" (defArgs s_are_whole) (defBody s_are_whole) (defScope s_are_whole) .none kV2 dc2 pm2 an2 cd2 ct2), sl2⟩) (c2 : PySem.W.codeIn K cd2 "are_whole" = true) (k2 : PySem.W.keepIn K (.ref f2) = true)
    (a3 : PySem.W.nsIn K mainGlobals "is_table" = some (some (.ref f3))) (l3 : K.lookup f3 = some ⟨oc3, od3, .func (PySem.W.fnOf "is_table" "is_table" (defArgs s_is_table) (defBody s_is_table) (defScope s_is_table) .none kV3 dc3 pm3 an3 cd3 ct3), sl3⟩) (c3 : PySem.W.codeIn K cd3 "is_table" = true) (k3 : PySem.W.keepIn K (.ref f3) = true)
    (a4 : PySem.W.nsIn K mainGlobals "is_any_shot" = some (some (.ref f4))) (l4 : K.lookup f4 = some ⟨oc4, od4, .func (PySem.W.fnOf "is_any_shot" "is_any_shot" (defArgs s_is_any_shot) (defBody s_is_any_shot) (defScope s_is_any_shot) .none kV4 dc4 pm4 an4 cd4 ct4), sl4⟩) (c4 : PySem.W.codeIn K cd4 "is_any_shot" = true) (k4 : PySem.W.keepIn K (.ref f4) = true)
    (a5 : PySem.W.nsIn K mainGlobals "check_table" = some (some (.ref f5))) (l5 : K.lookup f5 = some ⟨oc5, od5, .func (PySem.W.fnOf "check_table" "check_table" (defArgs s_check_table) (defBody s_check_table) (defScope s_check_table) .none kV5 dc5 pm5 an5 cd5 ct5), sl5⟩) (c5 : PySem.W.codeIn K cd5 "check_table" = true) (k5 : PySem.W.keepIn K (.ref f5) = true)
    (a6 : PySem.W.nsIn K mainGlobals "written" = some (some (.ref f6))) (l6 : K.lookup f6 = some ⟨oc6, od6, .func (PySem.W.fnOf "written" "written" (defArgs s_written) (defBody s_written) (defScope s_written) .none kV6 dc6 pm6 an6 cd6 ct6), sl6⟩) (c6 : PySem.W.codeIn K cd6 "written" = true) (k6 : PySem.W.keepIn K (.ref f6) = true)
    (a7 : PySem.W.nsIn K mainGlobals "format_table" = some (some (.ref f7))) (l7 : K.lookup f7 = some ⟨oc7, od7, .func (PySem.W.fnOf "format_table" "format_table" (defArgs s_format_table) (defBody s_format_table) (defScope s_format_table) .none kV7 dc7 pm7 an7 cd7 ct7), sl7⟩) (c7 : PySem.W.codeIn K cd7 "format_table" = true) (k7 : PySem.W.keepIn K (.ref f7) = true)
    (a8 : PySem.W.nsIn K mainGlobals "format_shot" = some (some (.ref f8))) (l8 : K.lookup f8 = some ⟨oc8, od8, .func (PySem.W.fnOf "format_shot" "format_shot" (defArgs s_format_shot) (defBody s_format_shot) (defScope s_format_shot) .none kV8 dc8 pm8 an8 cd8 ct8), sl8⟩) (c8 : PySem.W.codeIn K cd8 "format_shot" = true) (k8 : PySem.W.keepIn K (.ref f8) = true)
    (a9 : PySem.W.nsIn K mainGlobals "_number" = some (some (.ref f9))) (l9 : K.lookup f9 = some ⟨oc9, od9, .func (PySem.W.fnOf "_number" "_number" (defArgs s__number) (defBody s__number) (defScope s__number) .none kV9 dc9 pm9 an9 cd9 ct9), sl9⟩) (c9 : PySem.W.codeIn K cd9 "_number" = true) (k9 : PySem.W.keepIn K (.ref f9) = true)
    (a10 : PySem.W.nsIn K mainGlobals "_numbers" = some (some (.ref f10))) (l10 : K.lookup f10 = some ⟨oc10, od10, .func (PySem.W.fnOf "_numbers" "_numbers" (defArgs s__numbers) (defBody s__numbers) (defScope s__numbers) .none kV10 dc10 pm10 an10 cd10 ct10), sl10⟩) (c10 : PySem.W.codeIn K cd10 "_numbers" = true) (k10 : PySem.W.keepIn K (.ref f10) = true)
    (a11 : PySem.W.nsIn K mainGlobals "_words" = some (some (.ref f11))) (l11 : K.lookup f11 = some ⟨oc11, od11, .func (PySem.W.fnOf "_words" "_words" (defArgs s__words) (defBody s__words) (defScope s__words) .none kV11 dc11 pm11 an11 cd11 ct11), sl11⟩) (c11 : PySem.W.codeIn K cd11 "_words" = true) (k11 : PySem.W.keepIn K (.ref f11) = true)
    (a12 : PySem.W.nsIn K mainGlobals "parse_table" = some (some (.ref f12))) (l12 : K.lookup f12 = some ⟨oc12, od12, .func (PySem.W.fnOf "parse_table" "parse_table" (defArgs s_parse_table) (defBody s_parse_table) (defScope s_parse_table) .none kV12 dc12 pm12 an12 cd12 ct12), sl12⟩) (c12 : PySem.W.codeIn K cd12 "parse_table" = true) (k12 : PySem.W.keepIn K (.ref f12) = true)
    (a13 : PySem.W.nsIn K mainGlobals "parse_shot" = some (some (.ref f13))) (l13 : K.lookup f13 = some ⟨oc13, od13, .func (PySem.W.fnOf "parse_shot" "parse_shot" (defArgs s_parse_shot) (defBody s_parse_shot) (defScope s_parse_shot) .none kV13 dc13 pm13 an13 cd13 ct13), sl13⟩) (c13 : PySem.W.codeIn K cd13 "parse_shot" = true) (k13 : PySem.W.keepIn K (.ref f13) = true)
    (a14 : PySem.W.nsIn K mainGlobals "_law_well" = some (some (.ref f14))) (l14 : K.lookup f14 = some ⟨oc14, od14, .func (PySem.W.fnOf "_law_well" "_law_well" (defArgs s__law_well) (defBody s__law_well) (defScope s__law_well) .none kV14 dc14 pm14 an14 cd14 ct14), sl14⟩) (c14 : PySem.W.codeIn K cd14 "_law_well" = true) (k14 : PySem.W.keepIn K (.ref f14) = true)
    (a15 : PySem.W.nsIn K mainGlobals "_law_draw" = some (some (.ref f15))) (l15 : K.lookup f15 = some ⟨oc15, od15, .func (PySem.W.fnOf "_law_draw" "_law_draw" (defArgs s__law_draw) (defBody s__law_draw) (defScope s__law_draw) .none kV15 dc15 pm15 an15 cd15 ct15), sl15⟩) (c15 : PySem.W.codeIn K cd15 "_law_draw" = true) (k15 : PySem.W.keepIn K (.ref f15) = true)
    (a16 : PySem.W.nsIn K mainGlobals "_law_same" = some (some (.ref f16))) (l16 : K.lookup f16 = some ⟨oc16, od16, .func (PySem.W.fnOf "_law_same" "_law_same" (defArgs s__law_same) (defBody s__law_same) (defScope s__law_same) .none kV16 dc16 pm16 an16 cd16 ct16), sl16⟩) (c16 : PySem.W.codeIn K cd16 "_law_same" = true) (k16 : PySem.W.keepIn K (.ref f16) = true)
    (a17 : PySem.W.nsIn K mainGlobals "_law_desk" = some (some (.ref f17))) (l17 : K.lookup f17 = some ⟨oc17, od17, .func (PySem.W.fnOf "_law_desk" "_law_desk" (defArgs s__law_desk) (defBody s__law_desk) (defScope s__law_desk) .none kV17 dc17 pm17 an17 cd17 ct17), sl17⟩) (c17 : PySem.W.codeIn K cd17 "_law_desk" = true) (k17 : PySem.W.keepIn K (.ref f17) = true)
    (a18 : PySem.W.nsIn K mainGlobals "_law_roll" = some (some (.ref f18))) (l18 : K.lookup f18 = some ⟨oc18, od18, .func (PySem.W.fnOf "_law_roll" "_law_roll" (defArgs s__law_roll) (defBody s__law_roll) (defScope s__law_roll) .none kV18 dc18 pm18 an18 cd18 ct18), sl18⟩) (c18 : PySem.W.codeIn K cd18 "_law_roll" = true) (k18 : PySem.W.keepIn K (.ref f18) = true)
    (a19 : PySem.W.nsIn K mainGlobals "_law_figure" = some (some (.ref f19))) (l19 : K.lookup f19 = some ⟨oc19, od19, .func (PySem.W.fnOf "_law_figure" "_law_figure" (defArgs s__law_figure) (defBody s__law_figure) (defScope s__law_figure) .none kV19 dc19 pm19 an19 cd19 ct19), sl19⟩) (c19 : PySem.W.codeIn K cd19 "_law_figure" = true) (k19 : PySem.W.keepIn K (.ref f19) = true)
    (a20 : PySem.W.nsIn K mainGlobals "_law_read" = some (some (.ref f20))) (l20 : K.lookup f20 = some ⟨oc20, od20, .func (PySem.W.fnOf "_law_read" "_law_read" (defArgs s__law_read) (defBody s__law_read) (defScope s__law_read) .none kV20 dc20 pm20 an20 cd20 ct20), sl20⟩) (c20 : PySem.W.codeIn K cd20 "_law_read" = true) (k20 : PySem.W.keepIn K (.ref f20) = true)
    (a21 : PySem.W.nsIn K mainGlobals "_law_told" = some (some (.ref f21))) (l21 : K.lookup f21 = some ⟨oc21, od21, .func (PySem.W.fnOf "_law_told" "_law_told" (defArgs s__law_told) (defBody s__law_told) (defScope s__law_told) .none kV21 dc21 pm21 an21 cd21 ct21), sl21⟩) (c21 : PySem.W.codeIn K cd21 "_law_told" = true) (k21 : PySem.W.keepIn K (.ref f21) = true)
    (a22 : PySem.W.nsIn K mainGlobals "_law_longest" = some (some (.ref f22))) (l22 : K.lookup f22 = some ⟨oc22, od22, .func (PySem.W.fnOf "_law_longest" "_law_longest" (defArgs s__law_longest) (defBody s__law_longest) (defScope s__law_longest) .none kV22 dc22 pm22 an22 cd22 ct22), sl22⟩) (c22 : PySem.W.codeIn K cd22 "_law_longest" = true) (k22 : PySem.W.keepIn K (.ref f22) = true)
    (a23 : PySem.W.nsIn K mainGlobals "_law_bent" = some (some (.ref f23))) (l23 : K.lookup f23 = some ⟨oc23, od23, .func (PySem.W.fnOf "_law_bent" "_law_bent" (defArgs s__law_bent) (defBody s__law_bent) (defScope s__law_bent) .none kV23 dc23 pm23 an23 cd23 ct23), sl23⟩) (c23 : PySem.W.codeIn K cd23 "_law_bent" = true) (k23 : PySem.W.keepIn K (.ref f23) = true)
    (a24 : PySem.W.nsIn K mainGlobals "_law_right" = some (some (.ref f24))) (l24 : K.lookup f24 = some ⟨oc24, od24, .func (PySem.W.fnOf "_law_right" "_law_right" (defArgs s__law_right) (defBody s__law_right) (defScope s__law_right) .none kV24 dc24 pm24 an24 cd24 ct24), sl24⟩) (c24 : PySem.W.codeIn K cd24 "_law_right" = true) (k24 : PySem.W.keepIn K (.ref f24) = true)
    (a25 : PySem.W.nsIn K mainGlobals "_law_refused" = some (some (.ref f25))) (l25 : K.lookup f25 = some ⟨oc25, od25, .func (PySem.W.fnOf "_law_refused" "_law_refused" (defArgs s__law_refused) (defBody s__law_refused) (defScope s__law_refused) .none kV25 dc25 pm25 an25 cd25 ct25), sl25⟩) (c25 : PySem.W.codeIn K cd25 "_law_refused" = true) (k25 : PySem.W.keepIn K (.ref f25) = true)
    (a26 : PySem.W.nsIn K mainGlobals "law" = some (some (.ref f26))) (l26 : K.lookup f26 = some ⟨oc26, od26, .func (PySem.W.fnOf "law" "law" (defArgs s_law) (defBody s_law) (defScope s_law) .none kV26 dc26 pm26 an26 cd26 ct26), sl26⟩) (c26 : PySem.W.codeIn K cd26 "law" = true) (k26 : PySem.W.keepIn K (.ref f26) = true)
    (z_ValueError : PySem.W.nsIn K mainGlobals "ValueError" = some none)
    (z_abs : PySem.W.nsIn K mainGlobals "abs" = some none)
    (z_all : PySem.W.nsIn K mainGlobals "all" = some none)
    (z_bool : PySem.W.nsIn K mainGlobals "bool" = some none)
    (z_int : PySem.W.nsIn K mainGlobals "int" = some none)
    (z_isinstance : PySem.W.nsIn K mainGlobals "isinstance" = some none)
    (z_len : PySem.W.nsIn K mainGlobals "len" = some none)
    (z_list : PySem.W.nsIn K mainGlobals "list" = some none)
    (z_max : PySem.W.nsIn K mainGlobals "max" = some none)
    (z_min : PySem.W.nsIn K mainGlobals "min" = some none)
    (z_range : PySem.W.nsIn K mainGlobals "range" = some none)
    (z_str : PySem.W.nsIn K mainGlobals "str" = some none)
    (z_tuple : PySem.W.nsIn K mainGlobals "tuple" = some none)
    (x1_InvalidShot : PySem.W.nsIn K mainGlobals "InvalidShot" = some (some (.ref C_InvalidShot))) (x2_InvalidShot : PySem.W.excIn K C_InvalidShot [.type "ValueError", .type "Exception", .type "BaseException", .type "object"] "ValueError.__new__" = true) (x3_InvalidShot : PySem.W.keepIn K (.ref C_InvalidShot) = true)
    (x4_InvalidShot : PySem.W.subIn K (.ref C_InvalidShot) (.type "BaseException") = some true) (x5_InvalidShot : PySem.W.typeIn K (.ref C_InvalidShot) = some (.type "type"))
    (x1_InvalidTable : PySem.W.nsIn K mainGlobals "InvalidTable" = some (some (.ref C_InvalidTable))) (x2_InvalidTable : PySem.W.excIn K C_InvalidTable [.type "ValueError", .type "Exception", .type "BaseException", .type "object"] "ValueError.__new__" = true) (x3_InvalidTable : PySem.W.keepIn K (.ref C_InvalidTable) = true)
    (x4_InvalidTable : PySem.W.subIn K (.ref C_InvalidTable) (.type "BaseException") = some true) (x5_InvalidTable : PySem.W.typeIn K (.ref C_InvalidTable) = some (.type "type"))
    (x1_InvalidText : PySem.W.nsIn K mainGlobals "InvalidText" = some (some (.ref C_InvalidText))) (x2_InvalidText : PySem.W.excIn K C_InvalidText [.type "ValueError", .type "Exception", .type "BaseException", .type "object"] "ValueError.__new__" = true) (x3_InvalidText : PySem.W.keepIn K (.ref C_InvalidText) = true)
    (x4_InvalidText : PySem.W.subIn K (.ref C_InvalidText) (.type "BaseException") = some true) (x5_InvalidText : PySem.W.typeIn K (.ref C_InvalidText) = some (.type "type"))
    (x1_ShotError : PySem.W.nsIn K mainGlobals "ShotError" = some (some (.ref C_ShotError))) (x4_ShotError : PySem.W.subIn K (.ref C_ShotError) (.type "BaseException") = some true) (x5_ShotError : PySem.W.typeIn K (.ref C_ShotError) = some (.type "type"))
    (e4_InvalidShot : PySem.W.hasDictIn K C_InvalidShot = true)
    (e4_InvalidTable : PySem.W.hasDictIn K C_InvalidTable = true)
    (e4_InvalidText : PySem.W.hasDictIn K C_InvalidText = true)
    (e4_ShotError : PySem.W.hasDictIn K C_ShotError = true)
    (e1_InvalidShot : PySem.W.findIn K (.ref C_InvalidShot) "__getattribute__" = some (some (.builtin "BaseException.__getattribute__"))) (e2_InvalidShot : PySem.W.findIn K (.ref C_InvalidShot) "__getattr__" = some none) (e3_InvalidShot : PySem.W.findIn K (.ref C_InvalidShot) "__class__" = some (some (.builtin "object.__class__"))) (e5_InvalidShot : PySem.W.mroIn K C_InvalidShot (.type "object") = some true)
    (e1_InvalidTable : PySem.W.findIn K (.ref C_InvalidTable) "__getattribute__" = some (some (.builtin "BaseException.__getattribute__"))) (e2_InvalidTable : PySem.W.findIn K (.ref C_InvalidTable) "__getattr__" = some none) (e3_InvalidTable : PySem.W.findIn K (.ref C_InvalidTable) "__class__" = some (some (.builtin "object.__class__"))) (e5_InvalidTable : PySem.W.mroIn K C_InvalidTable (.type "object") = some true)
    (e1_InvalidText : PySem.W.findIn K (.ref C_InvalidText) "__getattribute__" = some (some (.builtin "BaseException.__getattribute__"))) (e2_InvalidText : PySem.W.findIn K (.ref C_InvalidText) "__getattr__" = some none) (e3_InvalidText : PySem.W.findIn K (.ref C_InvalidText) "__class__" = some (some (.builtin "object.__class__"))) (e5_InvalidText : PySem.W.mroIn K C_InvalidText (.type "object") = some true)
    (hn_ : PySem.W.specialIn K (.builtin "object.__class__") "__get__" = some (some (.builtin "getset_descriptor.__get__"))) (ht_ : PySem.W.takesIn K (.builtin "object.__class__") = some true)
    (kt_InvalidShot_InvalidShot : PySem.W.kitOne K (.ref C_InvalidShot) (.ref C_InvalidShot) = some true)
    (kt_InvalidShot_InvalidTable : PySem.W.kitOne K (.ref C_InvalidTable) (.ref C_InvalidShot) = some false)
    (kt_InvalidShot_InvalidText : PySem.W.kitOne K (.ref C_InvalidText) (.ref C_InvalidShot) = some false)
    (kt_InvalidTable_InvalidShot : PySem.W.kitOne K (.ref C_InvalidShot) (.ref C_InvalidTable) = some false)
    (kt_InvalidTable_InvalidTable : PySem.W.kitOne K (.ref C_InvalidTable) (.ref C_InvalidTable) = some true)
    (kt_InvalidTable_InvalidText : PySem.W.kitOne K (.ref C_InvalidText) (.ref C_InvalidTable) = some false)
    (kt_InvalidText_InvalidShot : PySem.W.kitOne K (.ref C_InvalidShot) (.ref C_InvalidText) = some false)
    (kt_InvalidText_InvalidTable : PySem.W.kitOne K (.ref C_InvalidTable) (.ref C_InvalidText) = some false)
    (kt_InvalidText_InvalidText : PySem.W.kitOne K (.ref C_InvalidText) (.ref C_InvalidText) = some true)
    (kt_ValueError_InvalidShot : PySem.W.kitOne K (.ref C_InvalidShot) (.type "ValueError") = some true)
    (kt_ValueError_InvalidTable : PySem.W.kitOne K (.ref C_InvalidTable) (.type "ValueError") = some true)
    (kt_ValueError_InvalidText : PySem.W.kitOne K (.ref C_InvalidText) (.type "ValueError") = some true)
    (hh_ShotError_InvalidShot : PySem.W.subIn K (.ref C_InvalidShot) (.ref C_ShotError) = some true)
    (hh_ShotError_InvalidTable : PySem.W.subIn K (.ref C_InvalidTable) (.ref C_ShotError) = some true)
    (hh_ShotError_InvalidText : PySem.W.subIn K (.ref C_InvalidText) (.ref C_ShotError) = some true)
    : ∃ fd : FuncData, (∀ (s : Shared) (u : Value), BindsTo s fd ⟨[u], []⟩ [("script", u)]) ∧ ∀ base : Heap, K.In base → base.Ns mainGlobals mg → FnG l.prog w K mg base 8 fa fd ["script"] (spL K) := by
  have e := hfa.symm.trans (PySem.W.mg_of X G0 a26)
  cases e
  let CN : String → Option Addr := fun s => if s = "InvalidShot" then some C_InvalidShot else if s = "InvalidTable" then some C_InvalidTable else if s = "InvalidText" then some C_InvalidText else none
  have cnx : ∀ {p : String → Addr → Prop}, p "InvalidShot" C_InvalidShot → p "InvalidTable" C_InvalidTable → p "InvalidText" C_InvalidText → ∀ c A, CN c = some A → p c A := by
    intro p p_InvalidShot p_InvalidTable p_InvalidText c A h
    have h : (if c = "InvalidShot" then some C_InvalidShot else if c = "InvalidTable" then some C_InvalidTable else if c = "InvalidText" then some C_InvalidText else none) = some A := h
    by_cases q_InvalidShot : c = "InvalidShot"
    · subst q_InvalidShot; simp only [if_true, String.reduceEq, if_false] at h; cases h; exact p_InvalidShot
    rw [if_neg q_InvalidShot] at h
    by_cases q_InvalidTable : c = "InvalidTable"
    · subst q_InvalidTable; simp only [if_true, String.reduceEq, if_false] at h; cases h; exact p_InvalidTable
    rw [if_neg q_InvalidTable] at h
    by_cases q_InvalidText : c = "InvalidText"
    · subst q_InvalidText; simp only [if_true, String.reduceEq, if_false] at h; cases h; exact p_InvalidText
    rw [if_neg q_InvalidText] at h
    cases h
  have g : G K mg CN := {
    ec := cnx (p := fun _ A => ExcC K A) ⟨e1_InvalidShot, e2_InvalidShot, x4_InvalidShot, e4_InvalidShot, e3_InvalidShot, hn_, ht_, e5_InvalidShot⟩ ⟨e1_InvalidTable, e2_InvalidTable, x4_InvalidTable, e4_InvalidTable, e3_InvalidTable, hn_, ht_, e5_InvalidTable⟩ ⟨e1_InvalidText, e2_InvalidText, x4_InvalidText, e4_InvalidText, e3_InvalidText, hn_, ht_, e5_InvalidText⟩,
    kt_InvalidShot := ⟨C_InvalidShot, PySem.W.mg_of X G0 x1_InvalidShot, cnx (p := fun c A => PySem.W.kitOne K (.ref A) (.ref C_InvalidShot) = some (isSub c "InvalidShot")) (by rw [show isSub "InvalidShot" "InvalidShot" = true by decide +kernel]; exact kt_InvalidShot_InvalidShot) (by rw [show isSub "InvalidTable" "InvalidShot" = false by decide +kernel]; exact kt_InvalidShot_InvalidTable) (by rw [show isSub "InvalidText" "InvalidShot" = false by decide +kernel]; exact kt_InvalidShot_InvalidText)⟩,
    kt_InvalidTable := ⟨C_InvalidTable, PySem.W.mg_of X G0 x1_InvalidTable, cnx (p := fun c A => PySem.W.kitOne K (.ref A) (.ref C_InvalidTable) = some (isSub c "InvalidTable")) (by rw [show isSub "InvalidShot" "InvalidTable" = false by decide +kernel]; exact kt_InvalidTable_InvalidShot) (by rw [show isSub "InvalidTable" "InvalidTable" = true by decide +kernel]; exact kt_InvalidTable_InvalidTable) (by rw [show isSub "InvalidText" "InvalidTable" = false by decide +kernel]; exact kt_InvalidTable_InvalidText)⟩,
    kt_InvalidText := ⟨C_InvalidText, PySem.W.mg_of X G0 x1_InvalidText, cnx (p := fun c A => PySem.W.kitOne K (.ref A) (.ref C_InvalidText) = some (isSub c "InvalidText")) (by rw [show isSub "InvalidShot" "InvalidText" = false by decide +kernel]; exact kt_InvalidText_InvalidShot) (by rw [show isSub "InvalidTable" "InvalidText" = false by decide +kernel]; exact kt_InvalidText_InvalidTable) (by rw [show isSub "InvalidText" "InvalidText" = true by decide +kernel]; exact kt_InvalidText_InvalidText)⟩,
    kb_ValueError := cnx (p := fun c A => PySem.W.kitOne K (.ref A) (.type "ValueError") = some (isSub c "ValueError")) (by rw [show isSub "InvalidShot" "ValueError" = true by decide +kernel]; exact kt_ValueError_InvalidShot) (by rw [show isSub "InvalidTable" "ValueError" = true by decide +kernel]; exact kt_ValueError_InvalidTable) (by rw [show isSub "InvalidText" "ValueError" = true by decide +kernel]; exact kt_ValueError_InvalidText),
    h_ShotError := ⟨_, PySem.W.mg_of X G0 x1_ShotError, cnx (p := fun c A => PySem.W.exmOne K (.ref A) (.ref C_ShotError) = some (isSub c "ShotError")) (by rw [show isSub "InvalidShot" "ShotError" = true by decide +kernel]; exact PySem.W.exm_ref x4_ShotError e4_ShotError x5_ShotError hh_ShotError_InvalidShot) (by rw [show isSub "InvalidTable" "ShotError" = true by decide +kernel]; exact PySem.W.exm_ref x4_ShotError e4_ShotError x5_ShotError hh_ShotError_InvalidTable) (by rw [show isSub "InvalidText" "ShotError" = true by decide +kernel]; exact PySem.W.exm_ref x4_ShotError e4_ShotError x5_ShotError hh_ShotError_InvalidText)⟩,
    b_ValueError := PySem.W.mg_none_of X G0 z_ValueError,
    b_abs := PySem.W.mg_none_of X G0 z_abs,
    b_all := PySem.W.mg_none_of X G0 z_all,
    b_bool := PySem.W.mg_none_of X G0 z_bool,
    b_int := PySem.W.mg_none_of X G0 z_int,
    b_isinstance := PySem.W.mg_none_of X G0 z_isinstance,
    b_len := PySem.W.mg_none_of X G0 z_len,
    b_list := PySem.W.mg_none_of X G0 z_list,
    b_max := PySem.W.mg_none_of X G0 z_max,
    b_min := PySem.W.mg_none_of X G0 z_min,
    b_range := PySem.W.mg_none_of X G0 z_range,
    b_str := PySem.W.mg_none_of X G0 z_str,
    b_tuple := PySem.W.mg_none_of X G0 z_tuple,
    x_InvalidShot := ⟨C_InvalidShot, by simp [CN], ⟨PySem.W.mg_of X G0 x1_InvalidShot, x2_InvalidShot, x3_InvalidShot, x4_InvalidShot, x5_InvalidShot⟩⟩,
    x_InvalidTable := ⟨C_InvalidTable, by simp [CN], ⟨PySem.W.mg_of X G0 x1_InvalidTable, x2_InvalidTable, x3_InvalidTable, x4_InvalidTable, x5_InvalidTable⟩⟩,
    x_InvalidText := ⟨C_InvalidText, by simp [CN], ⟨PySem.W.mg_of X G0 x1_InvalidText, x2_InvalidText, x3_InvalidText, x4_InvalidText, x5_InvalidText⟩⟩ }
  have F1 := fun_mk (st := s_is_whole) l1 c1 k1
  have b1 := F1.binds (ps := ["value"]) fun _ _ _ _ _ _ us hl => match us, hl with | [_], _ => rfl
  have F2 := fun_mk (st := s_are_whole) l2 c2 k2
  have b2 := F2.binds (ps := ["value", "many"]) fun _ _ _ _ _ _ us hl => match us, hl with | [_, _], _ => rfl
  have F3 := fun_mk (st := s_is_table) l3 c3 k3
  have b3 := F3.binds (ps := ["value"]) fun _ _ _ _ _ _ us hl => match us, hl with | [_], _ => rfl
  have F4 := fun_mk (st := s_is_any_shot) l4 c4 k4
  have b4 := F4.binds (ps := ["value"]) fun _ _ _ _ _ _ us hl => match us, hl with | [_], _ => rfl
  have F5 := fun_mk (st := s_check_table) l5 c5 k5
  have b5 := F5.binds (ps := ["table"]) fun _ _ _ _ _ _ us hl => match us, hl with | [_], _ => rfl
  have F6 := fun_mk (st := s_written) l6 c6 k6
  have b6 := F6.binds (ps := ["number"]) fun _ _ _ _ _ _ us hl => match us, hl with | [_], _ => rfl
  have F7 := fun_mk (st := s_format_table) l7 c7 k7
  have b7 := F7.binds (ps := ["table"]) fun _ _ _ _ _ _ us hl => match us, hl with | [_], _ => rfl
  have F8 := fun_mk (st := s_format_shot) l8 c8 k8
  have b8 := F8.binds (ps := ["shot"]) fun _ _ _ _ _ _ us hl => match us, hl with | [_], _ => rfl
  have F9 := fun_mk (st := s__number) l9 c9 k9
  have b9 := F9.binds (ps := ["word"]) fun _ _ _ _ _ _ us hl => match us, hl with | [_], _ => rfl
  have F10 := fun_mk (st := s__numbers) l10 c10 k10
  have b10 := F10.binds (ps := ["words"]) fun _ _ _ _ _ _ us hl => match us, hl with | [_], _ => rfl
  have F11 := fun_mk (st := s__words) l11 c11 k11
  have b11 := F11.binds (ps := ["text", "sign"]) fun _ _ _ _ _ _ us hl => match us, hl with | [_, _], _ => rfl
  have F12 := fun_mk (st := s_parse_table) l12 c12 k12
  have b12 := F12.binds (ps := ["text"]) fun _ _ _ _ _ _ us hl => match us, hl with | [_], _ => rfl
  have F13 := fun_mk (st := s_parse_shot) l13 c13 k13
  have b13 := F13.binds (ps := ["text"]) fun _ _ _ _ _ _ us hl => match us, hl with | [_], _ => rfl
  have F14 := fun_mk (st := s__law_well) l14 c14 k14
  have b14 := F14.binds (ps := ["script", "at"]) fun _ _ _ _ _ _ us hl => match us, hl with | [_, _], _ => rfl
  have F15 := fun_mk (st := s__law_draw) l15 c15 k15
  have b15 := F15.binds (ps := ["well", "most"]) fun _ _ _ _ _ _ us hl => match us, hl with | [_, _], _ => rfl
  have F16 := fun_mk (st := s__law_same) l16 c16 k16
  have b16 := F16.binds (ps := ["found", "due"]) fun _ _ _ _ _ _ us hl => match us, hl with | [_, _], _ => rfl
  have F17 := fun_mk (st := s__law_desk) l17 c17 k17
  have b17 := F17.binds (ps := ["well", "most"]) fun _ _ _ _ _ _ us hl => match us, hl with | [_, _], _ => rfl
  have F18 := fun_mk (st := s__law_roll) l18 c18 k18
  have b18 := F18.binds (ps := ["well", "desk", "most"]) fun _ _ _ _ _ _ us hl => match us, hl with | [_, _, _], _ => rfl
  have F19 := fun_mk (st := s__law_figure) l19 c19 k19
  have b19 := F19.binds (ps := ["word"]) fun _ _ _ _ _ _ us hl => match us, hl with | [_], _ => rfl
  have F20 := fun_mk (st := s__law_read) l20 c20 k20
  have b20 := F20.binds (ps := ["line", "size"]) fun _ _ _ _ _ _ us hl => match us, hl with | [_, _], _ => rfl
  have F21 := fun_mk (st := s__law_told) l21 c21 k21
  have b21 := F21.binds (ps := ["way", "thing"]) fun _ _ _ _ _ _ us hl => match us, hl with | [_, _], _ => rfl
  have F22 := fun_mk (st := s__law_longest) l22 c22 k22
  have b22 := F22.binds (ps := ["line"]) fun _ _ _ _ _ _ us hl => match us, hl with | [_], _ => rfl
  have F23 := fun_mk (st := s__law_bent) l23 c23 k23
  have b23 := F23.binds (ps := ["well", "line"]) fun _ _ _ _ _ _ us hl => match us, hl with | [_, _], _ => rfl
  have F24 := fun_mk (st := s__law_right) l24 c24 k24
  have b24 := F24.binds (ps := ["well", "value_here", "line", "size"]) fun _ _ _ _ _ _ us hl => match us, hl with | [_, _, _, _], _ => rfl
  have F25 := fun_mk (st := s__law_refused) l25 c25 k25
  have b25 := F25.binds (ps := ["well", "desk", "shot_here"]) fun _ _ _ _ _ _ us hl => match us, hl with | [_, _, _], _ => rfl
  have F26 := fun_mk (st := s_law) l26 c26 k26
  refine ⟨PySem.W.fnOf "law" "law" (defArgs s_law) (defBody s_law) (defScope s_law) .none kV26 dc26 pm26 an26 cd26 ct26, fun s v => .of_eq rfl, fun base _ _ => ?_⟩
  have o_is_whole := ok_is_whole F1 g (P := l.prog) (w := w) (base := base)
  have c_is_whole : CalP l.prog w K mg base CN 1 "is_whole" D_is_whole := ⟨_, _, _, o_is_whole, PySem.W.mg_of X G0 a1, k1, b1⟩
  have o_are_whole := ok_are_whole F2 g c_is_whole (P := l.prog) (w := w) (base := base)
  have c_are_whole : CalP l.prog w K mg base CN 2 "are_whole" D_are_whole := ⟨_, _, _, o_are_whole, PySem.W.mg_of X G0 a2, k2, b2⟩
  have o_is_table := ok_is_table F3 g c_are_whole (P := l.prog) (w := w) (base := base)
  have c_is_table : CalP l.prog w K mg base CN 3 "is_table" D_is_table := ⟨_, _, _, o_is_table, PySem.W.mg_of X G0 a3, k3, b3⟩
  have o_is_any_shot := ok_is_any_shot F4 g c_are_whole (P := l.prog) (w := w) (base := base)
  have c_is_any_shot : CalP l.prog w K mg base CN 3 "is_any_shot" D_is_any_shot := ⟨_, _, _, o_is_any_shot, PySem.W.mg_of X G0 a4, k4, b4⟩
  have o_check_table := ok_check_table F5 g c_is_table (P := l.prog) (w := w) (base := base)
  have c_check_table : CalP l.prog w K mg base CN 4 "check_table" D_check_table := ⟨_, _, _, o_check_table, PySem.W.mg_of X G0 a5, k5, b5⟩
  have o_written := ok_written F6 g (P := l.prog) (w := w) (base := base)
  have c_written : CalP l.prog w K mg base CN 1 "written" D_written := ⟨_, _, _, o_written, PySem.W.mg_of X G0 a6, k6, b6⟩
  have o_format_table := ok_format_table F7 g c_check_table c_written (P := l.prog) (w := w) (base := base)
  have c_format_table : CalP l.prog w K mg base CN 5 "format_table" D_format_table := ⟨_, _, _, o_format_table, PySem.W.mg_of X G0 a7, k7, b7⟩
  have kc_format_table_0_table : CalK l.prog w K mg base CN 5 "format_table" D_format_table ["table"] (gSel 0 1 [.k 0]) := ⟨⟨_, _, _, o_format_table, PySem.W.mg_of X G0 a7, k7, kbinds_of (by decide) fun s us ws h1 h2 => match us, ws, h1, h2 with | [], [_], _, _ => .of_eq rfl⟩, ord_sel _ _ _⟩
  have o_format_shot := ok_format_shot F8 g c_is_any_shot c_written (P := l.prog) (w := w) (base := base)
  have c_format_shot : CalP l.prog w K mg base CN 4 "format_shot" D_format_shot := ⟨_, _, _, o_format_shot, PySem.W.mg_of X G0 a8, k8, b8⟩
  have kc_format_shot_0_shot : CalK l.prog w K mg base CN 4 "format_shot" D_format_shot ["shot"] (gSel 0 1 [.k 0]) := ⟨⟨_, _, _, o_format_shot, PySem.W.mg_of X G0 a8, k8, kbinds_of (by decide) fun s us ws h1 h2 => match us, ws, h1, h2 with | [], [_], _, _ => .of_eq rfl⟩, ord_sel _ _ _⟩
  have o__number := ok__number F9 g (P := l.prog) (w := w) (base := base)
  have c__number : CalP l.prog w K mg base CN 1 "_number" D__number := ⟨_, _, _, o__number, PySem.W.mg_of X G0 a9, k9, b9⟩
  have o__numbers := ok__numbers F10 g c__number (P := l.prog) (w := w) (base := base)
  have c__numbers : CalP l.prog w K mg base CN 2 "_numbers" D__numbers := ⟨_, _, _, o__numbers, PySem.W.mg_of X G0 a10, k10, b10⟩
  have o__words := ok__words F11 g (P := l.prog) (w := w) (base := base)
  have c__words : CalP l.prog w K mg base CN 1 "_words" D__words := ⟨_, _, _, o__words, PySem.W.mg_of X G0 a11, k11, b11⟩
  have o_parse_table := ok_parse_table F12 g c__numbers c__words c_is_table (P := l.prog) (w := w) (base := base)
  have c_parse_table : CalP l.prog w K mg base CN 4 "parse_table" D_parse_table := ⟨_, _, _, o_parse_table, PySem.W.mg_of X G0 a12, k12, b12⟩
  have kc_parse_table_0_text : CalK l.prog w K mg base CN 4 "parse_table" D_parse_table ["text"] (gSel 0 1 [.k 0]) := ⟨⟨_, _, _, o_parse_table, PySem.W.mg_of X G0 a12, k12, kbinds_of (by decide) fun s us ws h1 h2 => match us, ws, h1, h2 with | [], [_], _, _ => .of_eq rfl⟩, ord_sel _ _ _⟩
  have o_parse_shot := ok_parse_shot F13 g c__numbers c__words c_is_any_shot (P := l.prog) (w := w) (base := base)
  have c_parse_shot : CalP l.prog w K mg base CN 4 "parse_shot" D_parse_shot := ⟨_, _, _, o_parse_shot, PySem.W.mg_of X G0 a13, k13, b13⟩
  have kc_parse_shot_0_text : CalK l.prog w K mg base CN 4 "parse_shot" D_parse_shot ["text"] (gSel 0 1 [.k 0]) := ⟨⟨_, _, _, o_parse_shot, PySem.W.mg_of X G0 a13, k13, kbinds_of (by decide) fun s us ws h1 h2 => match us, ws, h1, h2 with | [], [_], _, _ => .of_eq rfl⟩, ord_sel _ _ _⟩
  have o__law_well := ok_well F14 g.b_int g.b_len g.b_max g.b_abs (P := l.prog) (w := w) (mg := mg) (base := base)
  have c__law_well : CalL l.prog w K mg base 1 "_law_well" := ⟨_, _, _, o__law_well, PySem.W.mg_of X G0 a14, k14, b14⟩
  have o__law_draw := ok_draw F15 g.b_int (P := l.prog) (w := w) (mg := mg) (base := base)
  have c__law_draw : CalW l.prog w K mg base 1 "_law_draw" dDraw := ⟨_, _, _, o__law_draw, PySem.W.mg_of X G0 a15, k15, b15⟩
  have o__law_same := ok__law_same F16 (PySem.W.mg_of X G0 a16) b16 g  5 (P := l.prog) (w := w) (base := base)
  have c__law_same : CalP l.prog w K mg base CN 6 "_law_same" (D__law_same 5) := ⟨_, _, _, o__law_same, PySem.W.mg_of X G0 a16, k16, b16⟩
  have o__law_desk := ok__law_desk F17 g c__law_draw (P := l.prog) (w := w) (base := base)
  have c__law_desk : CalW l.prog w K mg base 2 "_law_desk" D__law_desk := ⟨_, _, _, o__law_desk, PySem.W.mg_of X G0 a17, k17, b17⟩
  have o__law_roll := ok__law_roll F18 g c__law_draw (P := l.prog) (w := w) (base := base)
  have c__law_roll : CalW l.prog w K mg base 2 "_law_roll" D__law_roll := ⟨_, _, _, o__law_roll, PySem.W.mg_of X G0 a18, k18, b18⟩
  have o__law_figure := ok__law_figure F19 g (P := l.prog) (w := w) (base := base)
  have c__law_figure : CalP l.prog w K mg base CN 1 "_law_figure" D__law_figure := ⟨_, _, _, o__law_figure, PySem.W.mg_of X G0 a19, k19, b19⟩
  have o__law_read := ok__law_read F20 g c__law_figure (P := l.prog) (w := w) (base := base)
  have c__law_read : CalP l.prog w K mg base CN 2 "_law_read" D__law_read := ⟨_, _, _, o__law_read, PySem.W.mg_of X G0 a20, k20, b20⟩
  have o__law_told := ok__law_told F21 g c_format_shot c_format_table c_parse_shot c_parse_table kc_parse_table_0_text kc_parse_shot_0_text kc_format_table_0_table kc_format_shot_0_shot (P := l.prog) (w := w) (base := base)
  have c__law_told : CalP l.prog w K mg base CN 6 "_law_told" D__law_told := ⟨_, _, _, o__law_told, PySem.W.mg_of X G0 a21, k21, b21⟩
  have o__law_longest := ok__law_longest F22 g (P := l.prog) (w := w) (base := base)
  have c__law_longest : CalP l.prog w K mg base CN 1 "_law_longest" D__law_longest := ⟨_, _, _, o__law_longest, PySem.W.mg_of X G0 a22, k22, b22⟩
  have o__law_bent := ok__law_bent F23 g c__law_draw (P := l.prog) (w := w) (base := base)
  have c__law_bent : CalW l.prog w K mg base 2 "_law_bent" D__law_bent := ⟨_, _, _, o__law_bent, PySem.W.mg_of X G0 a23, k23, b23⟩
  have o__law_right := ok__law_right F24 g c__law_bent c__law_longest c__law_read c__law_same c__law_told kc_format_table_0_table kc_format_shot_0_shot (P := l.prog) (w := w) (base := base)
  have c__law_right : CalW l.prog w K mg base 7 "_law_right" D__law_right := ⟨_, _, _, o__law_right, PySem.W.mg_of X G0 a24, k24, b24⟩
  have o__law_refused := ok__law_refused F25 g c__law_draw c__law_told (P := l.prog) (w := w) (base := base)
  have c__law_refused : CalW l.prog w K mg base 7 "_law_refused" D__law_refused := ⟨_, _, _, o__law_refused, PySem.W.mg_of X G0 a25, k25, b25⟩
  exact ok_law F26 g c__law_desk c__law_draw c__law_refused c__law_right c__law_roll c__law_told c__law_well
end LW
open PySem PySem.W PyProof.Rows
set_option maxHeartbeats 0 in
theorem PySem.Challenge.cw_cushionshots_k31_texts_of_tables_and_sho_holds : PySem.Challenge.rw_cushionshots_k31_texts_of_tables_and_sho.Holds := by
  w_on; o_law; k_head; (case hw => w_witness2)
  k_fill
  refine DL.end_law (l := PySem.Challenge.rw_cushionshots_k31_texts_of_tables_and_sho) (k := 8) (x := "script") rfl rfl ⟨⟨rfl, by decide, by decide⟩, rfl⟩ (fun w h Y => PySem.W.kIn_of Y) ?F
  case F =>
    intro w mg fa h KX G hmg
    refine' LW.all_mk KX G hmg ?a1 ?l1 ?c1 ?k1 ?a2 ?l2 ?c2 ?k2 ?a3 ?l3 ?c3 ?k3 ?a4 ?l4 ?c4 ?k4 ?a5 ?l5 ?c5 ?k5 ?a6 ?l6 ?c6 ?k6 ?a7 ?l7 ?c7 ?k7 ?a8 ?l8 ?c8 ?k8 ?a9 ?l9 ?c9 ?k9 ?a10 ?l10 ?c10 ?k10 ?a11 ?l11 ?c11 ?k11 ?a12 ?l12 ?c12 ?k12 ?a13 ?l13 ?c13 ?k13 ?a14 ?l14 ?c14 ?k14 ?a15 ?l15 ?c15 ?k15 ?a16 ?l16 ?c16 ?k16 ?a17 ?l17 ?c17 ?k17 ?a18 ?l18 ?c18 ?k18 ?a19 ?l19 ?c19 ?k19 ?a20 ?l20 ?c20 ?k20 ?a21 ?l21 ?c21 ?k21 ?a22 ?l22 ?c22 ?k22 ?a23 ?l23 ?c23 ?k23 ?a24 ?l24 ?c24 ?k24 ?a25 ?l25 ?c25 ?k25 ?a26 ?l26 ?c26 ?k26 ?z_ValueError ?z_abs ?z_all ?z_bool ?z_int ?z_isinstance ?z_len ?z_list ?z_max ?z_min ?z_range ?z_str ?z_tuple ?x1_InvalidShot ?x2_InvalidShot ?x3_InvalidShot ?x4_InvalidShot ?x5_InvalidShot ?x1_InvalidTable ?x2_InvalidTable ?x3_InvalidTable ?x4_InvalidTable ?x5_InvalidTable ?x1_InvalidText ?x2_InvalidText ?x3_InvalidText ?x4_InvalidText ?x5_InvalidText ?x1_ShotError ?x4_ShotError ?x5_ShotError ?e4_InvalidShot ?e4_InvalidTable ?e4_InvalidText ?e4_ShotError ?e1_InvalidShot ?e2_InvalidShot ?e3_InvalidShot ?e5_InvalidShot ?e1_InvalidTable ?e2_InvalidTable ?e3_InvalidTable ?e5_InvalidTable ?e1_InvalidText ?e2_InvalidText ?e3_InvalidText ?e5_InvalidText ?hn_ ?ht_ ?kt_InvalidShot_InvalidShot ?kt_InvalidShot_InvalidTable ?kt_InvalidShot_InvalidText ?kt_InvalidTable_InvalidShot ?kt_InvalidTable_InvalidTable ?kt_InvalidTable_InvalidText ?kt_InvalidText_InvalidShot ?kt_InvalidText_InvalidTable ?kt_InvalidText_InvalidText ?kt_ValueError_InvalidShot ?kt_ValueError_InvalidTable ?kt_ValueError_InvalidText ?hh_ShotError_InvalidShot ?hh_ShotError_InvalidTable ?hh_ShotError_InvalidText
    (case a1 => k_is)
    (case l1 => k_is)
    (case c1 => k_is)
    (case k1 => k_is)
    (case a2 => k_is)
    (case l2 => k_is)
    (case c2 => k_is)
    (case k2 => k_is)
    (case a3 => k_is)
    (case l3 => k_is)
    (case c3 => k_is)
    (case k3 => k_is)
    (case a4 => k_is)
    (case l4 => k_is)
    (case c4 => k_is)
    (case k4 => k_is)
    (case a5 => k_is)
    (case l5 => k_is)
    (case c5 => k_is)
    (case k5 => k_is)
    (case a6 => k_is)
    (case l6 => k_is)
    (case c6 => k_is)
    (case k6 => k_is)
    (case a7 => k_is)
    (case l7 => k_is)
    (case c7 => k_is)
    (case k7 => k_is)
    (case a8 => k_is)
    (case l8 => k_is)
    (case c8 => k_is)
    (case k8 => k_is)
    (case a9 => k_is)
    (case l9 => k_is)
    (case c9 => k_is)
    (case k9 => k_is)
    (case a10 => k_is)
    (case l10 => k_is)
    (case c10 => k_is)
    (case k10 => k_is)
    (case a11 => k_is)
    (case l11 => k_is)
    (case c11 => k_is)
    (case k11 => k_is)
    (case a12 => k_is)
    (case l12 => k_is)
    (case c12 => k_is)
    (case k12 => k_is)
    (case a13 => k_is)
    (case l13 => k_is)
    (case c13 => k_is)
    (case k13 => k_is)
    (case a14 => k_is)
    (case l14 => k_is)
    (case c14 => k_is)
    (case k14 => k_is)
    (case a15 => k_is)
    (case l15 => k_is)
    (case c15 => k_is)
    (case k15 => k_is)
    (case a16 => k_is)
    (case l16 => k_is)
    (case c16 => k_is)
    (case k16 => k_is)
    (case a17 => k_is)
    (case l17 => k_is)
    (case c17 => k_is)
    (case k17 => k_is)
    (case a18 => k_is)
    (case l18 => k_is)
    (case c18 => k_is)
    (case k18 => k_is)
    (case a19 => k_is)
    (case l19 => k_is)
    (case c19 => k_is)
    (case k19 => k_is)
    (case a20 => k_is)
    (case l20 => k_is)
    (case c20 => k_is)
    (case k20 => k_is)
    (case a21 => k_is)
    (case l21 => k_is)
    (case c21 => k_is)
    (case k21 => k_is)
    (case a22 => k_is)
    (case l22 => k_is)
    (case c22 => k_is)
    (case k22 => k_is)
    (case a23 => k_is)
    (case l23 => k_is)
    (case c23 => k_is)
    (case k23 => k_is)
    (case a24 => k_is)
    (case l24 => k_is)
    (case c24 => k_is)
    (case k24 => k_is)
    (case a25 => k_is)
    (case l25 => k_is)
    (case c25 => k_is)
    (case k25 => k_is)
    (case a26 => k_is)
    (case l26 => k_is)
    (case c26 => k_is)
    (case k26 => k_is)
    (case z_ValueError => k_is)
    (case z_abs => k_is)
    (case z_all => k_is)
    (case z_bool => k_is)
    (case z_int => k_is)
    (case z_isinstance => k_is)
    (case z_len => k_is)
    (case z_list => k_is)
    (case z_max => k_is)
    (case z_min => k_is)
    (case z_range => k_is)
    (case z_str => k_is)
    (case z_tuple => k_is)
    (case x1_InvalidShot => k_is)
    (case x2_InvalidShot => k_exc)
    (case x3_InvalidShot => k_is)
    (case x4_InvalidShot => k_is)
    (case x5_InvalidShot => k_is)
    (case x1_InvalidTable => k_is)
    (case x2_InvalidTable => k_exc)
    (case x3_InvalidTable => k_is)
    (case x4_InvalidTable => k_is)
    (case x5_InvalidTable => k_is)
    (case x1_InvalidText => k_is)
    (case x2_InvalidText => k_exc)
    (case x3_InvalidText => k_is)
    (case x4_InvalidText => k_is)
    (case x5_InvalidText => k_is)
    (case x1_ShotError => k_is)
    (case x4_ShotError => k_is)
    (case x5_ShotError => k_is)
    (case e4_InvalidShot => k_is)
    (case e4_InvalidTable => k_is)
    (case e4_InvalidText => k_is)
    (case e4_ShotError => k_is)
    (case e1_InvalidShot => k_is)
    (case e2_InvalidShot => k_is)
    (case e3_InvalidShot => k_is)
    (case e5_InvalidShot => k_is)
    (case e1_InvalidTable => k_is)
    (case e2_InvalidTable => k_is)
    (case e3_InvalidTable => k_is)
    (case e5_InvalidTable => k_is)
    (case e1_InvalidText => k_is)
    (case e2_InvalidText => k_is)
    (case e3_InvalidText => k_is)
    (case e5_InvalidText => k_is)
    (case hn_ => k_is)
    (case ht_ => k_is)
    (case kt_InvalidShot_InvalidShot => kit_is)
    (case kt_InvalidShot_InvalidTable => kit_is)
    (case kt_InvalidShot_InvalidText => kit_is)
    (case kt_InvalidTable_InvalidShot => kit_is)
    (case kt_InvalidTable_InvalidTable => kit_is)
    (case kt_InvalidTable_InvalidText => kit_is)
    (case kt_InvalidText_InvalidShot => kit_is)
    (case kt_InvalidText_InvalidTable => kit_is)
    (case kt_InvalidText_InvalidText => kit_is)
    (case kt_ValueError_InvalidShot => kit_is)
    (case kt_ValueError_InvalidTable => kit_is)
    (case kt_ValueError_InvalidText => kit_is)
    (case hh_ShotError_InvalidShot => k_is)
    (case hh_ShotError_InvalidTable => k_is)
    (case hh_ShotError_InvalidText => k_is)
