import PyProof.Rows.All
import Wide.All
import OpenK.AllK
import Wide.FinOn
import PyProof.EqLayable
import PyProof.EqAt
import PyProof.EqKinds
import PyProof.TupleCall
import HandS.ForExc
import HandS.Comp
import HandS.Iter
import HandS.Text
import HandS.Walk
import HandS.Wide
import HandS.IsInst
import HandS.Gcd
import HandS.TupAny
import HandS.Zip
import HandS.Rev
import HandS.ExcIs
import PyProof.Conv_int
import HandS.Dict
import PyProof.ReprReads
import PyProof.CallFns
import HandS.Style
import HandS.EndBits
import KE.KRevSl
import HandS.TupLe
import HandS.Conv
import HandS.SetFor
import KE.KTupSum
import KE.KMathG
import HandS.SortKw
import KE.DatumOrd
import HandS.Strs
import KE.GoesEnum
import KE.GoesZip
import HandS.SortInts
import KE.DatumIndex
import KE.DatumMore
import HandS.SortRule
import HandS.Deep
import HandS.List
import HandS.Replace
import HandS.StrMore
import OpenK.KMeth
import HandS.SlotsOwn
import PySem.Challenge.RW_cushionshots_k69_whole_spots_boxes_and_h
set_option Elab.async false
set_option linter.all false
set_option maxRecDepth 100000
set_option maxHeartbeats 4000000
namespace DL
open PySem
/-- what a slot holds: nothing known | frozen data | a list that nobody else holds | the law's well, with a budget of draws | the script | a caught error, at a -/
inductive S where
  | no | va (d : PyData) | own (ds : List PyData) | well (n : Nat) | scr (ns : List Int) | exc (a : Addr)
  /-- an instance of the class c that nobody else holds, its attributes -/
  | ins (c : Str) (es : List PyData)
abbrev DSt := List S
/-- a frozen instance of the class c: its attributes, a name and a value each -/
abbrev objD (c : Str) (es : List PyData) : PyData := .dict [(.none, .tuple (.str c :: es))]
/-- an attribute -/
def fget (n : Str) : List PyData → Option PyData
  | .tuple [.str m, d] :: r => if n = m then some d else fget n r
  | _ => none
def fput (n : Str) (v : PyData) : List PyData → List PyData
  | .tuple [.str m, d] :: r => if m = n then .tuple [.str m, v] :: r else .tuple [.str m, d] :: fput n v r
  | _ => [.tuple [.str n, v]]
/-- the three numbers of a well that stands for n more draws -/
structure WellOk (n : Nat) (a b c : Int) : Prop where
  a0 : 0 ≤ a
  a1 : a.natAbs < 2 ^ 1100000
  b0 : 0 ≤ b
  b1 : b < 2 ^ 150
  c0 : 0 ≤ c
  c1 : c + n < 2 ^ 64
def sget : DSt → Nat → S
  | [], _ => .no
  | s :: _, 0 => s
  | _ :: r, n + 1 => sget r n
def sset : DSt → Nat → S → DSt
  | [], _, _ => []
  | _ :: r, 0, s => s :: r
  | x :: r, n + 1, s => x :: sset r n s
/-- the slots is forgotten -/
def swipe : DSt → List Nat → DSt
  | sd, [] => sd
  | sd, i :: is => sset (swipe sd is) i .no
/-- the slots is put back from s0 -/
def sback (s0 : DSt) : DSt → List Nat → DSt
  | sd, [] => sd
  | sd, i :: is => sset (sback s0 sd is) i (sget s0 i)
abbrev ME := DSt → (PyData → DSt → Prop) → Prop
abbrev MT := DSt → (Bool → DSt → Prop) → Prop
abbrev MA := DSt → (List PyData → DSt → Prop) → Prop
abbrev MR := DSt → (S → DSt → Prop) → Prop
abbrev MI := DSt → (List PyData → DSt → Prop) → Prop
abbrev MG := PyData → DSt → (DSt → Prop) → Prop
abbrev MGs := List PyData → DSt → (DSt → Prop) → Prop
/-- what is wished of a raise: the class's name, the state -/
abbrev WD := String → DSt → Prop
structure DE where
  nx : DSt → Prop
  rt : S → DSt → Prop
  bk : DSt → Prop := fun _ => False
  ct : DSt → Prop := fun _ => False
abbrev MS := DE → DSt → Prop
/-- a def's promise: no well | with the well as its first argument -/
abbrev PSpec := List PyData → (S → Prop) → (String → Prop) → Prop
abbrev WSpec := Nat → List PyData → (S → Nat → Prop) → Prop
def fz : S → Option PyData
  | .va d => some d
  | .own ds => some (.list ds)
  | _ => none
def mC (d : PyData) : ME := fun sd Q => Q d sd
def mVar (i : Nat) : ME := fun sd Q => match sget sd i with
  | .va d => Q d sd
  | .own ds => Q (.list ds) (sset sd i (.va (.list ds)))
  | _ => False
def mOp2 (f : PyData → PyData → Option PyData) (ma mb : ME) : ME := fun sd Q => ma sd fun a s1 => mb s1 fun b s2 => ∃ r, f a b = some r ∧ Q r s2
def mOp1 (f : PyData → Option PyData) (ma : ME) : ME := fun sd Q => ma sd fun a s1 => ∃ r, f a = some r ∧ Q r s1
def mAnd (ma mb : ME) : ME := fun sd Q => ma sd fun a s1 => ∃ c, a = .bool c ∧ if c = true then mb s1 Q else Q (.bool false) s1
def mOr (ma mb : ME) : ME := fun sd Q => ma sd fun a s1 => ∃ c, a = .bool c ∧ if c = true then Q (.bool true) s1 else mb s1 Q
def mNot (ma : ME) : ME := fun sd Q => ma sd fun a s1 => ∃ c, a = .bool c ∧ Q (.bool (!c)) s1
def mIfE (mt : MT) (ma mb : ME) : ME := fun sd Q => mt sd fun c s1 => if c = true then ma s1 Q else mb s1 Q
/-- a < b < c: f a b, then g b c -/
def mChain (f g : PyData → PyData → Option PyData) (ma mb mc : ME) : ME := fun sd Q => ma sd fun a s1 => mb s1 fun b s2 => ∃ c, f a b = some (.bool c) ∧ if c = true then mc s2 fun d s3 => ∃ r, g b d = some r ∧ Q r s3 else Q (.bool false) s2
def mNil : MA := fun sd Q => Q [] sd
def mCons (me : ME) (ma : MA) : MA := fun sd Q => me sd fun d s1 => ma s1 fun ds s2 => Q (d :: ds) s2
def mTup (ma : MA) : ME := fun sd Q => ma sd fun ds s1 => ds.length ≤ 100000 ∧ Q (.tuple ds) s1
def mLst (ma : MA) : ME := fun sd Q => ma sd fun ds s1 => ds.length ≤ 100000 ∧ Q (.list ds) s1
def mCallB (f : List PyData → Option PyData) (ma : MA) : ME := fun sd Q => ma sd fun ds s1 => ∃ r, f ds = some r ∧ Q r s1
def mDict0 : ME := fun sd Q => Q (.dict []) sd
/-- a slice: parts given or left out -/
def mPart (me : ME) : DSt → (Option Int → DSt → Prop) → Prop := fun sd Q => me sd fun d s1 => ∃ i, d = .int i ∧ Q (some i) s1
def mNoPart : DSt → (Option Int → DSt → Prop) → Prop := fun sd Q => Q none sd
def mSl (f : PyData → Option Int → Option Int → Option PyData) (me : ME) (ml mh : DSt → (Option Int → DSt → Prop) → Prop) : ME :=
  fun sd Q => me sd fun d s1 => ml s1 fun l s2 => mh s2 fun h s3 => ∃ r, f d l h = some r ∧ Q r s3
/-- a call of an own def -/
def mCall (spec : PSpec) (W : WD) (ma : MA) : ME := fun sd Q => ma sd fun ds s1 => spec ds (fun r => ∃ d, fz r = some d ∧ Q d s1) (fun c => W c s1)
/-- .. by keywords: the arguments as they are given, then put into the def's order -/
def mCallK (spec : PSpec) (W : WD) (g : List PyData → List PyData → List PyData) (ma mk : MA) : ME :=
  fun sd Q => ma sd fun ds s1 => mk s1 fun es s2 => spec (g ds es) (fun r => ∃ d, fz r = some d ∧ Q d s2) (fun c => W c s2)
/-- .. with the well in slot i as its first argument -/
def mCallW (spec : WSpec) (i : Nat) (ma : MA) : ME := fun sd Q => (∃ n, sget sd i = .well n) ∧ ma sd fun ds s1 => ∃ n, sget s1 i = .well n ∧ spec n ds fun r n' => ∃ d, fz r = some d ∧ Q d (sset s1 i (.well n'))
/-- len of the script; an item of it; the well that is made from it -/
def mLenScr (i : Nat) : ME := fun sd Q => ∃ ns, sget sd i = .scr ns ∧ Q (.int (ns.length : Int)) sd
def mT (me : ME) : MT := fun sd Q => me sd fun d s1 => ∃ c, d = .bool c ∧ Q c s1
def mTAnd (t u : MT) : MT := fun sd Q => t sd fun c s1 => if c = true then u s1 Q else Q false s1
def mTOr (t u : MT) : MT := fun sd Q => t sd fun c s1 => if c = true then Q true s1 else u s1 Q
def mTNot (t : MT) : MT := fun sd Q => t sd fun c s1 => Q (!c) s1
def mTYes : MT := fun sd Q => Q true sd
def mrOf (me : ME) : MR := fun sd Q => me sd fun d s1 => Q (.va d) s1
def mrLst (ma : MA) : MR := fun sd Q => ma sd fun ds s1 => ds.length ≤ 100000 ∧ Q (.own ds) s1
def mrCall (spec : PSpec) (W : WD) (ma : MA) : MR := fun sd Q => ma sd fun ds s1 => spec ds (fun r => Q r s1) (fun c => W c s1)
def mgName (i : Nat) : MG := fun d sd Q => Q (sset sd i (.va d))
def mgNil : MGs := fun ds sd Q => ds = [] ∧ Q sd
def mgCons (g : MG) (gs : MGs) : MGs := fun ds sd Q => ∃ d r, ds = d :: r ∧ g d sd fun s1 => gs r s1 Q
def items : PyData → Option (List PyData)
  | .tuple ds => some ds
  | .list ds => some ds
  | _ => none
def mgTup (n : Nat) (gs : MGs) : MG := fun d sd Q => ∃ ds, items d = some ds ∧ ds.length = n ∧ gs ds sd Q
def miSeq (me : ME) : MI := fun sd Q => me sd fun d s1 => ∃ ds, items d = some ds ∧ Q ds s1
def rangeL (lo : Int) (n : Nat) : List PyData := (List.range n).map fun i : Nat => .int (lo + (i : Int))
def miRng1 (ma : MA) : MI := fun sd Q => ma sd fun ds s1 => ∃ j : Int, ds = [.int j] ∧ -(2 ^ 62) ≤ j ∧ j < 2 ^ 62 ∧ Q (rangeL 0 j.toNat) s1
def miRng2 (ma : MA) : MI := fun sd Q => ma sd fun ds s1 => ∃ i j : Int, ds = [.int i, .int j] ∧ (-(2 ^ 62) ≤ i ∧ i < 2 ^ 62 ∧ -(2 ^ 62) ≤ j ∧ j < 2 ^ 62) ∧ Q (rangeL i (j - i).toNat) s1
def enumL : Nat → List PyData → List PyData
  | _, [] => []
  | k, d :: ds => .tuple [.int (k : Int), d] :: enumL (k + 1) ds
def miRev (me : ME) : MI := fun sd Q => me sd fun d s1 => ∃ ds, items d = some ds ∧ Q ds.reverse s1
def lcL (mg : MG) (mt : MT) (me : ME) (vs : List Nat) (Q : List PyData → DSt → Prop) : List PyData → DSt → List PyData → Prop
  | [], s, acc => Q acc s
  | d :: ds, s, acc => mg d (swipe s vs) fun s1 => mt s1 fun b s2 => if b = true then me s2 fun y s3 => acc.length < 100000 ∧ lcL mg mt me vs Q ds s3 (acc ++ [y]) else lcL mg mt me vs Q ds s2 acc
def unOwn (s : DSt) (vs : List Nat) : Bool := vs.all fun j => match sget s j with
  | .own _ => false
  | .well _ => false
  | .ins _ _ => false
  | _ => true
def mLc (mi : MI) (mg : MG) (mt : MT) (me : ME) (vs : List Nat) : ME := fun sd Q => mi sd fun ds s => unOwn s vs = true ∧ lcL mg mt me vs (fun out s' => Q (.list out) (sback s s' vs)) ds s []
def mrLc (mi : MI) (mg : MG) (mt : MT) (me : ME) (vs : List Nat) : MR := fun sd Q => mi sd fun ds s => unOwn s vs = true ∧ lcL mg mt me vs (fun out s' => Q (.own out) (sback s s' vs)) ds s []
def mNext : MS := fun D sd => D.nx sd
def mBreak : MS := fun D sd => D.bk sd
def mCont : MS := fun D sd => D.ct sd
def mSeq (a b : MS) : MS := fun D sd => a { D with nx := b D } sd
def mAsg (me : ME) (mg : MG) : MS := fun D sd => me sd fun d s1 => mg d s1 D.nx
def mAsgR (i : Nat) (mr : MR) : MS := fun D sd => mr sd fun r s1 => D.nx (sset s1 i r)
/-- a, b = x, y: the values in their order, then the slots -/
def mrs : List MR → DSt → (List S → DSt → Prop) → Prop
  | [], sd, Q => Q [] sd
  | m :: ms, sd, Q => m sd fun r s1 => mrs ms s1 fun rs s2 => Q (r :: rs) s2
def ssets : DSt → List Nat → List S → DSt
  | sd, i :: is, r :: rs => ssets (sset sd i r) is rs
  | sd, _, _ => sd
def mAsgM (is : List Nat) (ms : List MR) : MS := fun D sd => mrs ms sd fun rs s1 => rs.length = is.length ∧ D.nx (ssets s1 is rs)
def mIf (t : MT) (a b : MS) : MS := fun D sd => t sd fun c s1 => if c = true then a D s1 else b D s1
def mRet (mr : MR) : MS := fun D sd => mr sd D.rt
def mRetN : MS := fun D sd => D.rt (.va .none) sd
def mDrop (me : ME) : MS := fun D sd => me sd fun _ s1 => D.nx s1
def mApp (i : Nat) (me : ME) : MS := fun D sd => (∃ ds, sget sd i = .own ds) ∧ me sd fun d s1 => ∃ ds, sget s1 i = .own ds ∧ ds.length < 100000 ∧ D.nx (sset s1 i (.own (ds ++ [d])))
def forL (mg : MG) (body : MS) (D : DE) : List PyData → DSt → Prop
  | [], s => D.nx s
  | d :: ds, s => mg d s fun s1 => body { D with nx := forL mg body D ds, ct := forL mg body D ds, bk := D.nx } s1
def mFor (mi : MI) (mg : MG) (body : MS) : MS := fun D sd => mi sd fun ds s => forL mg body D ds s
def whileN (t : MT) (body : MS) (D : DE) : Nat → DSt → Prop
  | 0, _ => False
  | n + 1, s => t s fun b s1 => if b = true then body { D with nx := whileN t body D n, ct := whileN t body D n, bk := D.nx } s1 else D.nx s1
def mWhile (t : MT) (body : MS) : MS := fun D sd => ∃ n, whileN t body D n sd
def mRaise (c : String) (W : WD) : MS := fun _ sd => W c sd
def small (a b : Int) : Bool := decide (a.natAbs.log2 + b.natAbs.log2 < 1000000)
def opAdd : PyData → PyData → Option PyData
  | .int a, .int b => some (.int (a + b))
  | .str a, .str b => if a.length + b.length ≤ 100000 then some (.str (a ++ b)) else none
  | .list a, .list b => if a.length + b.length ≤ 100000 then some (.list (a ++ b)) else none
  | .tuple a, .tuple b => if a.length + b.length ≤ 100000 then some (.tuple (a ++ b)) else none
  | _, _ => none
def opSub : PyData → PyData → Option PyData
  | .int a, .int b => some (.int (a - b))
  | _, _ => none
def opMul : PyData → PyData → Option PyData
  | .int a, .int b => if small a b = true then some (.int (a * b)) else none
  | .list a, .int k => if 0 ≤ k ∧ k ≤ 1000 ∧ a.length ≤ 1000 then some (.list (List.replicate k.toNat a).flatten) else none
  | _, _ => none
def opMod : PyData → PyData → Option PyData
  | .int a, .int b => if 0 < b then some (.int (a % b)) else none
  | _, _ => none
def opFdiv : PyData → PyData → Option PyData
  | .int a, .int b => if 0 < b ∧ b.natAbs.log2 < 9000 then some (.int (a / b)) else none
  | _, _ => none
def cmpI (p : Int → Int → Bool) : PyData → PyData → Option PyData
  | .int a, .int b => some (.bool (p a b))
  | _, _ => none
def opLt := cmpI fun a b => decide (a < b)
def opLe := cmpI fun a b => decide (a ≤ b)
def opGt := cmpI fun a b => decide (b < a)
def opGe := cmpI fun a b => decide (b ≤ a)
def strs? : PyData → PyData → Option (Str × Str)
  | .str x, .str y => some (x, y)
  | _, _ => none
def opEq (a b : PyData) : Option PyData := if (SeqAt.shaped a && SeqAt.shaped b) = true then some (.bool (PyData.eqv a b)) else (strs? a b).map fun p => .bool (decide (p.1 = p.2))
def opNe (a b : PyData) : Option PyData := if (SeqAt.shaped a && SeqAt.shaped b) = true then some (.bool (!PyData.eqv a b)) else (strs? a b).map fun p => .bool (!decide (p.1 = p.2))
def isN : PyData → Bool
  | .none => true
  | _ => false
/-- x is None, x is not None -/
def opIsN2 (a : PyData) : PyData → Option PyData
  | .none => some (.bool (isN a))
  | _ => none
def opNotN2 (a : PyData) : PyData → Option PyData
  | .none => some (.bool (!isN a))
  | _ => none
/-- x is True, where x is a bool -/
def opIsB : PyData → PyData → Option PyData
  | .bool a, .bool b => some (.bool (decide (a = b)))
  | _, _ => none
def opNotB : PyData → PyData → Option PyData
  | .bool a, .bool b => some (.bool (!decide (a = b)))
  | _, _ => none
def opPow : PyData → PyData → Option PyData
  | .int a, .int b => if 0 ≤ b ∧ b ≤ 100 ∧ a.natAbs < 2 ^ 10000 then some (.int (a ^ b.toNat)) else none
  | _, _ => none
def flatD : PyData → Bool
  | .none | .bool _ | .int _ | .str _ => true
  | _ => false
/-- x in a list or a tuple of flat things -/
def opInS (neg : Bool) (a b : PyData) : Option PyData := (items b).bind fun ds => if (flatD a && ds.all flatD) = true then some (.bool (if neg then !ds.any (fun d => PyData.eqv d a) else ds.any fun d => PyData.eqv d a)) else none
/-- .. or one sign in a text -/
def sign? (z : Str) : Option Nat := match z.cps.toList with
  | [c] => some c
  | _ => none
theorem sign_of {z : Str} {c : Nat} (h : sign? z = some c) : z = ⟨#[c]⟩ := by
  unfold sign? at h
  split at h
  · rename_i c' e
    cases h
    obtain ⟨⟨l⟩⟩ := z
    have e' : l = [c] := e
    rw [e']
  · cases h
def opIn : PyData → PyData → Option PyData
  | .str c, .str z => (sign? c).map fun c => .bool (decide (c ∈ z.cps.toList))
  | a, b => opInS false a b
def opNeg : PyData → Option PyData
  | .int a => some (.int (-a))
  | _ => none
def ixN (n : Nat) (i : Int) : Option Nat := if 0 ≤ i then (if i < n then some i.toNat else none) else if -(n : Int) ≤ i then some (i + n).toNat else none
def atI {α : Type} (xs : List α) (i : Int) : Option α := (ixN xs.length i).bind fun j => xs[j]?
def opIx : PyData → PyData → Option PyData
  | .list xs, .int i => atI xs i
  | .tuple xs, .int i => atI xs i
  | .str z, .int i => if z.length ≤ 100000 then (atI z.cps.toList i).map fun c => .str ⟨#[c]⟩ else none
  | _, _ => none
def sIx (n d : Nat) : Option Int → Nat
  | .none => d
  | .some v => if v < 0 then (v + (n : Int)).toNat else min v.toNat n
def cutL {α : Type} (xs : List α) (lo hi : Option Int) : List α := (xs.drop (sIx xs.length 0 lo)).take (sIx xs.length xs.length hi - sIx xs.length 0 lo)
def opSl (d : PyData) (lo hi : Option Int) : Option PyData := match d with
  | .list xs => some (.list (cutL xs lo hi))
  | .tuple xs => some (.tuple (cutL xs lo hi))
  | .str z => if z.length ≤ 100000 then some (.str ⟨(cutL z.cps.toList lo hi).toArray⟩) else none
  | _ => none
/-- x[::-1] -/
def opRev : PyData → Option PyData
  | .list xs => some (.list xs.reverse)
  | .tuple xs => some (.tuple xs.reverse)
  | _ => none
def bLen : List PyData → Option PyData
  | [.list xs] => some (.int (xs.length : Int))
  | [.tuple xs] => some (.int (xs.length : Int))
  | [.str z] => if z.length ≤ 100000 then some (.int (z.length : Int)) else none
  | _ => none
def bAbs : List PyData → Option PyData
  | [.int i] => some (.int (if i < 0 then -i else i))
  | _ => none
def bMax : List PyData → Option PyData
  | [.int i, .int j] => some (.int (if j > i then j else i))
  | _ => none
def bMin : List PyData → Option PyData
  | [.int i, .int j] => some (.int (if j < i then j else i))
  | _ => none
def bInt : List PyData → Option PyData
  | [.int i] => some (.int i)
  | _ => none
def bGcd : List PyData → Option PyData
  | [.int i, .int j] => some (.int ((Nat.gcd i.natAbs j.natAbs : Nat) : Int))
  | _ => none
def bools : List PyData → Option (List Bool)
  | [] => some []
  | .bool b :: r => (bools r).map (b :: ·)
  | _ :: _ => none
def bAll : List PyData → Option PyData
  | [.list xs] => (bools xs).map fun bs => .bool (bs.all id)
  | _ => none
def bList : List PyData → Option PyData
  | [.list xs] => some (.list xs)
  | [.tuple xs] => some (.list xs)
  | _ => none
/-- the kinds that isinstance asks for -/
inductive Ki where | kInt | kBool | kStr | kTup | kLst | kDict
  deriving DecidableEq
def isK : Ki → PyData → Bool
  | .kInt, .int _ => true
  | .kInt, .bool _ => true
  | .kBool, .bool _ => true
  | .kStr, .str _ => true
  | .kTup, .tuple _ => true
  | .kLst, .list _ => true
  | .kDict, .dict ((.none, _) :: _) => false
  | .kDict, .dict _ => true
  | _, _ => false
def bIsi (ks : List Ki) : PyData → Option PyData := fun d => some (.bool (ks.any fun k => isK k d))
def slots0 (n : Nat) (ds : List PyData) : DSt := ds.map S.va ++ List.replicate (n - ds.length) .no
def endP (Q : S → Prop) : DE := { nx := fun _ => Q (.va .none), rt := fun r _ => Q r }
def slotsW (N n : Nat) (ds : List PyData) : DSt := .well n :: slots0 (N - 1) ds
def endW (Q : S → Nat → Prop) : DE := { nx := fun sd => ∃ n, sget sd 0 = .well n ∧ Q (.va .none) n, rt := fun r sd => ∃ n, sget sd 0 = .well n ∧ Q r n }
def endL : DE := { nx := fun _ => False, rt := fun r _ => r = .va (.bool true) }
def wF : WD := fun _ _ => False
end DL
namespace DL
open PySem PySem.Spec PyProof.Rows L2
def keyD : Key → PyData
  | .inl i => .int i
  | .inr x => .str x
def kName : Ki → String
  | .kInt => "int" | .kBool => "bool" | .kStr => "str" | .kTup => "tuple" | .kLst => "list" | .kDict => "dict"
/-- C is the class c of the program, with plain instances -/
structure ObjC (K : PySem.W.Frag) (c : Str) (C : Addr) : Prop where
  ns : PySem.W.nsIn K mainGlobals c = some (some (.ref C))
  cl : Cls K C
  ha : PySem.W.findIn K (.ref C) "__class__" = some (some (.builtin "object.__class__"))
  hn : PySem.W.specialIn K (.builtin "object.__class__") "__get__" = some (some (.builtin "getset_descriptor.__get__"))
  htk : PySem.W.takesIn K (.builtin "object.__class__") = some true
  hm : PySem.W.mroIn K C (.type "object") = some true
  kit : ∀ k : Ki, PySem.W.kitOne K (.ref C) (.type (kName k)) = some false
theorem ObjC.uniq {K : PySem.W.Frag} {c : Str} {C D : Addr} (a : ObjC K c C) (b : ObjC K c D) : C = D := by
  have := a.ns.symm.trans b.ns
  cases this
  rfl
mutual
inductive Rp (K : PySem.W.Frag) (F : Hp) : V → PyData → Prop
  | non : Rp K F .non .none
  | bl (b : Bool) : Rp K F (.bl b) (.bool b)
  | int (i : Int) : Rp K F (.int i) (.int i)
  | str (x : Str) : Rp K F (.str x) (.str x)
  | lst {a : Addr} {xs : List V} {ds : List PyData} : F a = some (.lst xs) → RpA K F xs ds → Rp K F (.ref a) (.list ds)
  | tup {a : Addr} {xs : List V} {ds : List PyData} : SqT K F a xs → RpA K F xs ds → Rp K F (.ref a) (.tuple ds)
  | dct {a : Addr} {kvs : List (Key × V)} {es : List (PyData × PyData)} : F a = some (.dK kvs) → RpD K F kvs es → Rp K F (.ref a) (.dict es)
  | ins {a C dx : Addr} {c : Str} {fs : List (Str × V)} {es : List PyData} : F a = some (.ins C dx fs) → ObjC K c C → RpF K F fs es → Rp K F (.ref a) (.dict [(.none, .tuple (.str c :: es))])
inductive RpF (K : PySem.W.Frag) (F : Hp) : List (Str × V) → List PyData → Prop
  | nil : RpF K F [] []
  | cons {n : Str} {v : V} {fs : List (Str × V)} {d : PyData} {es : List PyData} : Rp K F v d → RpF K F fs es → RpF K F ((n, v) :: fs) (.tuple [.str n, d] :: es)
inductive RpA (K : PySem.W.Frag) (F : Hp) : List V → List PyData → Prop
  | nil : RpA K F [] []
  | cons {v : V} {vs : List V} {d : PyData} {ds : List PyData} : Rp K F v d → RpA K F vs ds → RpA K F (v :: vs) (d :: ds)
inductive RpD (K : PySem.W.Frag) (F : Hp) : List (Key × V) → List (PyData × PyData) → Prop
  | nil : RpD K F [] []
  | cons {k : Key} {v : V} {kvs : List (Key × V)} {d : PyData} {es : List (PyData × PyData)} : Rp K F v d → RpD K F kvs es → RpD K F ((k, v) :: kvs) ((keyD k, d) :: es)
end
theorem same_t {K : PySem.W.Frag} {H H' : Hp} {a : Addr} {xs : List V} (e : Same H H') (h : SqT K H a xs) : SqT K H' a xs := by
  rcases h with (h | ⟨o, h⟩) | h
  · exact .inl (.inl (e _ _ h))
  · exact .inl (.inr ⟨o, e _ _ h⟩)
  · exact .inr h
section
variable {K : PySem.W.Frag} {F F' H H' H1 : Hp} {v : V} {vs : List V} {d : PyData} {ds : List PyData}
mutual
theorem Rp.mono (e : Same F F') : ∀ {d : PyData} {v : V}, Rp K F v d → Rp K F' v d
  | .none, _, .non => .non
  | .bool _, _, .bl b => .bl b
  | .int _, _, .int i => .int i
  | .str _, _, .str x => .str x
  | .list _, _, .lst h r => .lst (e _ _ h) (RpA.mono e r)
  | .tuple _, _, .tup h r => .tup (same_t e h) (RpA.mono e r)
  | .dict _, _, .dct h r => .dct (e _ _ h) (RpD.mono e r)
  | .dict _, _, .ins h o r => .ins (e _ _ h) o (RpF.mono e r)
theorem RpF.mono (e : Same F F') : ∀ {es : List PyData} {fs : List (Str × V)}, RpF K F fs es → RpF K F' fs es
  | _, _, .nil => .nil
  | _, _, .cons h r => .cons (Rp.mono e h) (RpF.mono e r)
theorem RpA.mono (e : Same F F') : ∀ {ds : List PyData} {vs : List V}, RpA K F vs ds → RpA K F' vs ds
  | [], _, .nil => .nil
  | _ :: _, _, .cons h r => .cons (Rp.mono e h) (RpA.mono e r)
theorem RpD.mono (e : Same F F') : ∀ {es : List (PyData × PyData)} {kvs : List (Key × V)}, RpD K F kvs es → RpD K F' kvs es
  | [], _, .nil => .nil
  | _ :: _, _, .cons h r => .cons (Rp.mono e h) (RpD.mono e r)
end
mutual
theorem Rp.dp (e : Same F H) : ∀ {d : PyData} {v : V}, d.canLay0 = true → Rp K F v d → Dp K H v d
  | .none, _, _, .non => .non
  | .bool _, _, _, .bl b => .bl b
  | .int _, _, _, .int i => .int i
  | .str _, _, _, .str x => .str x
  | .list _, _, c, .lst h r => .lst (.inl (.inl (e _ _ h))) (RpA.dp e (by simpa [PyData.canLay0] using c) r)
  | .tuple _, _, c, .tup h r => .tup (same_t e h) (RpA.dp e (by simpa [PyData.canLay0] using c) r)
theorem RpA.dp (e : Same F H) : ∀ {ds : List PyData} {vs : List V}, PyData.canLayAll0 ds = true → RpA K F vs ds → DpAll K H vs ds
  | [], _, _, .nil => .nil
  | _ :: _, _, c, .cons h r => .cons (Rp.dp e (by have := c; simp only [PyData.canLayAll0, Bool.and_eq_true] at this; exact this.1) h) (RpA.dp e (by have := c; simp only [PyData.canLayAll0, Bool.and_eq_true] at this; exact this.2) r)
end
theorem RpA.length : ∀ {vs : List V} {ds : List PyData}, RpA K F vs ds → vs.length = ds.length
  | _, _, .nil => rfl
  | _, _, .cons _ r => by simp [RpA.length r]
theorem RpA.get : ∀ {vs : List V} {ds : List PyData} {i : Nat} {d : PyData}, RpA K F vs ds → ds[i]? = some d → ∃ v, vs[i]? = some v ∧ Rp K F v d
  | _, _, _, _, .nil, h => by simp at h
  | _, _, 0, _, .cons h _, e => by simp at e; subst e; exact ⟨_, rfl, h⟩
  | _, _, i + 1, _, .cons _ r, e => by
    obtain ⟨v, h1, h2⟩ := RpA.get (i := i) r (by simpa using e)
    exact ⟨v, by simpa using h1, h2⟩
theorem RpA.append : ∀ {vs ws : List V} {ds es : List PyData}, RpA K F vs ds → RpA K F ws es → RpA K F (vs ++ ws) (ds ++ es)
  | _, _, _, _, .nil, s => s
  | _, _, _, _, .cons h r, s => .cons h (RpA.append r s)
theorem RpA.take : ∀ {vs : List V} {ds : List PyData} (n : Nat), RpA K F vs ds → RpA K F (vs.take n) (ds.take n)
  | _, _, 0, _ => .nil
  | _, _, _ + 1, .nil => .nil
  | _, _, n + 1, .cons h r => .cons h (RpA.take n r)
theorem RpA.drop : ∀ {vs : List V} {ds : List PyData} (n : Nat), RpA K F vs ds → RpA K F (vs.drop n) (ds.drop n)
  | _, _, 0, r => r
  | _, _, _ + 1, .nil => .nil
  | _, _, n + 1, .cons _ r => RpA.drop n r
theorem RpA.snoc (h : RpA K F vs ds) (q : Rp K F v d) : RpA K F (vs ++ [v]) (ds ++ [d]) := h.append (.cons q .nil)
theorem RpA.reverse : ∀ {vs : List V} {ds : List PyData}, RpA K F vs ds → RpA K F vs.reverse ds.reverse
  | _, _, .nil => .nil
  | _, _, .cons h r => by simp only [List.reverse_cons]; exact (RpA.reverse r).snoc h
end
def gv (σ : L2.St) (i : Nat) : Option V := (σ[i]?).join
theorem gv_some {σ : L2.St} {i : Nat} {v : V} : gv σ i = some v ↔ σ[i]? = some (some v) := by
  unfold gv
  cases h : σ[i]? with
  | none => simp
  | some x => simp
theorem gv_set {σ : L2.St} {i : Nat} {x : Option V} (h : i < σ.length) : gv (σ.set i x) i = x := by
  unfold gv; rw [List.getElem?_set_self h]; rfl
theorem gv_set_ne {σ : L2.St} {i j : Nat} {x : Option V} (h : j ≠ i) : gv (σ.set i x) j = gv σ j := by
  unfold gv; rw [List.getElem?_set_ne (Ne.symm h)]
theorem sset_length : ∀ {sd : DSt} {i : Nat} {s : S}, (sset sd i s).length = sd.length
  | [], _, _ => rfl
  | _ :: _, 0, _ => rfl
  | _ :: r, i + 1, s => by simp [sset, sset_length]
theorem sget_sset : ∀ {sd : DSt} {i : Nat} {s : S}, i < sd.length → sget (sset sd i s) i = s
  | [], _, _, h => by simp at h
  | _ :: _, 0, _, _ => rfl
  | _ :: r, i + 1, s, h => by simp only [sset, sget]; exact sget_sset (by simpa using h)
theorem sget_sset_ne : ∀ {sd : DSt} {i j : Nat} {s : S}, j ≠ i → sget (sset sd i s) j = sget sd j
  | [], _, _, _, _ => rfl
  | _ :: _, 0, 0, _, h => absurd rfl h
  | _ :: _, 0, j + 1, _, _ => rfl
  | _ :: _, i + 1, 0, _, _ => rfl
  | _ :: r, i + 1, j + 1, s, h => by simp only [sset, sget]; exact sget_sset_ne (by omega)
theorem sget_out : ∀ {sd : DSt} {i : Nat}, sd.length ≤ i → sget sd i = .no
  | [], _, _ => rfl
  | _ :: _, 0, h => by simp at h
  | _ :: r, i + 1, h => by simp only [sget]; exact sget_out (by simpa using h)
/-- a def's entry: the frozen heap, the heap, the addresses that were handed over to be changed -/
structure Ct where
  F0 : Hp
  H0 : Hp
  B : Addr → Prop
  isW : Bool
def SlotOk (K : PySem.W.Frag) (C : Ct) (F H : Hp) (x : Option V) : S → Prop
  | .no => True
  | .va d => ∃ v, x = some v ∧ Rp K F v d
  | .own ds => ∃ p vs, x = some (.ref p) ∧ H p = some (.lst vs) ∧ F p = none ∧ C.H0 p = none ∧ RpA K F vs ds
  | .scr ns => ∃ p, x = some (.ref p) ∧ SqL K F p (ns.map V.int)
  | .exc a => x = some (.ref a)
  | .ins c es => ∃ p Cc dx fs, x = some (.ref p) ∧ H p = some (.ins Cc dx fs) ∧ F p = none ∧ ((C.isW = true ∧ C.B p) ∨ (C.isW = false ∧ C.H0 p = none)) ∧ ObjC K c Cc ∧ RpF K F fs es
  | .well n => ∃ p a b c, x = some (.ref p) ∧ H p = some (.lst [.int a, .int b, .int c]) ∧ F p = none ∧ ((C.isW = true ∧ C.B p) ∨ (C.isW = false ∧ C.H0 p = none)) ∧ WellOk n a b c
def isOwn : S → Bool
  | .own _ => true
  | .well _ => true
  | .ins _ _ => true
  | _ => false
def Owned (σ : L2.St) (sd : DSt) (a : Addr) : Prop := ∃ i, isOwn (sget sd i) = true ∧ gv σ i = some (.ref a)
structure Rs (K : PySem.W.Frag) (C : Ct) (F H : Hp) (σ : L2.St) (sd : DSt) : Prop where
  len : σ.length = sd.length
  grow : Same C.F0 F
  ext : Same F H
  new : ∀ a o, F a = some o → C.F0 a = some o ∨ C.H0 a = none
  keep : ∀ a o, C.H0 a = some o → ¬ C.B a → H a = some o
  still : ∀ a, H a = none → C.H0 a = none
  slot : ∀ i, SlotOk K C F H (gv σ i) (sget sd i)
  sep : ∀ i j p, i ≠ j → isOwn (sget sd i) = true → isOwn (sget sd j) = true → gv σ i = some (.ref p) → gv σ j ≠ some (.ref p)
/-- what an expression does to the state -/
structure Stp (σ : L2.St) (sd : DSt) (F H F' H' : Hp) (sd' : DSt) : Prop where
  fr : Same F F'
  kp : ∀ a o, H a = some o → ¬ Owned σ sd a → H' a = some o
  ow : ∀ a, Owned σ sd' a → Owned σ sd a
  nw : ∀ a o, F' a = some o → F a = some o ∨ H a = none ∨ Owned σ sd a
  st : ∀ a, H' a = none → H a = none
section
variable {K : PySem.W.Frag} {C : Ct} {F F1 F2 F' H H1 H2 H' : Hp} {σ : L2.St} {sd sd1 sd2 sd' : DSt} {p : Addr} {o : HO}
theorem Stp.refl : Stp σ sd F H F H sd := ⟨Same.refl _, fun _ _ h _ => h, fun _ h => h, fun _ _ h => .inl h, fun _ h => h⟩
theorem Stp.trans (a : Stp σ sd F H F1 H1 sd1) (b : Stp σ sd1 F1 H1 F2 H2 sd2) : Stp σ sd F H F2 H2 sd2 where
  fr := a.fr.trans b.fr
  kp := fun x o h n => b.kp x o (a.kp x o h n) fun z => n (a.ow x z)
  ow := fun x h => a.ow x (b.ow x h)
  nw := fun x o h => by
    rcases b.nw x o h with h | h | h
    · exact a.nw x o h
    · exact .inr (.inl (a.st x h))
    · exact .inr (.inr (a.ow x h))
  st := fun x h => a.st x (b.st x h)
/-- nothing, or one new object, known to all -/
inductive Al (F H : Hp) : Hp → Hp → Prop
  | id : Al F H F H
  | new {p : Addr} {o : HO} (h : H p = none) : Al F H (upd F p o) (upd H p o)
theorem same_new (h : H p = none) : Same H (upd H p o) := fun b x e => by
  rw [upd_ne (ne_of_none e h)]; exact e
theorem SlotOk.grow {x : Option V} {s : S} (e : Same F F') (k : ∀ q o, isOwn s = true → x = some (.ref q) → H q = some o → F q = none → H' q = some o ∧ F' q = none) (h : SlotOk K C F H x s) : SlotOk K C F' H' x s := by
  cases s with
  | no => trivial
  | va d => obtain ⟨v, e1, r⟩ := h; exact ⟨v, e1, r.mono e⟩
  | own ds =>
    obtain ⟨q, vs, e1, e2, e3, e4, r⟩ := h
    obtain ⟨k1, k2⟩ := k q _ rfl e1 e2 e3
    exact ⟨q, vs, e1, k1, k2, e4, r.mono e⟩
  | scr ns => obtain ⟨q, e1, e2⟩ := h; exact ⟨q, e1, e.seq e2⟩
  | exc a => exact h
  | ins c es =>
    obtain ⟨q, Cc, dx, fs, e1, e2, e3, e4, oc, r⟩ := h
    obtain ⟨k1, k2⟩ := k q _ rfl e1 e2 e3
    exact ⟨q, Cc, dx, fs, e1, k1, k2, e4, oc, r.mono e⟩
  | well n =>
    obtain ⟨q, a, b, c, e1, e2, e3, e4, r⟩ := h
    obtain ⟨k1, k2⟩ := k q _ rfl e1 e2 e3
    exact ⟨q, a, b, c, e1, k1, k2, e4, r⟩
theorem Rs.free (R : Rs K C F H σ sd) (h : H p = none) : F p = none := by
  cases e : F p with
  | none => rfl
  | some x => rw [R.ext _ _ e] at h; cases h
theorem Rs.alloc (R : Rs K C F H σ sd) (h : H p = none) : Rs K C (upd F p o) (upd H p o) σ sd where
  len := R.len
  grow := R.grow.trans (same_new (R.free h))
  ext := fun a x e => by
    by_cases z : a = p
    · subst z; rw [upd_same] at e ⊢; exact e
    · rw [upd_ne z] at e ⊢; exact R.ext a x e
  new := fun a x e => by
    by_cases z : a = p
    · subst z; exact .inr (R.still a h)
    · rw [upd_ne z] at e; exact R.new a x e
  keep := fun a x e n => same_new h a x (R.keep a x e n)
  still := fun a e => by
    by_cases z : a = p
    · subst z; exact R.still a h
    · rw [upd_ne z] at e; exact R.still a e
  slot := fun i => (R.slot i).grow (same_new (R.free h)) fun q x _ _ e n => ⟨same_new h q x e, by rw [upd_ne (ne_of_none e h)]; exact n⟩
  sep := R.sep
/-- a new object that nobody will look at -/
theorem Rs.allocH (R : Rs K C F H σ sd) (h : H p = none) : Rs K C F (upd H p o) σ sd where
  len := R.len
  grow := R.grow
  ext := fun a x e => same_new h a x (R.ext a x e)
  new := R.new
  keep := fun a x e n => same_new h a x (R.keep a x e n)
  still := fun a e => by
    by_cases z : a = p
    · subst z; exact R.still a h
    · rw [upd_ne z] at e; exact R.still a e
  slot := fun i => (R.slot i).grow (Same.refl _) fun q x _ _ e n => ⟨same_new h q x e, n⟩
  sep := R.sep
theorem Rs.al (R : Rs K C F H σ sd) (a : Al F H F' H') : Rs K C F' H' σ sd := by
  cases a with
  | id => exact R
  | new h => exact R.alloc h
theorem Stp.al (R : Rs K C F H σ sd) (a : Al F H F' H') : Stp σ sd F H F' H' sd := by
  cases a with
  | id => exact .refl
  | @new p o h =>
    refine ⟨same_new (R.free h), fun x o e _ => same_new h x o e, fun _ h => h, fun x o e => ?_, fun x e => ?_⟩
    · by_cases z : x = p
      · subst z; exact .inr (.inl h)
      · rw [upd_ne z] at e; exact .inl e
    · by_cases z : x = p
      · subst z; exact h
      · rw [upd_ne z] at e; exact e
theorem Rs.lt_of_own (R : Rs K C F H σ sd) {i : Nat} (h : sget sd i ≠ .no) : i < sd.length := by
  apply Classical.byContradiction
  intro z
  exact h (sget_out (by omega))
/-- a slot gets frozen data -/
theorem Rs.setva (R : Rs K C F H σ sd) {i : Nat} {v : V} {d : PyData} (r : Rp K F v d) : Rs K C F H (σ.set i (some v)) (sset sd i (.va d)) where
  len := by rw [List.length_set, sset_length]; exact R.len
  grow := R.grow
  ext := R.ext
  new := R.new
  keep := R.keep
  still := R.still
  slot := fun j => by
    by_cases hj : j = i
    · subst hj
      by_cases hl : j < sd.length
      · rw [sget_sset hl, gv_set (by rw [R.len]; exact hl)]
        exact ⟨v, rfl, r⟩
      · rw [sget_out (by rw [sset_length]; omega)]; trivial
    · rw [sget_sset_ne hj, gv_set_ne hj]; exact R.slot j
  sep := fun j k q hjk o1 o2 e1 => by
    have n1 : j ≠ i := fun z => by
      subst z
      by_cases hl : j < sd.length
      · rw [sget_sset hl] at o1; cases o1
      · rw [sget_out (by rw [sset_length]; omega)] at o1; cases o1
    have n2 : k ≠ i := fun z => by
      subst z
      by_cases hl : k < sd.length
      · rw [sget_sset hl] at o2; cases o2
      · rw [sget_out (by rw [sset_length]; omega)] at o2; cases o2
    rw [sget_sset_ne n1] at o1
    rw [sget_sset_ne n2] at o2
    rw [gv_set_ne n1] at e1
    rw [gv_set_ne n2]
    exact R.sep j k q hjk o1 o2 e1
/-- a slot is forgotten -/
theorem Rs.setno (R : Rs K C F H σ sd) {i : Nat} {x : Option V} : Rs K C F H (σ.set i x) (sset sd i .no) where
  len := by rw [List.length_set, sset_length]; exact R.len
  grow := R.grow
  ext := R.ext
  new := R.new
  keep := R.keep
  still := R.still
  slot := fun j => by
    by_cases hj : j = i
    · subst hj
      by_cases hl : j < sd.length
      · rw [sget_sset hl]; trivial
      · rw [sget_out (by rw [sset_length]; omega)]; trivial
    · rw [sget_sset_ne hj, gv_set_ne hj]; exact R.slot j
  sep := fun j k q hjk o1 o2 e1 => by
    have n1 : j ≠ i := fun z => by
      subst z
      by_cases hl : j < sd.length
      · rw [sget_sset hl] at o1; cases o1
      · rw [sget_out (by rw [sset_length]; omega)] at o1; cases o1
    have n2 : k ≠ i := fun z => by
      subst z
      by_cases hl : k < sd.length
      · rw [sget_sset hl] at o2; cases o2
      · rw [sget_out (by rw [sset_length]; omega)] at o2; cases o2
    rw [sget_sset_ne n1] at o1
    rw [sget_sset_ne n2] at o2
    rw [gv_set_ne n1] at e1
    rw [gv_set_ne n2]
    exact R.sep j k q hjk o1 o2 e1
/-- a result: frozen, or a list (a well) that nobody else holds -/
def RvOk (K : PySem.W.Frag) (C : Ct) (F H : Hp) (v : V) : S → Prop := SlotOk K C F H (some v)
/-- .. and not one of the slots' -/
def Fre (σ : L2.St) (sd : DSt) (v : V) (r : S) : Prop := isOwn r = true → ∀ q, v = .ref q → ¬ Owned σ sd q
theorem Rs.setr (R : Rs K C F H σ sd) {i : Nat} {v : V} {r : S} (h : RvOk K C F H v r) (n : Fre σ sd v r) : Rs K C F H (σ.set i (some v)) (sset sd i r) where
  len := by rw [List.length_set, sset_length]; exact R.len
  grow := R.grow
  ext := R.ext
  new := R.new
  keep := R.keep
  still := R.still
  slot := fun j => by
    by_cases hj : j = i
    · subst hj
      by_cases hl : j < sd.length
      · rw [sget_sset hl, gv_set (by rw [R.len]; exact hl)]
        exact h
      · rw [sget_out (by rw [sset_length]; omega)]; trivial
    · rw [sget_sset_ne hj, gv_set_ne hj]; exact R.slot j
  sep := fun j k q hjk o1 o2 e1 e2 => by
    have at_i : ∀ m, m = i → isOwn (sget (sset sd i r) m) = true → gv (σ.set i (some v)) m = some (.ref q) → isOwn r = true ∧ v = .ref q := fun m z o e => by
      subst z
      by_cases hl : m < sd.length
      · rw [sget_sset hl] at o
        rw [gv_set (by rw [R.len]; exact hl)] at e
        exact ⟨o, Option.some.inj e⟩
      · rw [sget_out (by rw [sset_length]; omega)] at o; cases o
    by_cases hj : j = i
    · obtain ⟨a1, a2⟩ := at_i j hj o1 e1
      have hk : k ≠ i := fun z => hjk (hj.trans z.symm)
      rw [sget_sset_ne hk] at o2
      rw [gv_set_ne hk] at e2
      exact n a1 q a2 ⟨k, o2, e2⟩
    · rw [sget_sset_ne hj] at o1
      rw [gv_set_ne hj] at e1
      by_cases hk : k = i
      · obtain ⟨a1, a2⟩ := at_i k hk o2 e2
        exact n a1 q a2 ⟨j, o1, e1⟩
      · rw [sget_sset_ne hk] at o2
        rw [gv_set_ne hk] at e2
        exact R.sep j k q hjk o1 o2 e1 e2
/-- an owned list is handed to all -/
theorem Rs.freeze (R : Rs K C F H σ sd) {i : Nat} {ds : List PyData} (h : sget sd i = .own ds) :
    ∃ v F', gv σ i = some v ∧ Rs K C F' H σ (sset sd i (.va (.list ds))) ∧ Stp σ sd F H F' H (sset sd i (.va (.list ds))) ∧ Rp K F' v (.list ds) := by
  have hi := R.slot i
  rw [h] at hi
  obtain ⟨p, vs, e1, e2, e3, e4, r⟩ := hi
  have hl : i < sd.length := R.lt_of_own (by rw [h]; intro z; cases z)
  have sF : Same F (upd F p (.lst vs)) := same_new e3
  have rp : Rp K (upd F p (.lst vs)) (.ref p) (.list ds) := .lst upd_same (r.mono sF)
  have own_i : Owned σ sd p := ⟨i, by rw [h]; rfl, e1⟩
  refine ⟨.ref p, upd F p (.lst vs), e1, ?_, ?_, rp⟩
  · refine ⟨by rw [sset_length]; exact R.len, R.grow.trans sF, fun a x e => ?_, fun a x e => ?_, R.keep, R.still, fun j => ?_, fun j k q hjk o1 o2 z1 => ?_⟩
    · by_cases z : a = p
      · subst z; rw [upd_same] at e; cases e; exact e2
      · rw [upd_ne z] at e; exact R.ext a x e
    · by_cases z : a = p
      · subst z; exact .inr e4
      · rw [upd_ne z] at e; exact R.new a x e
    · by_cases hj : j = i
      · subst hj; rw [sget_sset hl, e1]; exact ⟨_, rfl, rp⟩
      · rw [sget_sset_ne hj]
        refine (R.slot j).grow sF fun q x ho eq eh en => ⟨eh, ?_⟩
        have : q ≠ p := fun z => by
          subst z
          exact R.sep i j q (Ne.symm hj) (by rw [h]; rfl) ho e1 eq
        rw [upd_ne this]; exact en
    · have n1 : j ≠ i := fun z => by subst z; rw [sget_sset hl] at o1; cases o1
      have n2 : k ≠ i := fun z => by subst z; rw [sget_sset hl] at o2; cases o2
      rw [sget_sset_ne n1] at o1
      rw [sget_sset_ne n2] at o2
      exact R.sep j k q hjk o1 o2 z1
  · refine ⟨sF, fun a x e _ => e, fun a z => ?_, fun a x e => ?_, fun a e => e⟩
    · obtain ⟨j, o, e⟩ := z
      have n1 : j ≠ i := fun z => by subst z; rw [sget_sset hl] at o; cases o
      rw [sget_sset_ne n1] at o
      exact ⟨j, o, e⟩
    · by_cases z : a = p
      · subst z; exact .inr (.inr own_i)
      · rw [upd_ne z] at e; exact .inl e
end
section
variable (K : PySem.W.Frag) (C : Ct)
def tD (m : ME) : TE := fun σ H Q => ∃ F sd Qd, Rs K C F H σ sd ∧ m sd Qd ∧ ∀ v H' F' d sd', Rs K C F' H' σ sd' → Stp σ sd F H F' H' sd' → Rp K F' v d → Qd d sd' → Q v H'
def tDR (m : MR) : TE := fun σ H Q => ∃ F sd Qd, Rs K C F H σ sd ∧ m sd Qd ∧ ∀ v H' F' r sd', Rs K C F' H' σ sd' → Stp σ sd F H F' H' sd' → RvOk K C F' H' v r → Fre σ sd' v r → (isOwn r = true → ∀ q, v = .ref q → H q = none) → Qd r sd' → Q v H'
def tDT (m : MT) : TT := fun σ H Q => ∃ F sd Qd, Rs K C F H σ sd ∧ m sd Qd ∧ ∀ b H' F' sd', Rs K C F' H' σ sd' → Stp σ sd F H F' H' sd' → Qd b sd' → Q b H'
def tDA (m : MA) : TA := fun σ H Q => ∃ F sd Qd, Rs K C F H σ sd ∧ m sd Qd ∧ ∀ vs H' F' ds sd', Rs K C F' H' σ sd' → Stp σ sd F H F' H' sd' → RpA K F' vs ds → Qd ds sd' → Q vs H'
def tDG (m : MG) : TG := fun v σ H Q => ∃ F sd d Qd, Rs K C F H σ sd ∧ Rp K F v d ∧ m d sd Qd ∧ ∀ σ' sd', Rs K C F H σ' sd' → Qd sd' → Q σ' H
def tDGs (m : MGs) : TGs := fun vs σ H Q => ∃ F sd ds Qd, Rs K C F H σ sd ∧ RpA K F vs ds ∧ m ds sd Qd ∧ ∀ σ' sd', Rs K C F H σ' sd' → Qd sd' → Q σ' H
/-- what is wished of a raise -/
def wD (CN : String → Option Addr) (W : WD) : WX := fun cls d σ H => ∃ c a F sd, CN c = some a ∧ cls = .ref a ∧ d = none ∧ Rs K C F H σ sd ∧ W c sd
/-- what follows, from the frozen heap F0 on: the readings of D are those of Dd -/
structure EndOk (F0 : Hp) (Dd : DE) (D : Ends) : Prop where
  nx : ∀ F H σ sd, Same F0 F → Rs K C F H σ sd → Dd.nx sd → D.nx σ H
  rt : ∀ F H σ sd v r, Same F0 F → Rs K C F H σ sd → RvOk K C F H v r → (isOwn r = true → ∀ q, v = .ref q → C.H0 q = none) → Dd.rt r sd → D.rt v H
  bk : ∀ F H σ sd, Same F0 F → Rs K C F H σ sd → Dd.bk sd → D.bk σ H
  ct : ∀ F H σ sd, Same F0 F → Rs K C F H σ sd → Dd.ct sd → D.ct σ H
def tDS (m : MS) : TS := fun D σ H => ∃ F sd Dd, Rs K C F H σ sd ∧ EndOk K C F Dd D ∧ m Dd sd
/-- an iterator that gives the data ds, one by one -/
structure Wk (J : It) (F0 : Hp) (ds : List PyData) : Prop where
  ex : ∃ (G : Hp → Prop) (Y : Nat → Hp → V → Hp → Prop), Walk J ds.length G Y ∧ (∀ H, Same F0 H → G H) ∧
    ∀ i H x H' F, i < ds.length → Same F0 F → Same F H → Y i H x H' → ∃ F' d, Al F H F' H' ∧ ds[i]? = some d ∧ Rp K F' x d
def tDI (m : MI) : TI := fun σ H R => ∃ F sd Qd, Rs K C F H σ sd ∧ m sd Qd ∧ ∀ J H' F' ds sd', Rs K C F' H' σ sd' → Stp σ sd F H F' H' sd' → Wk K J F' ds → Qd ds sd' → R J H'
end
theorem EndOk.mono {K : PySem.W.Frag} {C : Ct} {F F' : Hp} {Dd : DE} {D : Ends} (E : EndOk K C F Dd D) (s : Same F F') : EndOk K C F' Dd D :=
  ⟨fun F1 H σ sd e => E.nx F1 H σ sd (s.trans e), fun F1 H σ sd v r e => E.rt F1 H σ sd v r (s.trans e), fun F1 H σ sd e => E.bk F1 H σ sd (s.trans e), fun F1 H σ sd e => E.ct F1 H σ sd (s.trans e)⟩
end DL
namespace DL
open PySem PySem.Spec PyProof.Rows L2
section
variable {X : Cx}
theorem pe_imp {e : Expr} {t t' : TE} (h : PE X e t) (i : ∀ σ H Q, t' σ H Q → t σ H Q) : PE X e t' := ⟨fun pins s σ H Q I q => h.run pins s σ H Q I (i _ _ _ q)⟩
theorem pt_imp {e : Expr} {t t' : TT} (h : PT X e t) (i : ∀ σ H Q, t' σ H Q → t σ H Q) : PT X e t' := ⟨fun pins s σ H Q I q => h.run pins s σ H Q I (i _ _ _ q)⟩
theorem pw_imp {e : Expr} {t t' : TT} (h : PW X e t) (i : ∀ σ H Q, t' σ H Q → t σ H Q) : PW X e t' := ⟨fun wh pins s σ H Q I q => h.run wh pins s σ H Q I (i _ _ _ q)⟩
theorem pa_imp {e : List Expr} {t t' : TA} (h : PA X e t) (i : ∀ σ H Q, t' σ H Q → t σ H Q) : PA X e t' := ⟨fun pos pins s σ H Q I q => h.run pos pins s σ H Q I (i _ _ _ q)⟩
theorem pk_imp {e : List Keyword} {t t' : TA} (h : PK X e t) (i : ∀ σ H Q, t' σ H Q → t σ H Q) : PK X e t' := ⟨fun pos pins s σ H Q I q => h.run pos pins s σ H Q I (i _ _ _ q)⟩
theorem pg_imp {e : Expr} {t t' : TG} (h : PG X e t) (i : ∀ v σ H Q, t' v σ H Q → t v σ H Q) : PG X e t' := ⟨fun pins s σ H v u Q I r q => h.run pins s σ H v u Q I r (i _ _ _ _ q)⟩
theorem pgs_imp {e : List Expr} {t t' : TGs} (h : PGs X e t) (i : ∀ v σ H Q, t' v σ H Q → t v σ H Q) : PGs X e t' := ⟨fun pins s σ H v u Q I r q => h.run pins s σ H v u Q I r (i _ _ _ _ q)⟩
theorem pi_imp {tg e : Expr} {t t' : TI} (h : PI X tg e t) (i : ∀ σ H Q, t' σ H Q → t σ H Q) : PI X tg e t' := ⟨fun pins s σ H Q I q => h.run pins s σ H Q I (i _ _ _ q)⟩
theorem ps_imp {e : Stmt} {t t' : TS} (h : PS X e t) (i : ∀ D σ H, t' D σ H → t D σ H) : PS X e t' := ⟨fun pins s σ H D I q => h.run pins s σ H D I (i _ _ _ q)⟩
theorem pss_imp {e : List Stmt} {t t' : TS} (h : PSs X e t) (i : ∀ D σ H, t' D σ H → t D σ H) : PSs X e t' := ⟨fun pins s σ H D I q => h.run pins s σ H D I (i _ _ _ q)⟩
theorem pg_or {e : Expr} {t t' : TG} (h : PG X e t) (h' : PG X e t') : PG X e (fun v σ H Q => t v σ H Q ∨ t' v σ H Q) :=
  ⟨fun pins s σ H v u Q I r q => q.elim (h.run pins s σ H v u Q I r) (h'.run pins s σ H v u Q I r)⟩
end
section
variable {K : PySem.W.Frag} {C : Ct} {F F' H H' : Hp} {σ : L2.St} {sd sd' : DSt} {X : Cx}
theorem td_var {i : Nat} : ∀ σ H Q, tD K C (mVar i) σ H Q → tVar i σ H Q := by
  rintro σ H Q ⟨F, sd, Qd, R, h, k⟩
  unfold mVar at h
  have hs := R.slot i
  cases e : sget sd i with
  | no => rw [e] at h; exact h.elim
  | va d =>
    rw [e] at h hs
    obtain ⟨v, e1, r⟩ := hs
    exact ⟨v, gv_some.mp e1, k v H F d sd R .refl r h⟩
  | own ds =>
    rw [e] at h
    obtain ⟨v, F', e1, R', S, r⟩ := R.freeze e
    exact ⟨v, gv_some.mp e1, k v H F' _ _ R' S r h⟩
  | well n => rw [e] at h; exact h.elim
  | scr n => rw [e] at h; exact h.elim
  | exc n => rw [e] at h; exact h.elim
  | ins c es => rw [e] at h; exact h.elim
theorem pd_var {i : Nat} {x : Str} {pos : Pos} (hN : X.N[i]? = some x) (hv : Vis X.env.scope x) (hd : (x == ("__debug__" : Str)) = false := by decide) (hcd : (x == ("__classdict__" : Str)) = false := by decide) :
    PE X (.Name x pos) (tD X.K C (mVar i)) := pe_imp (pe_var hN hv hd hcd) td_var
theorem td_c {v : V} {d : PyData} (r : ∀ F, Rp K F v d) : ∀ σ H Q, tD K C (mC d) σ H Q → tC v σ H Q := by
  rintro σ H Q ⟨F, sd, Qd, R, h, k⟩
  exact k v H F d sd R .refl (r F) h
theorem pd_int {i : Int} {j} {pos : Pos} : PE X (.Constant (.int i) j pos) (tD X.K C (mC (.int i))) := pe_imp pe_int (td_c fun _ => .int i)
theorem pd_bl {b : Bool} {j} {pos : Pos} : PE X (.Constant (.bool b) j pos) (tD X.K C (mC (.bool b))) := pe_imp pe_bl (td_c fun _ => .bl b)
theorem pd_non {j} {pos : Pos} : PE X (.Constant .none j pos) (tD X.K C (mC .none)) := pe_imp pe_non (td_c fun _ => .non)
theorem pd_str {x : Str} {j} {pos : Pos} : PE X (.Constant (.str x) j pos) (tD X.K C (mC (.str x))) := pe_imp pe_str (td_c fun _ => .str x)
/-- a module's constant -/
theorem pd_glob {x : Str} {v : V} {u : Value} {d : PyData} {pos : Pos} (hm : X.mg x = some u) (r : RelV v u) (q : ∀ F, Rp X.K F v d) (hg : Gl X x := by rfl) (hd : (x == ("__debug__" : Str)) = false := by decide) :
    PE X (.Name x pos) (tD X.K C (mC d)) := pe_imp (pe_glob hg hm r hd) (td_c q)
/-- what r asks of two values, told by f on data -/
def RL2 (K : PySem.W.Frag) (r : R2) (f : PyData → PyData → Option PyData) : Prop :=
  ∀ (F H : Hp) (x y : V) (a b z : PyData) (Q : VK), Same F H → (∀ p, H p = none → F p = none) → Rp K F x a → Rp K F y b → f a b = some z → (∀ v F' H', Al F H F' H' → Rp K F' v z → Q v H') → r x y H Q
theorem td_op2 {r : R2} {f : PyData → PyData → Option PyData} {ma mb : ME} (L : RL2 K r f) : ∀ σ H Q, tD K C (mOp2 f ma mb) σ H Q → tOp r (tD K C ma) (tD K C mb) σ H Q := by
  rintro σ H Q ⟨F, sd, Qd, R, h, k⟩
  refine ⟨F, sd, _, R, h, fun x H1 F1 a sd1 R1 S1 rx h1 => ⟨F1, sd1, _, R1, h1, fun y H2 F2 b sd2 R2 S2 ry h2 => ?_⟩⟩
  obtain ⟨z, e, q⟩ := h2
  exact L F2 H2 x y a b z Q R2.ext (fun p => R2.free) (rx.mono S2.fr) ry e fun v F' H' al rz => k v H' F' z sd2 (R2.al al) ((S1.trans S2).trans (.al R2 al)) rz q
theorem pd_op {op} {r : R2} {f : PyData → PyData → Option PyData} {ma mb : ME} {a b : Expr} {pos : Pos} (ho : OpR X (binaryOp op) r) (L : RL2 X.K r f) (ha : PE X a (tD X.K C ma)) (hb : PE X b (tD X.K C mb)) :
    PE X (.BinOp a op b pos) (tD X.K C (mOp2 f ma mb)) := pe_imp (pe_op ho ha hb) (td_op2 L)
theorem pd_cmp {op} {r : R2} {f : PyData → PyData → Option PyData} {ma mb : ME} {a b : Expr} {pos : Pos} (ho : OpR X (compareOp op) r) (L : RL2 X.K r f) (ha : PE X a (tD X.K C ma)) (hb : PE X b (tD X.K C mb)) (hm : behindInMarks op b = false) :
    PE X (.Compare a [op] [b] pos) (tD X.K C (mOp2 f ma mb)) := pe_imp (pe_cmpR ho ha hb hm) (td_op2 L)
theorem td_test {te : TE} {m : ME} (h : ∀ σ H Q, tD K C m σ H Q → te σ H Q) : ∀ σ H Q, tDT K C (mT m) σ H Q → tTest te σ H Q := by
  rintro σ H Q ⟨F, sd, Qd, R, h1, k⟩
  refine h σ H _ ⟨F, sd, _, R, h1, fun v H' F' d sd' R' S r q => ?_⟩
  obtain ⟨c, rfl, q⟩ := q
  cases r
  exact ⟨c, rfl, k c H' F' sd' R' S q⟩
theorem td_tB {te : TE} {m : ME} (h : ∀ σ H Q, tD K C m σ H Q → te σ H Q) : ∀ σ H Q, tDT K C (mT m) σ H Q → tB te σ H Q := by
  rintro σ H Q ⟨F, sd, Qd, R, h1, k⟩
  refine h σ H _ ⟨F, sd, _, R, h1, fun v H' F' d sd' R' S r q => ?_⟩
  obtain ⟨c, rfl, q⟩ := q
  cases r
  exact ⟨c, rfl, k c H' F' sd' R' S q⟩
theorem pdt_cmp {op} {r : R2} {f : PyData → PyData → Option PyData} {ma mb : ME} {a b : Expr} {pos : Pos} (ho : OpR X (compareOp op) r) (L : RL2 X.K r f) (ha : PE X a (tD X.K C ma)) (hb : PE X b (tD X.K C mb)) (hm : behindInMarks op b = false) :
    PT X (.Compare a [op] [b] pos) (tDT X.K C (mT (mOp2 f ma mb))) := pt_imp (pt_cmpR ho ha hb hm) (td_test (td_op2 L))
theorem pdt_val {e : Expr} {m : ME} (h : PE X e (tD X.K C m)) (he : ∀ whole, isTrue e X.env whole = (do let v ← whole; standAt e.pos; holding [v] (truthy v)) := by intro _; rfl) : PT X e (tDT X.K C (mT m)) :=
  pt_imp (pt_val h he) (td_tB fun _ _ _ q => q)
theorem pdt_not {e : Expr} {t : MT} {pos : Pos} (h : PT X e (tDT X.K C t)) : PT X (.UnaryOp .Not e pos) (tDT X.K C (mTNot t)) := pt_imp (pt_not h) (by
  rintro σ H Q ⟨F, sd, Qd, R, h1, k⟩
  exact ⟨F, sd, _, R, h1, fun b H' F' sd' R' S q => k (!b) H' F' sd' R' S q⟩)
theorem pdw_and1 {a : Expr} {t : MT} {pos : Pos} (h : PT X a (tDT X.K C t)) : PW X (.BoolOp .And [a] pos) (tDT X.K C t) := pw_and1 h
theorem pdw_or1 {a : Expr} {t : MT} {pos : Pos} (h : PT X a (tDT X.K C t)) : PW X (.BoolOp .Or [a] pos) (tDT X.K C t) := pw_or1 h
theorem pdw_and {a b : Expr} {rest : List Expr} {t u : MT} {pos : Pos} (ha : PT X a (tDT X.K C t)) (hb : PW X (.BoolOp .And (b :: rest) pos) (tDT X.K C u)) : PW X (.BoolOp .And (a :: b :: rest) pos) (tDT X.K C (mTAnd t u)) := pw_imp (pw_and ha hb) (by
  rintro σ H Q ⟨F, sd, Qd, R, h1, k⟩
  refine ⟨F, sd, _, R, h1, fun b H' F' sd' R' S q => ?_⟩
  cases b with
  | true => exact ⟨F', sd', Qd, R', q, fun b2 H2 F2 sd2 R2 S2 q2 => k b2 H2 F2 sd2 R2 (S.trans S2) q2⟩
  | false => exact k false H' F' sd' R' S q)
theorem pdw_or {a b : Expr} {rest : List Expr} {t u : MT} {pos : Pos} (ha : PT X a (tDT X.K C t)) (hb : PW X (.BoolOp .Or (b :: rest) pos) (tDT X.K C u)) : PW X (.BoolOp .Or (a :: b :: rest) pos) (tDT X.K C (mTOr t u)) := pw_imp (pw_or ha hb) (by
  rintro σ H Q ⟨F, sd, Qd, R, h1, k⟩
  refine ⟨F, sd, _, R, h1, fun b H' F' sd' R' S q => ?_⟩
  cases b with
  | true => exact k true H' F' sd' R' S q
  | false => exact ⟨F', sd', Qd, R', q, fun b2 H2 F2 sd2 R2 S2 q2 => k b2 H2 F2 sd2 R2 (S.trans S2) q2⟩)
theorem pd_and {a b : Expr} {rest : List Expr} {ma mb : ME} {pos : Pos} (ha : PE X a (tD X.K C ma)) (hb : PE X (.BoolOp .And (b :: rest) pos) (tD X.K C mb)) : PE X (.BoolOp .And (a :: b :: rest) pos) (tD X.K C (mAnd ma mb)) := pe_imp (pe_and ha hb) (by
  rintro σ H Q ⟨F, sd, Qd, R, h1, k⟩
  refine ⟨F, sd, _, R, h1, fun v H' F' d sd' R' S r q => ?_⟩
  obtain ⟨c, rfl, q⟩ := q
  cases r
  refine ⟨c, rfl, ?_⟩
  cases c with
  | true => exact ⟨F', sd', Qd, R', q, fun b2 H2 F2 d2 sd2 R2 S2 r2 q2 => k b2 H2 F2 d2 sd2 R2 (S.trans S2) r2 q2⟩
  | false => exact k (.bl false) H' F' _ sd' R' S (.bl false) q)
theorem pd_or {a b : Expr} {rest : List Expr} {ma mb : ME} {pos : Pos} (ha : PE X a (tD X.K C ma)) (hb : PE X (.BoolOp .Or (b :: rest) pos) (tD X.K C mb)) : PE X (.BoolOp .Or (a :: b :: rest) pos) (tD X.K C (mOr ma mb)) := pe_imp (pe_or ha hb) (by
  rintro σ H Q ⟨F, sd, Qd, R, h1, k⟩
  refine ⟨F, sd, _, R, h1, fun v H' F' d sd' R' S r q => ?_⟩
  obtain ⟨c, rfl, q⟩ := q
  cases r
  refine ⟨c, rfl, ?_⟩
  cases c with
  | true => exact k (.bl true) H' F' _ sd' R' S (.bl true) q
  | false => exact ⟨F', sd', Qd, R', q, fun b2 H2 F2 d2 sd2 R2 S2 r2 q2 => k b2 H2 F2 d2 sd2 R2 (S.trans S2) r2 q2⟩)
theorem pd_not {a : Expr} {ma : ME} {pos : Pos} (ha : PE X a (tD X.K C ma)) : PE X (.UnaryOp .Not a pos) (tD X.K C (mNot ma)) := pe_imp (pe_not ha) (by
  rintro σ H Q ⟨F, sd, Qd, R, h1, k⟩
  refine ⟨F, sd, _, R, h1, fun v H' F' d sd' R' S r q => ?_⟩
  obtain ⟨c, rfl, q⟩ := q
  cases r
  exact ⟨c, rfl, k (.bl (!c)) H' F' _ sd' R' S (.bl _) q⟩)
theorem pd_one {op} {a : Expr} {m : ME} {pos : Pos} (h : PE X a (tD X.K C m)) : PE X (.BoolOp op [a] pos) (tD X.K C m) := pe_one h
theorem pd_ifE {c a b : Expr} {t : MT} {ma mb : ME} {pos : Pos} (hc : PT X c (tDT X.K C t)) (ha : PE X a (tD X.K C ma)) (hb : PE X b (tD X.K C mb)) : PE X (.IfExp c a b pos) (tD X.K C (mIfE t ma mb)) := pe_imp (pe_ifExp hc ha hb) (by
  rintro σ H Q ⟨F, sd, Qd, R, h1, k⟩
  refine ⟨F, sd, _, R, h1, fun b H' F' sd' R' S q => ?_⟩
  cases b with
  | true => exact ⟨F', sd', Qd, R', q, fun b2 H2 F2 d2 sd2 R2 S2 r2 q2 => k b2 H2 F2 d2 sd2 R2 (S.trans S2) r2 q2⟩
  | false => exact ⟨F', sd', Qd, R', q, fun b2 H2 F2 d2 sd2 R2 S2 r2 q2 => k b2 H2 F2 d2 sd2 R2 (S.trans S2) r2 q2⟩)
theorem pd_chain {op op'} {r r' : R2} {f g : PyData → PyData → Option PyData} {a b c : Expr} {ma mb mc : ME} {pos : Pos} (ho : OpR X (compareOp op) r) (ho' : OpR X (compareOp op') r') (L : RL2 X.K r f) (L' : RL2 X.K r' g)
    (ha : PE X a (tD X.K C ma)) (hb : PE X b (tD X.K C mb)) (hc : PE X c (tD X.K C mc)) (hu : ∀ {a b : PyData} {z : PyData}, f a b = some z → ∃ k, z = .bool k) (t : PE X (.Compare a [op, op'] [b, c] pos) (tChain r r' (tD X.K C ma) (tD X.K C mb) (tD X.K C mc))) :
    PE X (.Compare a [op, op'] [b, c] pos) (tD X.K C (mChain f g ma mb mc)) := pe_imp t (by
  rintro σ H Q ⟨F, sd, Qd, R, h, k⟩
  refine ⟨F, sd, _, R, h, fun x H1 F1 a sd1 R1 S1 rx h1 => ⟨F1, sd1, _, R1, h1, fun y H2 F2 b sd2 R2 S2 ry h2 => ?_⟩⟩
  obtain ⟨cc, e, q⟩ := h2
  refine L F2 H2 x y a b (.bool cc) _ R2.ext (fun p => R2.free) (rx.mono S2.fr) ry e fun v F' H' al rz => ?_
  cases rz
  refine ⟨cc, rfl, ?_⟩
  have S' := (S1.trans S2).trans (.al R2 al)
  cases cc with
  | true =>
    refine ⟨F', sd2, _, R2.al al, q, fun w H3 F3 d sd3 R3 S3 rw_ h3 => ?_⟩
    obtain ⟨z2, e2, q2⟩ := h3
    refine L' F3 H3 y w b d z2 _ R3.ext (fun p => R3.free) (ry.mono ((Stp.al R2 al).fr.trans S3.fr)) rw_ e2 fun v F4 H4 al2 rz2 => k v H4 F4 z2 sd3 (R3.al al2) ((S'.trans S3).trans (.al R3 al2)) rz2 q2
  | false => exact k (.bl false) H' F' _ sd2 (R2.al al) S' (.bl false) q)
/-- one place -/
def RL1 (K : PySem.W.Frag) (r : V → Hp → VK → Prop) (f : PyData → Option PyData) : Prop :=
  ∀ (F H : Hp) (x : V) (a z : PyData) (Q : VK), Same F H → (∀ p, H p = none → F p = none) → Rp K F x a → f a = some z → (∀ v F' H', Al F H F' H' → Rp K F' v z → Q v H') → r x H Q
theorem pd_un {op} {r : V → Hp → VK → Prop} {f : PyData → Option PyData} {ma : ME} {a : Expr} {pos : Pos} (ho : UnR X (unaryOp op) r) (L : RL1 X.K r f) (ha : PE X a (tD X.K C ma)) : PE X (.UnaryOp op a pos) (tD X.K C (mOp1 f ma)) := pe_imp (pe_un ho ha) (by
  rintro σ H Q ⟨F, sd, Qd, R, h, k⟩
  refine ⟨F, sd, _, R, h, fun x H1 F1 a sd1 R1 S1 rx h1 => ?_⟩
  obtain ⟨z, e, q⟩ := h1
  exact L F1 H1 x a z Q R1.ext (fun p => R1.free) rx e fun v F' H' al rz => k v H' F' z sd1 (R1.al al) (S1.trans (.al R1 al)) rz q)
theorem pd_ix {a b : Expr} {r : R2} {f : PyData → PyData → Option PyData} {ma mb : ME} {pos : Pos} (hr : IxR X r) (L : RL2 X.K r f) (ha : PE X a (tD X.K C ma)) (hb : PE X b (tD X.K C mb)) (hs : PlainIx b := by exact fun _ _ => rfl) :
    PE X (.Subscript a b pos) (tD X.K C (mOp2 f ma mb)) := pe_imp (pe_ix hr ha hb hs) (td_op2 L)
theorem pda_nil : PA X [] (tDA X.K C mNil) := pa_imp pa_nil (by
  rintro σ H Q ⟨F, sd, Qd, R, h, k⟩
  exact k [] H F [] sd R .refl .nil h)
theorem td_cons {me : ME} {ma : MA} : ∀ σ H Q, tDA K C (mCons me ma) σ H Q → tCons (tD K C me) (tDA K C ma) σ H Q := by
  rintro σ H Q ⟨F, sd, Qd, R, h, k⟩
  exact ⟨F, sd, _, R, h, fun x H1 F1 a sd1 R1 S1 rx h1 => ⟨F1, sd1, _, R1, h1, fun ys H2 F2 ds sd2 R2 S2 ry h2 => k (x :: ys) H2 F2 (a :: ds) sd2 R2 (S1.trans S2) (.cons (rx.mono S2.fr) ry) h2⟩⟩
theorem pda_cons {e : Expr} {es : List Expr} {me : ME} {ma : MA} (he : PE X e (tD X.K C me)) (hr : PA X es (tDA X.K C ma)) (hs : starEach (e :: es) X.env = (false, eval e X.env) :: starEach es X.env := by rfl) : PA X (e :: es) (tDA X.K C (mCons me ma)) :=
  pa_imp (pa_cons he hr hs) td_cons
theorem pdk_nil : PK X [] (tDA X.K C mNil) := pk_imp pk_nil (by
  rintro σ H Q ⟨F, sd, Qd, R, h, k⟩
  exact k [] H F [] sd R .refl .nil h)
theorem pdk_cons {nm : Option Str} {e : Expr} {kpos : Pos} {es : List Keyword} {me : ME} {ma : MA} (he : PE X e (tD X.K C me)) (hr : PK X es (tDA X.K C ma)) : PK X (⟨nm, e, kpos⟩ :: es) (tDA X.K C (mCons me ma)) :=
  pk_imp (pk_cons he hr) td_cons
theorem pd_tup {es : List Expr} {x1} {ma : MA} {pos : Pos} (h : PA X es (tDA X.K C ma)) : PE X (.Tuple es x1 pos) (tD X.K C (mTup ma)) := pe_imp (pe_tup h) (by
  rintro σ H Q ⟨F, sd, Qd, R, h, k⟩
  refine ⟨F, sd, _, R, h, fun vs H1 F1 ds sd1 R1 S1 rs q => ⟨?_, fun p hp => ?_⟩⟩
  · rw [rs.length]; exact Nat.le_trans q.1 (by decide)
  · exact k (.ref p) _ (upd F1 p (.tup vs)) _ sd1 (R1.al (.new hp)) (S1.trans (.al R1 (.new hp))) (.tup (.inl (.inl upd_same)) (rs.mono (same_new (R1.free hp)))) q.2)
theorem td_lst {ma : MA} : ∀ σ H Q, tDR K C (mrLst ma) σ H Q → tLst (tDA K C ma) σ H Q := by
  rintro σ H Q ⟨F, sd, Qd, R, h, k⟩
  refine ⟨F, sd, _, R, h, fun vs H1 F1 ds sd1 R1 S1 rs q => ⟨?_, fun p hp => ?_⟩⟩
  · rw [rs.length]; exact Nat.le_trans q.1 (by decide)
  · have R2 := R1.allocH (o := .lst vs) hp
    refine k (.ref p) _ F1 (.own ds) sd1 R2 (S1.trans ⟨Same.refl _, fun a o e _ => same_new hp a o e, fun _ z => z, fun _ _ e => .inl e, fun a e => ?_⟩) ⟨p, vs, rfl, upd_same, R1.free hp, R1.still p hp, rs⟩ (fun _ q' e => ?_) (fun _ q' e => ?_) q.2
    · by_cases z : a = p
      · subst z; exact hp
      · rw [upd_ne z] at e; exact e
    · cases e
      rintro ⟨i, o, e⟩
      have hs := R1.slot i
      cases es : sget sd1 i with
      | no => rw [es] at o; cases o
      | va d => rw [es] at o; cases o
      | scr d => rw [es] at o; cases o
      | exc d => rw [es] at o; cases o
      | ins c fs => rw [es] at hs; obtain ⟨q2, _, _, _, e1, e2, _⟩ := hs; rw [e] at e1; cases e1; rw [hp] at e2; cases e2
      | own ds' => rw [es] at hs; obtain ⟨q2, vs2, e1, e2, _⟩ := hs; rw [e] at e1; cases e1; rw [hp] at e2; cases e2
      | well n => rw [es] at hs; obtain ⟨q2, _, _, _, e1, e2, _⟩ := hs; rw [e] at e1; cases e1; rw [hp] at e2; cases e2
    · cases e
      have := S1.st p hp
      exact this
theorem td_lstV {ma : MA} : ∀ σ H Q, tD K C (mLst ma) σ H Q → tLst (tDA K C ma) σ H Q := by
  rintro σ H Q ⟨F, sd, Qd, R, h, k⟩
  refine ⟨F, sd, _, R, h, fun vs H1 F1 ds sd1 R1 S1 rs q => ⟨?_, fun p hp => ?_⟩⟩
  · rw [rs.length]; exact Nat.le_trans q.1 (by decide)
  · exact k (.ref p) _ (upd F1 p (.lst vs)) _ sd1 (R1.al (.new hp)) (S1.trans (.al R1 (.new hp))) (.lst upd_same (rs.mono (same_new (R1.free hp)))) q.2
theorem pd_lst {es : List Expr} {ma : MA} {pos : Pos} (h : PA X es (tDA X.K C ma)) : PE X (.List es pos) (tD X.K C (mLst ma)) := pe_imp (pe_lst h) td_lstV
theorem pdr_lst {es : List Expr} {ma : MA} {pos : Pos} (h : PA X es (tDA X.K C ma)) : PE X (.List es pos) (tDR X.K C (mrLst ma)) := pe_imp (pe_lst h) td_lst
theorem pdr_of {e : Expr} {m : ME} (h : PE X e (tD X.K C m)) : PE X e (tDR X.K C (mrOf m)) := pe_imp h (by
  rintro σ H Q ⟨F, sd, Qd, R, h, k⟩
  exact ⟨F, sd, _, R, h, fun v H' F' d sd' R' S r q => k v H' F' (.va d) sd' R' S ⟨v, rfl, r⟩ (fun z => nomatch z) (fun z => nomatch z) q⟩)
def RLC (K : PySem.W.Frag) (r : List V → Hp → VK → Prop) (f : List PyData → Option PyData) : Prop :=
  ∀ (F H : Hp) (xs : List V) (as : List PyData) (z : PyData) (Q : VK), Same F H → (∀ p, H p = none → F p = none) → RpA K F xs as → f as = some z → (∀ v F' H', Al F H F' H' → Rp K F' v z → Q v H') → r xs H Q
theorem td_cb {r : List V → Hp → VK → Prop} {f : List PyData → Option PyData} {ma : MA} (L : RLC K r f) : ∀ σ H Q, tD K C (mCallB f ma) σ H Q → tCB r (tDA K C ma) σ H Q := by
  rintro σ H Q ⟨F, sd, Qd, R, h, k⟩
  refine ⟨F, sd, _, R, h, fun xs H1 F1 as sd1 R1 S1 rx h1 => ?_⟩
  obtain ⟨z, e, q⟩ := h1
  exact L F1 H1 xs as z Q R1.ext (fun p => R1.free) rx e fun v F' H' al rz => k v H' F' z sd1 (R1.al al) (S1.trans (.al R1 al)) rz q
theorem pd_callB {id : String} {x : Str} {p pos : Pos} {e : Expr} {es : List Expr} {r : List V → Hp → VK → Prop} {f : List PyData → Option PyData} {ma : MA} (hc : CallR X (.builtin id) r) (L : RLC X.K r f) (hm : X.mg x = none) (hv : bootBuiltins x = some (.builtin id))
    (ha : PA X (e :: es) (tDA X.K C ma)) (hg : Gl X x := by rfl) (hn : x ≠ "__name__" := by decide) (hdb : (x == ("__debug__" : Str)) = false := by decide)
    (he : starEach (e :: es) X.env = (false, eval e X.env) :: starEach es X.env := by rfl) (hpl : (backTo pos (starEach es X.env)).any (·.1) = false := by rfl) : PE X (.Call (.Name x p) (e :: es) [] pos) (tD X.K C (mCallB f ma)) :=
  pe_imp (pe_callB hc hg hm hv ha hn hdb he hpl) (td_cb L)
theorem pd_callTy {T : String} {x : Str} {p pos : Pos} {e : Expr} {es : List Expr} {r : List V → Hp → VK → Prop} {f : List PyData → Option PyData} {ma : MA} (hc : CallR X (.type T) r) (L : RLC X.K r f) (hm : X.mg x = none) (hv : bootBuiltins x = some (.type T))
    (ha : PA X (e :: es) (tDA X.K C ma)) (hg : Gl X x := by rfl) (hn : x ≠ "__name__" := by decide) (hdb : (x == ("__debug__" : Str)) = false := by decide)
    (he : starEach (e :: es) X.env = (false, eval e X.env) :: starEach es X.env := by rfl) (hpl : (backTo pos (starEach es X.env)).any (·.1) = false := by rfl) : PE X (.Call (.Name x p) (e :: es) [] pos) (tD X.K C (mCallB f ma)) :=
  pe_imp (pe_callTy hc hg hm hv ha hn hdb he hpl) (td_cb L)
/-- a builtin that is a module's name (math.gcd) -/
theorem pd_slice {e : Expr} {lo hi : Option Expr} {p2 pos : Pos} {r : V → Option Int → Option Int → Hp → VK → Prop} {f : PyData → Option Int → Option Int → Option PyData} {me : ME} {ml mh : DSt → (Option Int → DSt → Prop) → Prop} {tl th : TO}
    (L : ∀ (F H : Hp) (x : V) (a z : PyData) (lo hi : Option Int) (Q : VK), Same F H → (∀ p, H p = none → F p = none) → Rp X.K F x a → f a lo hi = some z → (∀ v F' H', Al F H F' H' → Rp X.K F' v z → Q v H') → r x lo hi H Q)
    (hl : ∀ σ H Q F sd Qd, Rs X.K C F H σ sd → ml sd Qd → (∀ o H' F' sd', Rs X.K C F' H' σ sd' → Stp σ sd F H F' H' sd' → Qd o sd' → Q o H') → tl σ H Q)
    (hh : ∀ σ H Q F sd Qd, Rs X.K C F H σ sd → mh sd Qd → (∀ o H' F' sd', Rs X.K C F' H' σ sd' → Stp σ sd F H F' H' sd' → Qd o sd' → Q o H') → th σ H Q)
    (t : PE X (.Subscript e (.Slice lo hi none p2) pos) (tSl r (tD X.K C me) tl th)) : PE X (.Subscript e (.Slice lo hi none p2) pos) (tD X.K C (mSl f me ml mh)) := pe_imp t (by
  rintro σ H Q ⟨F, sd, Qd, R, h, k⟩
  refine ⟨F, sd, _, R, h, fun x H1 F1 a sd1 R1 S1 rx h1 => ?_⟩
  refine hl σ H1 _ F1 sd1 _ R1 h1 fun l H2 F2 sd2 R2 S2 h2 => ?_
  refine hh σ H2 _ F2 sd2 _ R2 h2 fun u H3 F3 sd3 R3 S3 h3 => ?_
  obtain ⟨z, e, q⟩ := h3
  exact L F3 H3 x a z l u Q R3.ext (fun p => R3.free) (rx.mono (S2.fr.trans S3.fr)) e fun v F' H' al rz => k v H' F' z sd3 (R3.al al) (((S1.trans S2).trans S3).trans (.al R3 al)) rz q)
end
end DL
namespace DL
open PySem PySem.Spec PyProof.Rows L2
theorem opR_or {X : Cx} {f : Value → Value → Sem Value} {r r' : R2} (h : OpR X f r) (h' : OpR X f r') : OpR X f (fun x y H Q => r x y H Q ∨ r' x y H Q) :=
  fun pins s σ H x y v u Q I rx ry q => q.elim (h pins s σ H x y v u Q I rx ry) (h' pins s σ H x y v u Q I rx ry)
theorem callR_or {X : Cx} {f : Value} {r r' : List V → Hp → VK → Prop} (h : CallR X f r) (h' : CallR X f r') : CallR X f (fun xs H Q => r xs H Q ∨ r' xs H Q) :=
  fun pins s σ H xs us Q I rx q => q.elim (h pins s σ H xs us Q I rx) (h' pins s σ H xs us Q I rx)
theorem slR_or {X : Cx} {r r' : V → Option Int → Option Int → Hp → VK → Prop} (h : SlR X r) (h' : SlR X r') : SlR X (fun x lo hi H Q => r x lo hi H Q ∨ r' x lo hi H Q) := SlR.or h h'
theorem line_of {n : Nat} (h : n ≤ 100000) : n ≤ sizeLine := Nat.le_trans h (by decide)
theorem line_lt {n : Nat} (h : n < 100000) : n < sizeLine := Nat.lt_of_lt_of_le h (by decide)
section
variable {K : PySem.W.Frag} {X : Cx}
abbrev rAdd (K : PySem.W.Frag) : R2 := fun x y H Q => (((rI0 fun i j => V.int (i + j)) x y H Q ∨ (∃ i j, x = .str i ∧ y = .str j ∧ i.length + j.length ≤ sizeLine ∧ Q (.str (i ++ j)) H)) ∨ rCat x y H Q) ∨ rCatA K x y H Q
theorem or_add : OpR X (binaryOp .Add) (rAdd X.K) := opR_or (opR_or (opR_or op_add op_add_str) op_cat) op_catA
theorem rl_add : RL2 K (rAdd K) opAdd := by
  intro F H x y a b z Q e _ rx ry h k
  unfold opAdd at h
  split at h
  · cases rx; cases ry; cases h
    exact .inl (.inl (.inl ⟨_, _, rfl, rfl, k _ F H .id (.int _)⟩))
  · cases rx; cases ry
    split at h
    · cases h
      rename_i hl
      exact .inl (.inl (.inr ⟨_, _, rfl, rfl, line_of hl, k _ F H .id (.str _)⟩))
    · cases h
  · split at h
    · rename_i hl
      cases h
      cases rx with
      | lst h1 r1 =>
        cases ry with
        | lst h2 r2 =>
          refine .inl (.inr ⟨_, _, _, _, rfl, rfl, e _ _ h1, e _ _ h2, ?_, fun p hp => ?_⟩)
          · rw [r1.length, r2.length]; exact line_of hl
          · have hF : F p = none := by
              cases q : F p with
              | none => rfl
              | some o => rw [e _ _ q] at hp; cases hp
            exact k _ _ _ (.new hp) (.lst upd_same ((r1.append r2).mono (same_new hF)))
    · cases h
  · split at h
    · rename_i hl
      cases h
      cases rx with
      | tup h1 r1 =>
        cases ry with
        | tup h2 r2 =>
          refine .inr ⟨_, _, _, _, rfl, rfl, same_t e h1, same_t e h2, ?_, fun z => ?_, fun z1 z2 => ?_, fun z1 z2 p hp => ?_⟩
          · rw [r1.length, r2.length]; exact line_of hl
          · subst z
            cases r1
            exact k _ F H .id (.tup h2 r2)
          · subst z2
            cases r2
            rw [List.append_nil] at k
            exact k _ F H .id (.tup h1 r1)
          · have hF : F p = none := by
              cases q : F p with
              | none => rfl
              | some o => rw [e _ _ q] at hp; cases hp
            exact k _ _ _ (.new hp) (.tup (.inl (.inl upd_same)) ((r1.append r2).mono (same_new hF)))
    · cases h
  · cases h
theorem free_of {F H : Hp} {p : Addr} (e : Same F H) (hp : H p = none) : F p = none := by
  cases q : F p with
  | none => rfl
  | some o => rw [e _ _ q] at hp; cases hp
theorem rl_sub : RL2 K (rI0 fun i j => V.int (i - j)) opSub := by
  intro F H x y a b z Q e _ rx ry h k
  unfold opSub at h
  split at h
  · cases rx; cases ry; cases h
    exact ⟨_, _, rfl, rfl, k _ F H .id (.int _)⟩
  · cases h
abbrev rMul : R2 := fun x y H Q => rI CMulW (fun i j => V.int (i * j)) x y H Q ∨ rRep x y H Q
theorem or_mul : OpR X (binaryOp .Mult) rMul := opR_or op_mulW op_rep
theorem rpA_rep {F : Hp} {vs : List V} {ds : List PyData} (r : RpA K F vs ds) : ∀ n : Nat, RpA K F (List.replicate n vs).flatten (List.replicate n ds).flatten
  | 0 => .nil
  | n + 1 => by
    rw [List.replicate_succ, List.replicate_succ, List.flatten_cons, List.flatten_cons]
    exact r.append (rpA_rep r n)
theorem rl_mul : RL2 K rMul opMul := by
  intro F H x y a b z Q e _ rx ry h k
  unfold opMul at h
  split at h
  · cases rx; cases ry
    split at h
    · rename_i hs
      cases h
      exact .inl ⟨_, _, rfl, rfl, (by unfold CMulW; exact of_decide_eq_true hs), k _ F H .id (.int _)⟩
    · cases h
  · rename_i a' k'
    split at h
    · rename_i hs
      cases h
      cases ry
      cases rx with
      | lst h1 r1 =>
        refine .inr ⟨_, _, _, rfl, rfl, e _ _ h1, by omega, by omega, ?_, fun p hp => ?_⟩
        · rw [r1.length]
          have h1 : a'.length * k'.toNat ≤ 1000 * 1000 := Nat.mul_le_mul hs.2.2 (by omega)
          exact Nat.le_trans h1 (by decide)
        · exact k _ _ _ (.new hp) (.lst upd_same ((rpA_rep r1 _).mono (same_new (free_of e hp))))
    · cases h
  · cases h
theorem rl_mod : RL2 K (rI (fun _ j => 0 < j) fun i j => V.int (i % j)) opMod := by
  intro F H x y a b z Q e _ rx ry h k
  unfold opMod at h
  split at h
  · cases rx; cases ry
    split at h
    · rename_i hs
      cases h
      exact ⟨_, _, rfl, rfl, hs, k _ F H .id (.int _)⟩
    · cases h
  · cases h
theorem rl_fdiv : RL2 K (rI CDivW fun i j => V.int (i / j)) opFdiv := by
  intro F H x y a b z Q e _ rx ry h k
  unfold opFdiv at h
  split at h
  · cases rx; cases ry
    split at h
    · rename_i hs
      cases h
      exact ⟨_, _, rfl, rfl, hs, k _ F H .id (.int _)⟩
    · cases h
  · cases h
/-- ** by a small exponent -/
def CPowW (i j : Int) : Prop := 0 ≤ j ∧ j ≤ 100 ∧ i.natAbs < 2 ^ 10000
theorem op_powW : OpR X (binaryOp .Pow) (rI CPowW fun i j => .int (i ^ j.toNat)) := by
  intro pins s σ H x y v u Q I rx ry h
  obtain ⟨i, j, rfl, rfl, hc, q⟩ := h
  obtain ⟨t, rfl⟩ := rx
  obtain ⟨t', rfl⟩ := ry
  refine PyProof.Rows.pow_int hc.1 ?_ ⟨.int _, H, I.tok _, ⟨_, rfl⟩, q⟩
  have hb : Builtin.Int.intBits i ≤ 10000 := by
    unfold Builtin.Int.intBits
    split
    · exact Nat.zero_le _
    · have := PySem.Flt.log2_lt_of (by decide : 0 < 10000) hc.2.2
      omega
  have h1 := hc.1
  have h2 := hc.2.1
  have h3 : (Builtin.Int.intBits i : Int) ≤ 10000 := by exact_mod_cast hb
  have h4 : (Builtin.Int.intBits i : Int) * j ≤ 10000 * 100 := Int.mul_le_mul h3 h2 h1 (by decide)
  have h5 : (10000 * 100 : Int) ≤ 2 ^ 27 := by decide
  omega
theorem rl_pow : RL2 K (rI CPowW fun i j => V.int (i ^ j.toNat)) opPow := by
  intro F H x y a b z Q e _ rx ry h k
  unfold opPow at h
  split at h
  · cases rx; cases ry
    split at h
    · rename_i hs
      cases h
      exact ⟨_, _, rfl, rfl, hs, k _ F H .id (.int _)⟩
    · cases h
  · cases h
theorem rl_cmpI {p : Int → Int → Bool} : RL2 K (rI0 fun i j => V.bl (p i j)) (cmpI p) := by
  intro F H x y a b z Q e _ rx ry h k
  unfold cmpI at h
  split at h
  · cases rx; cases ry; cases h
    exact ⟨_, _, rfl, rfl, k _ F H .id (.bl _)⟩
  · cases h
theorem strs_of {a b : PyData} {p : Str × Str} (h : strs? a b = some p) : a = .str p.1 ∧ b = .str p.2 := by
  unfold strs? at h
  split at h
  · cases h; exact ⟨rfl, rfl⟩
  · cases h
theorem or_eqD (hu : X.A.units + 64 < cLine) : OpR X (compareOp .Eq) (fun x y H Q => rEqD X.K x y H Q ∨ rEq x y H Q) := opR_or (op_eqD hu) op_eq
theorem or_neD (hu : X.A.units + 64 < cLine) : OpR X (compareOp .NotEq) (fun x y H Q => rNeD X.K x y H Q ∨ rNe x y H Q) := opR_or (op_neD hu) op_ne
theorem dec_v {x y : Str} : decide (V.str x = V.str y) = decide (x = y) := by
  by_cases h : x = y <;> simp [h]
theorem rl_eq : RL2 K (fun x y H Q => rEqD K x y H Q ∨ rEq x y H Q) opEq := by
  intro F H x y a b z Q e _ rx ry h k
  unfold opEq at h
  split at h
  · rename_i hs
    cases h
    rw [Bool.and_eq_true] at hs
    exact .inl ⟨a, b, rx.dp e (SeqAt.canLay_of_shaped hs.1), ry.dp e (SeqAt.canLay_of_shaped hs.2), hs.1, hs.2, k _ F H .id (.bl _)⟩
  · obtain ⟨p, hp, h⟩ := Option.map_eq_some_iff.mp h
    obtain ⟨rfl, rfl⟩ := strs_of hp
    cases h
    cases rx; cases ry
    refine .inr ⟨rfl, ?_⟩
    rw [dec_v]
    exact k _ F H .id (.bl _)
theorem rl_ne : RL2 K (fun x y H Q => rNeD K x y H Q ∨ rNe x y H Q) opNe := by
  intro F H x y a b z Q e _ rx ry h k
  unfold opNe at h
  split at h
  · rename_i hs
    cases h
    rw [Bool.and_eq_true] at hs
    exact .inl ⟨a, b, rx.dp e (SeqAt.canLay_of_shaped hs.1), ry.dp e (SeqAt.canLay_of_shaped hs.2), hs.1, hs.2, k _ F H .id (.bl _)⟩
  · obtain ⟨p, hp, h⟩ := Option.map_eq_some_iff.mp h
    obtain ⟨rfl, rfl⟩ := strs_of hp
    cases h
    cases rx; cases ry
    refine .inr ⟨rfl, ?_⟩
    rw [dec_v]
    exact k _ F H .id (.bl _)
theorem isN_of {F : Hp} {x : V} {a : PyData} (r : Rp K F x a) : decide (x = .non) = isN a := by
  cases r <;> rfl
abbrev rIsNone : R2 := fun x y H Q => y = .non ∧ Q (.bl (decide (x = .non))) H
abbrev rNotNone : R2 := fun x y H Q => y = .non ∧ Q (.bl (!decide (x = .non))) H
theorem rl_isN : RL2 K rIsNone opIsN2 := by
  intro F H x y a b z Q e _ rx ry h k
  unfold opIsN2 at h
  split at h
  · cases ry; cases h
    refine ⟨rfl, ?_⟩
    rw [isN_of rx]
    exact k _ F H .id (.bl _)
  · cases h
theorem rl_notN : RL2 K rNotNone opNotN2 := by
  intro F H x y a b z Q e _ rx ry h k
  unfold opNotN2 at h
  split at h
  · cases ry; cases h
    refine ⟨rfl, ?_⟩
    rw [isN_of rx]
    exact k _ F H .id (.bl _)
  · cases h
theorem rl_neg : RL1 K (rU fun i => V.int (-i)) opNeg := by
  intro F H x a z Q e _ rx h k
  unfold opNeg at h
  split at h
  · cases rx; cases h
    exact ⟨_, rfl, k _ F H .id (.int _)⟩
  · cases h
theorem atI_rpA {F : Hp} {vs : List V} {ds : List PyData} {i : Int} {d : PyData} (r : RpA K F vs ds) (h : DL.atI ds i = some d) : ∃ v, L2.atI vs i = some v ∧ Rp K F v d := by
  unfold DL.atI at h
  unfold L2.atI
  rw [r.length]
  show ∃ v, ((DL.ixN ds.length i).bind fun j => vs[j]?) = some v ∧ _
  cases e : DL.ixN ds.length i with
  | none => rw [e] at h; cases h
  | some j => rw [e] at h; exact r.get h
theorem rl_ix : RL2 K (rIx K) opIx := by
  intro F H x y a b z Q e _ rx ry h k
  unfold opIx at h
  split at h
  · cases ry
    cases rx with
    | lst h1 r1 =>
      obtain ⟨v, e1, r⟩ := atI_rpA r1 h
      exact .inl ⟨_, _, _, v, rfl, rfl, .inl (.inl (e _ _ h1)), e1, k v F H .id r⟩
  · cases ry
    cases rx with
    | tup h1 r1 =>
      obtain ⟨v, e1, r⟩ := atI_rpA r1 h
      exact .inr (.inl ⟨_, _, _, v, rfl, rfl, same_t e h1, e1, k v F H .id r⟩)
  · cases ry; cases rx
    split at h
    · rename_i z' i' hl
      cases e1 : DL.atI z'.cps.toList i' with
      | none => rw [e1] at h; cases h
      | some c =>
        rw [e1] at h
        cases h
        exact .inr (.inr ⟨_, _, c, rfl, rfl, line_of hl, e1, k _ F H .id (.str _)⟩)
    · cases h
  · cases h
theorem eqV_rp {F : Hp} {x y : V} {a b : PyData} (rx : Rp K F x a) (ry : Rp K F y b) (ha : flatD a = true) (hb : flatD b = true) : eqV x y = PyData.eqv a b := by
  cases rx <;> first | (cases ha; done) | (cases ry <;> first | (cases hb; done) | (simp only [eqV, PyData.eqv]))
theorem flatV_rp {F : Hp} {x : V} {a : PyData} (rx : Rp K F x a) (ha : flatD a = true) : flatV x = true := by
  cases rx <;> first | rfl | (cases ha; done)
theorem inV_rpA {F : Hp} {x : V} {a : PyData} (rx : Rp K F x a) (ha : flatD a = true) : ∀ {vs : List V} {ds : List PyData}, RpA K F vs ds → ds.all flatD = true → inV x vs = ds.any (fun d => PyData.eqv d a) ∧ vs.all flatV = true
  | _, _, .nil, _ => ⟨rfl, rfl⟩
  | v :: vs, d :: ds, .cons h r, hf => by
    rw [List.all_cons, Bool.and_eq_true] at hf
    obtain ⟨i1, i2⟩ := inV_rpA rx ha r hf.2
    refine ⟨?_, ?_⟩
    · show (eqV v x || inV x vs) = _
      rw [List.any_cons, eqV_rp h rx hf.1 ha, i1]
    · rw [List.all_cons, flatV_rp h hf.1, i2]; rfl
theorem rl_inG {neg : Bool} : RL2 K (rIn K neg) (opInS neg) := by
  intro F H x y a b z Q e _ rx ry h k
  unfold opInS at h
  cases hb : items b with
  | none => rw [hb] at h; cases h
  | some ds =>
    rw [hb] at h
    simp only [Option.bind_some] at h
    split at h
    · rename_i hs
      cases h
      rw [Bool.and_eq_true] at hs
      cases ry with
      | lst h1 r1 =>
        cases hb
        obtain ⟨i1, i2⟩ := inV_rpA rx hs.1 r1 hs.2
        refine ⟨_, _, rfl, .inl (.inl (.inl (e _ _ h1))), flatV_rp rx hs.1, i2, ?_⟩
        rw [i1]
        cases neg <;> exact k _ F H .id (.bl _)
      | tup h1 r1 =>
        cases hb
        obtain ⟨i1, i2⟩ := inV_rpA rx hs.1 r1 hs.2
        refine ⟨_, _, rfl, .inr (same_t e h1), flatV_rp rx hs.1, i2, ?_⟩
        rw [i1]
        cases neg <;> exact k _ F H .id (.bl _)
      | _ => cases hb
    · cases h
abbrev rInX (K : PySem.W.Frag) : R2 := fun x y H Q => rIn K false x y H Q ∨ (∃ (c : Nat) (z : Str), x = .str ⟨#[c]⟩ ∧ y = .str z ∧ Q (.bl (decide (c ∈ z.cps.toList))) H)
theorem or_in : OpR X (compareOp .In) (rInX X.K) := opR_or op_in_seq op_in_sign
theorem rl_in : RL2 K (rInX K) opIn := by
  intro F H x y a b z Q e f rx ry h k
  unfold opIn at h
  split at h
  · cases rx; cases ry
    rename_i w1 w2
    cases hc : sign? w1 with
    | none => rw [hc] at h; cases h
    | some c =>
      rw [hc] at h
      cases h
      exact .inr ⟨c, w2, by rw [sign_of hc], rfl, k _ F H .id (.bl _)⟩
  · exact .inl (rl_inG F H x y a b z Q e f rx ry h k)
end
end DL
namespace DL
open PySem PySem.Spec PyProof.Rows L2
section
variable {K : PySem.W.Frag} {X : Cx} {C : Ct}
theorem rpA1 {F : Hp} {xs : List V} {d : PyData} (r : RpA K F xs [d]) : ∃ x, xs = [x] ∧ Rp K F x d := by
  cases r with
  | cons h t => cases t; exact ⟨_, rfl, h⟩
theorem rpA2 {F : Hp} {xs : List V} {d e : PyData} (r : RpA K F xs [d, e]) : ∃ x y, xs = [x, y] ∧ Rp K F x d ∧ Rp K F y e := by
  cases r with
  | cons h t => obtain ⟨y, rfl, g⟩ := rpA1 t; exact ⟨_, y, rfl, h, g⟩
abbrev rLenX (K : PySem.W.Frag) : List V → Hp → VK → Prop := fun xs H Q => (∃ p ys, xs = [V.ref p] ∧ (SqL K H p ys ∨ SqT K H p ys) ∧ Q (.int ys.length) H) ∨ (∃ z, xs = [V.str z] ∧ z.length ≤ sizeLine ∧ Q (.int z.length) H)
theorem cr_len : CallR X (.builtin "len") (rLenX X.K) := callR_or call_len_seq call_len_str
theorem rc_len : RLC K (rLenX K) bLen := by
  intro F H xs as z Q e _ rx h k
  unfold bLen at h
  split at h
  · obtain ⟨x, rfl, r⟩ := rpA1 rx
    cases h
    cases r with
    | lst h1 r1 =>
      refine .inl ⟨_, _, rfl, .inl (.inl (.inl (e _ _ h1))), ?_⟩
      rw [r1.length]
      exact k _ F H .id (.int _)
  · obtain ⟨x, rfl, r⟩ := rpA1 rx
    cases h
    cases r with
    | tup h1 r1 =>
      refine .inl ⟨_, _, rfl, .inr (same_t e h1), ?_⟩
      rw [r1.length]
      exact k _ F H .id (.int _)
  · obtain ⟨x, rfl, r⟩ := rpA1 rx
    cases r
    split at h
    · rename_i hl
      cases h
      exact .inr ⟨_, rfl, line_of hl, k _ F H .id (.int _)⟩
    · cases h
  · cases h
theorem rc_abs : RLC K (fun xs H Q => ∃ i, xs = [V.int i] ∧ Q (.int (if i < 0 then -i else i)) H) bAbs := by
  intro F H xs as z Q e _ rx h k
  unfold bAbs at h
  split at h
  · obtain ⟨x, rfl, r⟩ := rpA1 rx
    cases h
    cases r
    exact ⟨_, rfl, k _ F H .id (.int _)⟩
  · cases h
theorem rc_max : RLC K (fun xs H Q => ∃ i j, xs = [V.int i, V.int j] ∧ Q (.int (if j > i then j else i)) H) bMax := by
  intro F H xs as z Q e _ rx h k
  unfold bMax at h
  split at h
  · obtain ⟨x, y, rfl, r1, r2⟩ := rpA2 rx
    cases h
    cases r1; cases r2
    exact ⟨_, _, rfl, k _ F H .id (.int _)⟩
  · cases h
theorem rc_min : RLC K (fun xs H Q => ∃ i j, xs = [V.int i, V.int j] ∧ Q (.int (if j < i then j else i)) H) bMin := by
  intro F H xs as z Q e _ rx h k
  unfold bMin at h
  split at h
  · obtain ⟨x, y, rfl, r1, r2⟩ := rpA2 rx
    cases h
    cases r1; cases r2
    exact ⟨_, _, rfl, k _ F H .id (.int _)⟩
  · cases h
theorem cr_int : CallR X (.type "int") (fun xs H Q => ∃ i, xs = [V.int i] ∧ Q (.int i) H) := by
  intro pins s σ H xs us Q I r h
  obtain ⟨i, rfl, q⟩ := h
  obtain ⟨u, rfl, t, rfl⟩ := vals1 r
  exact call_int_int ⟨.int i, H, I, ⟨_, rfl⟩, q⟩
theorem rc_int : RLC K (fun xs H Q => ∃ i, xs = [V.int i] ∧ Q (.int i) H) bInt := by
  intro F H xs as z Q e _ rx h k
  unfold bInt at h
  split at h
  · obtain ⟨x, rfl, r⟩ := rpA1 rx
    cases h
    cases r
    exact ⟨_, rfl, k _ F H .id (.int _)⟩
  · cases h
theorem rc_gcd : RLC K rGcd bGcd := by
  intro F H xs as z Q e _ rx h k
  unfold bGcd at h
  split at h
  · obtain ⟨x, y, rfl, r1, r2⟩ := rpA2 rx
    cases h
    cases r1; cases r2
    exact ⟨_, _, rfl, k _ F H .id (.int _)⟩
  · cases h
theorem bools_rp {F : Hp} : ∀ {ds : List PyData} {vs : List V} {bs : List Bool}, RpA K F vs ds → bools ds = some bs → vs = bs.map V.bl
  | [], _, _, .nil, h => by cases h; rfl
  | .bool b :: r, _, _, .cons h1 h2, h => by
    unfold bools at h
    cases e : bools r with
    | none => rw [e] at h; cases h
    | some bs' =>
      rw [e] at h
      cases h
      cases h1
      rw [bools_rp h2 e]; rfl
  | .none :: _, _, _, _, h => by cases h
  | .int _ :: _, _, _, _, h => by cases h
  | .str _ :: _, _, _, _, h => by cases h
  | .list _ :: _, _, _, _, h => by cases h
  | .tuple _ :: _, _, _, _, h => by cases h
  | .dict _ :: _, _, _, _, h => by cases h
theorem rc_all : RLC K (rAll K) bAll := by
  intro F H xs as z Q e _ rx h k
  unfold bAll at h
  split at h
  · obtain ⟨x, rfl, r⟩ := rpA1 rx
    rename_i ds
    cases eb : bools ds with
    | none => rw [eb] at h; cases h
    | some bs =>
      rw [eb] at h
      cases h
      cases r with
      | lst h1 r1 =>
        have := bools_rp r1 eb
        subst this
        exact ⟨_, bs, rfl, .inl (.inl (e _ _ h1)), k _ F H .id (.bl _)⟩
  · cases h
theorem pd_gcd {x : Str} {p pos : Pos} {e : Expr} {es : List Expr} {ma : MA} (hm : X.mg x = some (.builtin "math.gcd")) (ha : PA X (e :: es) (tDA X.K C ma)) (hg : Gl X x := by rfl) (hdb : (x == ("__debug__" : Str)) = false := by decide)
    (he : starEach (e :: es) X.env = (false, eval e X.env) :: starEach es X.env := by rfl) (hpl : (backTo pos (starEach es X.env)).any (·.1) = false := by rfl) : PE X (.Call (.Name x p) (e :: es) [] pos) (tD X.K C (mCallB bGcd ma)) :=
  pe_imp (pe_callBfun cr_gcd hg hm ha hdb he hpl) (td_cb rc_gcd)
def tyD : PyData → String
  | .none => "NoneType" | .bool _ => "bool" | .int _ => "int" | .str _ => "str" | .list _ => "list" | .tuple _ => "tuple" | .dict _ => "dict"
theorem kit_d (k : Ki) (d : PyData) (h : ∀ x y, d ≠ .dict ((.none, x) :: y)) : PySem.W.kitOne K (.type (tyD d)) (.type (kName k)) = some (isK k d) := by
  cases d with
  | dict es =>
    have e : isK k (.dict es) = isK k (.dict []) := by
      cases k <;> try rfl
      cases es with
      | nil => rfl
      | cons p r =>
        obtain ⟨a, b⟩ := p
        cases a <;> first | rfl | exact absurd rfl (h _ _)
    rw [e]
    cases k <;> first | exact kit_ty (r := true) (by simp only [tyD, kName]; decide +kernel) | exact kit_ty (r := false) (by simp only [tyD, kName]; decide +kernel)
  | _ => cases k <;> first | exact kit_ty (r := true) (by simp only [tyD, kName]; decide +kernel) | exact kit_ty (r := false) (by simp only [tyD, kName]; decide +kernel)
theorem rpD_key {F : Hp} {kvs : List (Key × V)} {es : List (PyData × PyData)} {x : PyData} {y : List (PyData × PyData)} (r : RpD K F kvs es) (z : es = (.none, x) :: y) : False := by
  cases r with
  | nil => cases z
  | @cons k' _ _ _ _ _ _ =>
    have := congrArg Prod.fst (List.cons.inj z).1
    cases k' <;> cases this
/-- a value's type, and what isinstance says of it -/
theorem ty_rp {F H : Hp} {x : V} {d : PyData} (e : Same F H) (r : Rp K F x d) : ∃ t, TyX K H x t ∧ ∀ k : Ki, PySem.W.kitOne K t (.type (kName k)) = some (isK k d) := by
  cases r with
  | non => exact ⟨_, .base .non, fun k => kit_d k .none (fun _ _ => nofun)⟩
  | bl b => exact ⟨_, .base (.bl b), fun k => kit_d k (.bool b) (fun _ _ => nofun)⟩
  | int i => exact ⟨_, .base (.int i), fun k => kit_d k (.int i) (fun _ _ => nofun)⟩
  | str z => exact ⟨_, .base (.str z), fun k => kit_d k (.str z) (fun _ _ => nofun)⟩
  | lst h _ => exact ⟨_, .base (.lst (e _ _ h)), fun k => kit_d k (.list _) (fun _ _ => nofun)⟩
  | tup h _ =>
    rcases h with (h | ⟨o, h⟩) | ⟨o, its, n, h, c, _⟩
    · exact ⟨_, .base (.tup (e _ _ h)), fun k => kit_d k (.tuple _) (fun _ _ => nofun)⟩
    · exact ⟨_, .fTuple (e _ _ h), fun k => kit_d k (.tuple _) (fun _ _ => nofun)⟩
    · exact ⟨_, .kTuple h c, fun k => kit_d k (.tuple _) (fun _ _ => nofun)⟩
  | dct h rd => exact ⟨_, .base (.dK (e _ _ h)), fun k => kit_d k (.dict _) (fun x y z => by
      have z := PyData.dict.inj z
      exact rpD_key rd z)⟩
  | ins h o _ => exact ⟨_, .base (.ins (e _ _ h) o.cl o.ha o.hn o.htk o.hm), fun k => (o.kit k).trans (by cases k <;> rfl)⟩
theorem pd_isi1 {p p2 pos : Pos} {e : Expr} {m : ME} {T : Str} (k : Ki) (hm : X.mg "isinstance" = none) (hT : X.mg T = none) (he : PE X e (tD X.K C m)) (hv : bootBuiltins T = some (.type (kName k)) := by decide +kernel)
    (hgI : Gl X "isinstance" := by rfl) (hgT : Gl X T := by rfl) (hn : T ≠ "__name__" := by decide) (hdb : (T == ("__debug__" : Str)) = false := by decide) (hpl : (backTo pos (starEach [.Name T p2] X.env)).any (·.1) = false := by rfl)
    (hs : starEach (e :: [.Name T p2]) X.env = (false, eval e X.env) :: starEach [.Name T p2] X.env := by rfl) :
    PE X (.Call (.Name "isinstance" p) [e, .Name T p2] [] pos) (tD X.K C (mOp1 (bIsi [k]) m)) :=
  pe_imp (pe_callB call_isi hgI hm (by decide +kernel) (pa_cons he (pa_cons (pe_bltn (v := .ty (kName k)) hgT hT hv rfl hn hdb) pa_nil) hs) (by decide) (by decide) hs hpl) (by
    rintro σ H Q ⟨F, sd, Qd, R, h, kk⟩
    refine ⟨F, sd, _, R, h, fun x H1 F1 a sd1 R1 S1 rx h1 => ?_⟩
    obtain ⟨z, ez, q⟩ := h1
    cases ez
    obtain ⟨t, t1, t2⟩ := ty_rp R1.ext rx
    refine ⟨x, .ty (kName k), t, .type (kName k), [k].any fun k => isK k a, rfl, .ty _, t1, ?_, kk (.bl _) H1 F1 _ sd1 R1 S1 (.bl _) q⟩
    rw [t2]
    show some (isK k a) = some (isK k a || false)
    rw [Bool.or_false])
theorem cut_rpA {F : Hp} {vs : List V} {ds : List PyData} (r : RpA K F vs ds) (lo hi : Option Int) : RpA K F (cutV vs lo hi) (cutL ds lo hi) := by
  have e : ∀ o n d, HT.sIx n d o = DL.sIx n d o := fun o n d => by cases o <;> rfl
  unfold cutV cutL
  rw [r.length, e, e]
  exact (r.drop _).take _
abbrev rSlX (K : PySem.W.Frag) : V → Option Int → Option Int → Hp → VK → Prop := fun x lo hi H Q => (rSlL K x lo hi H Q ∨ rSlA K x lo hi H Q) ∨ rSlS x lo hi H Q
theorem sl_any : SlR X (rSlX X.K) := slR_or (slR_or sl_list sl_tupA) sl_str
theorem whole_cut {α : Type} (xs : List α) (lo hi : Option Int) (h : DL.sIx xs.length 0 lo = 0 ∧ DL.sIx xs.length xs.length hi = xs.length) : cutL xs lo hi = xs := by
  unfold cutL
  rw [h.1, h.2]
  simp
theorem rl_sl : ∀ (F H : Hp) (x : V) (a z : PyData) (lo hi : Option Int) (Q : VK), Same F H → (∀ p, H p = none → F p = none) → Rp K F x a → opSl a lo hi = some z → (∀ v F' H', Al F H F' H' → Rp K F' v z → Q v H') → rSlX K x lo hi H Q := by
  intro F H x a z lo hi Q e f rx h k
  have es : ∀ o n d, HT.sIx n d o = DL.sIx n d o := fun o n d => by cases o <;> rfl
  unfold opSl at h
  split at h
  · cases h
    cases rx with
    | lst h1 r1 => exact .inl (.inl ⟨_, _, rfl, .inl (.inl (e _ _ h1)), fun p hp => k _ _ _ (.new hp) (.lst upd_same ((cut_rpA r1 lo hi).mono (same_new (f p hp))))⟩)
  · cases h
    cases rx with
    | @tup a' xs ds h1 r1 =>
      refine .inl (.inr ⟨_, _, rfl, same_t e h1, fun hw => ?_, fun _ p hp => k _ _ _ (.new hp) (.tup (.inl (.inl upd_same)) ((cut_rpA r1 lo hi).mono (same_new (f p hp))))⟩)
      rw [r1.length, es, es] at hw
      rw [whole_cut _ lo hi hw] at k
      exact k _ F H .id (.tup h1 r1)
  · split at h
    · rename_i z' hl
      cases h
      cases rx
      refine .inr ⟨_, rfl, line_of hl, ?_⟩
      have : cutS z' lo hi = ⟨(cutL z'.cps.toList lo hi).toArray⟩ := by
        unfold cutS cutL
        rw [es, es]
        have : z'.cps.toList.length = z'.length := by simp [Str.length]
        rw [this]
      rw [this]
      exact k _ F H .id (.str _)
    · cases h
  · cases h
theorem hpart {me : ME} : ∀ σ H Q F sd Qd, Rs K C F H σ sd → mPart me sd Qd → (∀ o H' F' sd', Rs K C F' H' σ sd' → Stp σ sd F H F' H' sd' → Qd o sd' → Q o H') → tPart (tD K C me) σ H Q := by
  intro σ H Q F sd Qd R h k
  refine ⟨F, sd, _, R, h, fun v H' F' d sd' R' S r q => ?_⟩
  obtain ⟨i, rfl, q⟩ := q
  cases r
  exact ⟨i, rfl, k (some i) H' F' sd' R' S q⟩
theorem hnopart : ∀ σ H Q F sd Qd, Rs K C F H σ sd → mNoPart sd Qd → (∀ o H' F' sd', Rs K C F' H' σ sd' → Stp σ sd F H F' H' sd' → Qd o sd' → Q o H') → tNoPart σ H Q :=
  fun σ H Q F sd Qd R h k => k none H F sd R .refl h
theorem pd_slA {e lo : Expr} {p2 pos : Pos} {me ml : ME} (he : PE X e (tD X.K C me)) (hl : PE X lo (tD X.K C ml)) : PE X (.Subscript e (.Slice (some lo) none none p2) pos) (tD X.K C (mSl opSl me (mPart ml) mNoPart)) :=
  pd_slice rl_sl hpart hnopart (pe_slice sl_any he (po_some hl) po_none)
theorem pd_slB {e hi : Expr} {p2 pos : Pos} {me mh : ME} (he : PE X e (tD X.K C me)) (hh : PE X hi (tD X.K C mh)) : PE X (.Subscript e (.Slice none (some hi) none p2) pos) (tD X.K C (mSl opSl me mNoPart (mPart mh))) :=
  pd_slice rl_sl hnopart hpart (pe_slice sl_any he po_none (po_some hh))
end
end DL
namespace DL
open PySem PySem.Spec PyProof.Rows L2
section
variable {K : PySem.W.Frag} {X : Cx} {C : Ct}
theorem pdg_name {i : Nat} {x : Str} {pos : Pos} (hN : X.N.Nodup) (hi : X.N[i]? = some x) (hx : Loc X.env.scope x) (hf : X.fn x = true ∨ X.env.scope.names.lookup x = some .local := by first | exact .inl rfl | exact .inr rfl) :
    PG X (.Name x pos) (tDG X.K C (mgName i)) := pg_imp (pg_name hN hi hx hf) (by
  rintro v σ H Q ⟨F, sd, d, Qd, R, r, h, k⟩
  exact k _ _ (R.setva r) h)
theorem pdgs_nil : PGs X [] (tDGs X.K C mgNil) := pgs_imp pgs_nil (by
  rintro v σ H Q ⟨F, sd, ds, Qd, R, r, h, k⟩
  obtain ⟨e, h⟩ := h
  subst e
  cases r
  exact ⟨rfl, k _ _ R h⟩)
theorem pdgs_cons {e : Expr} {es : List Expr} {g : MG} {gs : MGs} (h1 : PG X e (tDG X.K C g)) (h2 : PGs X es (tDGs X.K C gs)) (t : PGs X (e :: es) (gCons (tDG X.K C g) (tDGs X.K C gs))) : PGs X (e :: es) (tDGs X.K C (mgCons g gs)) := pgs_imp t (by
  rintro v σ H Q ⟨F, sd, ds, Qd, R, r, h, k⟩
  obtain ⟨d, rest, e, h⟩ := h
  subst e
  cases r with
  | cons r1 r2 => exact ⟨_, _, rfl, F, sd, d, _, R, r1, h, fun σ' sd' R' q => ⟨F, sd', rest, Qd, R', r2, q, k⟩⟩)
theorem td_tup {n : Nat} {gs : MGs} : ∀ v σ H Q, tDG K C (mgTup n gs) v σ H Q → (gTup K n (tDGs K C gs) v σ H Q ∨ gLst K n (tDGs K C gs) v σ H Q) := by
  rintro v σ H Q ⟨F, sd, d, Qd, R, r, h, k⟩
  obtain ⟨ds, hd, hl, h⟩ := h
  cases r with
  | tup h1 r1 =>
    cases hd
    exact .inl ⟨_, _, rfl, same_t R.ext h1, by rw [r1.length]; exact hl, F, sd, _, Qd, R, r1, h, k⟩
  | lst h1 r1 =>
    cases hd
    exact .inr ⟨_, _, rfl, .inl (.inl (R.ext _ _ h1)), by rw [r1.length]; exact hl, F, sd, _, Qd, R, r1, h, k⟩
  | _ => cases hd
theorem pdg_tup {es : List Expr} {kk : Nat} {pos : Pos} {gs : MGs} {n : Nat} (hc : X.calm = true) (h : PGs X es (tDGs X.K C gs)) (hn : (assignEach es X.env).length = n := by rfl) (hst : (assignEach es X.env).findIdx? (·.1) = none := by rfl) :
    PG X (.Tuple es kk pos) (tDG X.K C (mgTup n gs)) := pg_imp (pg_or (pg_tup hc h hn hst) (pg_lst hc h hn hst)) td_tup
theorem rpA_at {F : Hp} {vs : List V} {ds : List PyData} {i : Nat} {x : V} (r : RpA K F vs ds) (h : vs[i]? = some x) : ∃ d, ds[i]? = some d ∧ Rp K F x d := by
  have hl := (List.getElem?_eq_some_iff.mp h).1
  rw [r.length] at hl
  obtain ⟨v, e, q⟩ := r.get (i := i) (d := ds[i]) (by simp [hl])
  rw [h] at e; cases e
  exact ⟨_, by simp [hl], q⟩
theorem wk_list {a : Addr} {xs : List V} {F : Hp} {ds : List PyData} (h : SqL K F a xs) (r : RpA K F xs ds) : Wk K (Itl K a) F ds := by
  refine ⟨_, _, r.length ▸ walk_list, fun H e => e.seq h, fun i H x H' F' hi e1 e2 y => ?_⟩
  obtain ⟨rfl, y⟩ := y
  obtain ⟨d, hd, q⟩ := rpA_at r y
  exact ⟨F', d, .id, hd, q.mono e1⟩
theorem wk_tup {a : Addr} {xs : List V} {F : Hp} {ds : List PyData} (h : SqT K F a xs) (r : RpA K F xs ds) : Wk K (Itt K a) F ds := by
  refine ⟨_, _, r.length ▸ walk_tup, fun H e => same_t e h, fun i H x H' F' hi e1 e2 y => ?_⟩
  obtain ⟨rfl, y⟩ := y
  obtain ⟨d, hd, q⟩ := rpA_at r y
  exact ⟨F', d, .id, hd, q.mono e1⟩
/-- over a value that is a list or a tuple: the reading chooses when the value is there -/
def iSeq (K : PySem.W.Frag) (te : TE) : TI := fun σ H R => te σ H fun x H1 => ∃ a, x = .ref a ∧ (((∃ xs, SqL K H1 a xs) ∧ R (Itl K a) H1) ∨ ((∃ xs, SqT K H1 a xs) ∧ R (Itt K a) H1))
theorem pi_seq {tg l : Expr} {tl : TE} (hl : PE X l tl) : PI X tg l (iSeq X.K tl) := by
  refine ⟨fun pins s σ H R I h => thn (hl.run pins s σ H _ I h) fun v s1 hv => ?_⟩
  obtain ⟨x, H1, I1, r1, a, rfl, hq⟩ := hv
  cases r1
  have fresh : FpOk X pins H1 s1.heap.objs.size := I1.fpOk (Nat.le_refl _) (I1.hok.fresh (Nat.le_refl _))
  rcases hq with ⟨⟨xs, hq⟩, q⟩ | ⟨⟨xs, hq⟩, q⟩
  · obtain ⟨its, rv, p, hz⟩ := I1.list hq
    refine wpAny_pyIter_list p.isList ⟨_, [s1.heap.objs.size], _, _, H1, rfl, I1.kept (t' := s1.toks) fun _ _ e => Heap.get?_push_of_some _ e, turn_list a _, ?_, fun b hb => ?_, q⟩
    · exact ⟨_, Heap.get?_push_size _ rfl, rfl, rfl⟩
    · rw [List.mem_singleton.mp hb]; exact fresh
  · obtain ⟨its, rv, p, hz⟩ := I1.tuple hq
    refine wpAny_pyIter_tuple (show s1.heap.IsTuple a its.toArray from p) ⟨_, [s1.heap.objs.size], _, _, H1, rfl, I1.kept (t' := s1.toks) fun _ _ e => Heap.get?_push_of_some _ e, turn_tuple a _, ?_, fun b hb => ?_, q⟩
    · exact ⟨_, Heap.get?_push_size _ rfl, rfl, rfl⟩
    · rw [List.mem_singleton.mp hb]; exact fresh
theorem pdi_seq {tg e : Expr} {m : ME} (h : PE X e (tD X.K C m)) : PI X tg e (tDI X.K C (miSeq m)) := pi_imp (pi_seq h) (by
  rintro σ H R0 ⟨F, sd, Qd, R, h, k⟩
  refine ⟨F, sd, _, R, h, fun x H1 F1 a sd1 R1 S1 rx h1 => ?_⟩
  obtain ⟨ds, hd, q⟩ := h1
  cases rx with
  | tup h2 r2 => cases hd; exact ⟨_, rfl, .inr ⟨⟨_, same_t R1.ext h2⟩, k _ H1 F1 _ sd1 R1 S1 (wk_tup h2 r2) q⟩⟩
  | lst h2 r2 => cases hd; exact ⟨_, rfl, .inl ⟨⟨_, .inl (.inl (R1.ext _ _ h2))⟩, k _ H1 F1 _ sd1 R1 S1 (wk_list (.inl (.inl h2)) r2) q⟩⟩
  | _ => cases hd)
theorem wk_range {F : Hp} {lo : Int} {n : Nat} : Wk K (Itr lo n) F (rangeL lo n) := by
  have hl : (rangeL lo n).length = n := by simp [rangeL]
  refine ⟨fun _ => True, YFn fun i => .int (lo + i), by rw [hl]; exact walk_range, fun _ _ => trivial, fun i H x H' F' hi e1 e2 y => ?_⟩
  obtain ⟨rfl, rfl⟩ := y
  refine ⟨F', _, .id, ?_, .int _⟩
  unfold rangeL
  rw [List.getElem?_map, List.getElem?_range (by rw [hl] at hi; exact hi)]
  rfl
theorem pdi_range1 {tg a : Expr} {p pos : Pos} {m : MA} (hm : X.mg "range" = none) (h : PA X [a] (tDA X.K C m)) (hg : Gl X "range" := by rfl) (t : PI X tg (.Call (.Name "range" p) [a] [] pos) (iRng1 (tDA X.K C m))) : PI X tg (.Call (.Name "range" p) [a] [] pos) (tDI X.K C (miRng1 m)) := pi_imp t (by
  rintro σ H R0 ⟨F, sd, Qd, R, h, k⟩
  refine ⟨F, sd, _, R, h, fun vs H1 F1 ds sd1 R1 S1 rs q => ?_⟩
  obtain ⟨j, rfl, l1, l2, q⟩ := q
  obtain ⟨x, rfl, r⟩ := rpA1 rs
  cases r
  exact ⟨j, rfl, l1, l2, k _ H1 F1 _ sd1 R1 S1 wk_range q⟩)
theorem enumL_get : ∀ (ds : List PyData) (k i : Nat), (enumL k ds)[i]? = ds[i]?.map fun d => .tuple [.int ((k + i : Nat) : Int), d]
  | [], _, _ => rfl
  | d :: ds, k, 0 => rfl
  | d :: ds, k, i + 1 => by
    show (enumL (k + 1) ds)[i]? = _
    rw [enumL_get ds (k + 1) i, show k + 1 + i = k + (i + 1) by omega]
    rfl
theorem pair_al {F H H' : Hp} {T : Addr} {x y : V} {d e : PyData} (hT : H T = none) (e2 : Same F H) (hH : H' = upd H T (.tup [x, y])) (r1 : Rp K F x d) (r2 : Rp K F y e) : ∃ F', Al F H F' H' ∧ Rp K F' (.ref T) (.tuple [d, e]) := by
  subst hH
  have s := same_new (o := .tup [x, y]) (free_of e2 hT)
  exact ⟨_, .new hT, .tup (.inl (.inl upd_same)) (.cons (r1.mono s) (.cons (r2.mono s) .nil))⟩
theorem pds_nil : PSs X [] (tDS X.K C mNext) := pss_imp pss_nil (by
  rintro D σ H ⟨F, sd, Dd, R, E, h⟩
  exact E.nx F H σ sd (Same.refl _) R h)
theorem pds_cons {st : Stmt} {rest : List Stmt} {a b : MS} (h1 : PS X st (tDS X.K C a)) (h2 : PSs X rest (tDS X.K C b)) : PSs X (st :: rest) (tDS X.K C (mSeq a b)) := pss_imp (pss_cons h1 h2) (by
  rintro D σ H ⟨F, sd, Dd, R, E, h⟩
  exact ⟨F, sd, { Dd with nx := b Dd }, R, ⟨fun F1 H1 σ1 sd1 e R1 q => ⟨F1, sd1, Dd, R1, E.mono e, q⟩, E.rt, E.bk, E.ct⟩, h⟩)
theorem pds_one {st : Stmt} {a : MS} (h : PS X st (tDS X.K C a)) : PSs X [st] (tDS X.K C a) := pss_one h
theorem pds_break {pos : Pos} : PS X (.Break pos) (tDS X.K C mBreak) := ps_imp ps_break (by
  rintro D σ H ⟨F, sd, Dd, R, E, h⟩
  exact E.bk F H σ sd (Same.refl _) R h)
theorem pds_cont {pos : Pos} : PS X (.Continue pos) (tDS X.K C mCont) := ps_imp ps_continue (by
  rintro D σ H ⟨F, sd, Dd, R, E, h⟩
  exact E.ct F H σ sd (Same.refl _) R h)
theorem td_asg {me : ME} {mg : MG} : ∀ D σ H, tDS K C (mAsg me mg) D σ H → tAsg (tD K C me) (tDG K C mg) D σ H := by
  rintro D σ H ⟨F, sd, Dd, R, E, h⟩
  exact ⟨F, sd, _, R, h, fun v H1 F1 d sd1 R1 S1 r q => ⟨F1, sd1, d, Dd.nx, R1, r, q, fun σ2 sd2 R2 q2 => E.nx F1 H1 σ2 sd2 S1.fr R2 q2⟩⟩
theorem pds_asg {tg e : Expr} {pos : Pos} {me : ME} {mg : MG} (t : PS X (.Assign [tg] e pos) (tAsg (tD X.K C me) (tDG X.K C mg))) : PS X (.Assign [tg] e pos) (tDS X.K C (mAsg me mg)) := ps_imp t td_asg
theorem td_asgR {i : Nat} {mr : MR} : ∀ D σ H, tDS K C (mAsgR i mr) D σ H → tAsg (tDR K C mr) (gName i) D σ H := by
  rintro D σ H ⟨F, sd, Dd, R, E, h⟩
  exact ⟨F, sd, _, R, h, fun v H1 F1 r sd1 R1 S1 rv fre new q => E.nx F1 H1 _ _ S1.fr (R1.setr rv fre) q⟩
theorem pds_asgR {tg e : Expr} {pos : Pos} {i : Nat} {mr : MR} (t : PS X (.Assign [tg] e pos) (tAsg (tDR X.K C mr) (gName i))) : PS X (.Assign [tg] e pos) (tDS X.K C (mAsgR i mr)) := ps_imp t td_asgR
theorem pds_if {c : Expr} {a b : List Stmt} {t : MT} {ma mb : MS} {pos : Pos} (hc : PT X c (tDT X.K C t)) (ha : PSs X a (tDS X.K C ma)) (hb : PSs X b (tDS X.K C mb)) : PS X (.If c a b pos) (tDS X.K C (mIf t ma mb)) := ps_imp (ps_if hc ha hb) (by
  rintro D σ H ⟨F, sd, Dd, R, E, h⟩
  refine ⟨F, sd, _, R, h, fun b H1 F1 sd1 R1 S1 q => ?_⟩
  cases b with
  | true => exact ⟨F1, sd1, Dd, R1, E.mono S1.fr, q⟩
  | false => exact ⟨F1, sd1, Dd, R1, E.mono S1.fr, q⟩)
theorem pds_ret {e : Expr} {mr : MR} {pos : Pos} (he : PE X e (tDR X.K C mr)) : PS X (.Return (some e) pos) (tDS X.K C (mRet mr)) := ps_imp (ps_ret he) (by
  rintro D σ H ⟨F, sd, Dd, R, E, h⟩
  exact ⟨F, sd, _, R, h, fun v H1 F1 r sd1 R1 S1 rv fre new q => E.rt F1 H1 σ sd1 v r S1.fr R1 rv (fun o q' e => R.still q' (new o q' e)) q⟩)
theorem pds_drop {e : Expr} {me : ME} {pos : Pos} (he : PE X e (tD X.K C me)) (hs : swapsWith e none pos.line X.env = pure false := by rfl) : PS X (.Expr e pos) (tDS X.K C (mDrop me)) := ps_imp (ps_expr he hs) (by
  rintro D σ H ⟨F, sd, Dd, R, E, h⟩
  exact ⟨F, sd, _, R, h, fun v H1 F1 d sd1 R1 S1 r q => E.nx F1 H1 σ sd1 S1.fr R1 q⟩)
theorem Rs.setOwn {F H : Hp} {σ : L2.St} {sd : DSt} (R : Rs K C F H σ sd) {i : Nat} {ds ds' : List PyData} {p : Addr} {vs' : List V} (h : sget sd i = .own ds) (e : gv σ i = some (.ref p)) (r : RpA K F vs' ds') : Rs K C F (upd H p (.lst vs')) σ (sset sd i (.own ds')) := by
  have hi := R.slot i
  rw [h] at hi
  obtain ⟨p', vs, e1, e2, e3, e4, r0⟩ := hi
  rw [e] at e1; cases e1
  have hl : i < sd.length := R.lt_of_own (by rw [h]; intro z; cases z)
  have other : ∀ j q, j ≠ i → isOwn (sget sd j) = true → gv σ j = some (.ref q) → q ≠ p := fun j q hj ho eq z => by
    subst z
    exact R.sep i j q (Ne.symm hj) (by rw [h]; rfl) ho e eq
  refine ⟨by rw [sset_length]; exact R.len, R.grow, fun a x q => ?_, R.new, fun a x q n => ?_, fun a q => ?_, fun j => ?_, fun j k q hjk o1 o2 z1 => ?_⟩
  · have : a ≠ p := fun z => by subst z; rw [e3] at q; cases q
    rw [upd_ne this]; exact R.ext a x q
  · have : a ≠ p := fun z => by subst z; rw [e4] at q; cases q
    rw [upd_ne this]; exact R.keep a x q n
  · by_cases z : a = p
    · subst z; exact e4
    · rw [upd_ne z] at q; exact R.still a q
  · by_cases hj : j = i
    · subst hj; rw [sget_sset hl]; exact ⟨p, vs', e, upd_same, e3, e4, r⟩
    · rw [sget_sset_ne hj]
      exact (R.slot j).grow (Same.refl _) fun q x ho eq eh en => ⟨by rw [upd_ne (other j q hj ho eq)]; exact eh, en⟩
  · have own_of : ∀ m, isOwn (sget (sset sd i (.own ds')) m) = true → isOwn (sget sd m) = true := fun m o => by
      by_cases hm : m = i
      · subst hm; rw [h]; rfl
      · rw [sget_sset_ne hm] at o; exact o
    exact R.sep j k q hjk (own_of j o1) (own_of k o2) z1
/-- x.append(e), x a slot that owns its list -/
theorem pds_app {i : Nat} {x : Str} {p apos cpos pos : Pos} {e : Expr} {me : ME}
    (t : PS X (.Expr (.Call (.Attribute (.Name x p) "append" apos) [e] [] cpos) pos) (tDrop (tBM X.K "list" rAppend (tVar i) (tCons (tD X.K C me) tNil)))) :
    PS X (.Expr (.Call (.Attribute (.Name x p) "append" apos) [e] [] cpos) pos) (tDS X.K C (mApp i me)) := ps_imp t (by
  rintro D σ H ⟨F, sd, Dd, R, E, ⟨ds0, h0⟩, h⟩
  have hi := R.slot i
  rw [h0] at hi
  obtain ⟨q, vs, e1, e2, e3, e4, r⟩ := hi
  refine ⟨.ref q, gv_some.mp e1, .inl ⟨rfl, vs, .inl (.inl e2)⟩, F, sd, _, R, h, fun v H1 F1 d sd1 R1 S1 rv hh => ?_⟩
  obtain ⟨ds, h1, hlen, hnx⟩ := hh
  have hi1 := R1.slot i
  rw [h1] at hi1
  obtain ⟨q', vs1, z1, z2, z3, z4, r1⟩ := hi1
  rw [e1] at z1; cases z1
  refine ⟨q, vs1, v, rfl, rfl, z2, by rw [r1.length]; exact line_lt hlen, ?_⟩
  exact E.nx F1 _ σ _ S1.fr (R1.setOwn h1 e1 (r1.snoc rv)) hnx)
theorem drop_get {α : Type} {l : List α} {i : Nat} {d : α} (h : l[i]? = some d) : l.drop i = d :: l.drop (i + 1) := by
  have hi := (List.getElem?_eq_some_iff.mp h).1
  rw [List.drop_eq_getElem_cons hi, (List.getElem?_eq_some_iff.mp h).2]
theorem td_for {mi : MI} {mg : MG} {body : MS} : ∀ D σ H, tDS K C (mFor mi mg body) D σ H → tFor (tDI K C mi) (tDG K C mg) (tDS K C body) D σ H := by
  rintro D σ H ⟨F, sd, Dd, R, E, h⟩
  refine ⟨F, sd, _, R, h, fun J H1 F1 ds sd1 R1 S1 W h1 => ?_⟩
  obtain ⟨G, Y, w, hG, hY⟩ := W.ex
  refine for_it w (fun i σ' H' => ∃ F' sd', Rs K C F' H' σ' sd' ∧ Same F1 F' ∧ forL mg body Dd (ds.drop i) sd') ⟨F1, sd1, R1, Same.refl _, h1⟩ (fun i σ' H' _ ⟨F', sd', R', e, _⟩ => hG H' (e.trans R'.ext)) (fun i x σ' H' H'' hi ⟨F', sd', R', e, q⟩ y => ?_) (fun σ' H' ⟨F', sd', R', e, q⟩ => ?_)
  · obtain ⟨F2, d, al, hd, rd⟩ := hY i H' x H'' F' hi e R'.ext y
    rw [drop_get hd] at q
    have s2 : Same F1 F2 := e.trans (Stp.al R' al).fr
    refine ⟨F2, sd', d, _, R'.al al, rd, q, fun σ2 sd2 R2 q2 => ⟨F2, sd2, _, R2, ?_, q2⟩⟩
    exact ⟨fun F3 H3 σ3 sd3 e3 R3 q3 => ⟨F3, sd3, R3, s2.trans e3, q3⟩, (E.mono (S1.fr.trans s2)).rt, fun F3 H3 σ3 sd3 e3 R3 q3 => E.nx F3 H3 σ3 sd3 ((S1.fr.trans s2).trans e3) R3 q3, fun F3 H3 σ3 sd3 e3 R3 q3 => ⟨F3, sd3, R3, s2.trans e3, q3⟩⟩
  · rw [List.drop_length] at q
    exact E.nx F' H' σ' sd' (S1.fr.trans e) R' q
theorem pds_for {tg iter : Expr} {body : List Stmt} {pos : Pos} {mi : MI} {mg : MG} {mb : MS} (t : PS X (.For tg iter body [] pos) (tFor (tDI X.K C mi) (tDG X.K C mg) (tDS X.K C mb))) : PS X (.For tg iter body [] pos) (tDS X.K C (mFor mi mg mb)) := ps_imp t td_for
theorem td_while {mt : MT} {body : MS} : ∀ D σ H, tDS K C (mWhile mt body) D σ H → tWhile (tDT K C mt) (tDS K C body) D σ H := by
  rintro D σ H ⟨F, sd, Dd, R, E, n, h⟩
  refine ⟨fun m σ' H' => ∃ F' sd', Rs K C F' H' σ' sd' ∧ Same F F' ∧ whileN mt body Dd m sd', ⟨n, F, sd, R, Same.refl _, h⟩, fun m σ' H' hw => ?_⟩
  obtain ⟨F', sd', R', e, q⟩ := hw
  cases m with
  | zero => exact q.elim
  | succ m =>
    refine ⟨F', sd', _, R', q, fun b H1 F1 sd1 R1 S1 q1 => ?_⟩
    have s1 := e.trans S1.fr
    cases b with
    | true =>
      refine ⟨fun σ2 H2 => ∃ F2 sd2, Rs K C F2 H2 σ2 sd2 ∧ Same F F2 ∧ whileN mt body Dd m sd2, fun σ2 H2 z => ⟨m, Nat.lt_succ_self m, z⟩, F1, sd1, _, R1, ?_, q1⟩
      exact ⟨fun F3 H3 σ3 sd3 e3 R3 q3 => ⟨F3, sd3, R3, s1.trans e3, q3⟩, (E.mono s1).rt, fun F3 H3 σ3 sd3 e3 R3 q3 => E.nx F3 H3 σ3 sd3 (s1.trans e3) R3 q3, fun F3 H3 σ3 sd3 e3 R3 q3 => ⟨F3, sd3, R3, s1.trans e3, q3⟩⟩
    | false => exact E.nx F1 H1 σ' sd1 s1 R1 q1
theorem pds_while {c : Expr} {body : List Stmt} {pos : Pos} {mt : MT} {mb : MS} (t : PS X (.While c body [] pos) (tWhile (tDT X.K C mt) (tDS X.K C mb))) : PS X (.While c body [] pos) (tDS X.K C (mWhile mt mb)) := ps_imp t td_while
end
end DL
namespace DL
open PySem PySem.Spec PyProof.Rows L2
section
variable {K : PySem.W.Frag} {X : Cx} {C : Ct}
theorem rs_wipe {F H : Hp} {σ : L2.St} {sd : DSt} (R : Rs K C F H σ sd) : ∀ vs : List Nat, Rs K C F H (wipe σ vs) (swipe sd vs)
  | [] => R
  | v :: vs => (rs_wipe R vs).setno
theorem sget_swipe : ∀ {sd : DSt} {vs : List Nat} {i : Nat}, i ∉ vs → sget (swipe sd vs) i = sget sd i
  | _, [], _, _ => rfl
  | sd, v :: vs, i, h => by
    show sget (sset (swipe sd vs) v .no) i = _
    rw [sget_sset_ne (fun z => h (by simp [z]))]
    exact sget_swipe fun z => h (by simp [z])
theorem sget_sback : ∀ {s0 sd : DSt} {vs : List Nat} {i : Nat}, i ∉ vs → sget (sback s0 sd vs) i = sget sd i
  | _, _, [], _, _ => rfl
  | s0, sd, v :: vs, i, h => by
    show sget (sset (sback s0 sd vs) v _) i = _
    rw [sget_sset_ne (fun z => h (by simp [z]))]
    exact sget_sback fun z => h (by simp [z])
theorem sback_length : ∀ {s0 sd : DSt} {vs : List Nat}, (sback s0 sd vs).length = sd.length
  | _, _, [] => rfl
  | s0, sd, v :: vs => by show (sset (sback s0 sd vs) v _).length = _; rw [sset_length]; exact sback_length
theorem swipe_length : ∀ {sd : DSt} {vs : List Nat}, (swipe sd vs).length = sd.length
  | _, [] => rfl
  | sd, v :: vs => by show (sset (swipe sd vs) v _).length = _; rw [sset_length]; exact swipe_length
theorem gv_wipe : ∀ {σ : L2.St} {vs : List Nat} {i : Nat}, i ∉ vs → gv (wipe σ vs) i = gv σ i
  | _, [], _, _ => rfl
  | σ, v :: vs, i, h => by
    show gv ((wipe σ vs).set v none) i = _
    rw [gv_set_ne (fun z => h (by simp [z]))]
    exact gv_wipe fun z => h (by simp [z])
theorem sget_sback_in : ∀ {s0 sd : DSt} {vs : List Nat} {i : Nat}, i ∈ vs → sd.length = s0.length → sget (sback s0 sd vs) i = sget s0 i
  | s0, sd, v :: vs, i, h, hl => by
    show sget (sset (sback s0 sd vs) v (sget s0 v)) i = _
    by_cases hv : i = v
    · subst hv
      by_cases hi : i < s0.length
      · rw [sget_sset (by rw [sback_length, hl]; exact hi)]
      · rw [sget_out (by rw [sset_length, sback_length, hl]; omega), sget_out (by omega)]
    · rw [sget_sset_ne hv]
      exact sget_sback_in (by simpa [hv] using h) hl
theorem unOwn_of {s : DSt} {vs : List Nat} (h : unOwn s vs = true) {j : Nat} (hj : j ∈ vs) : isOwn (sget s j) = false := by
  unfold unOwn at h
  have := List.all_eq_true.mp h j hj
  cases e : sget s j <;> rw [e] at this <;> first | rfl | cases this
/-- targets within a comprehension: only its own slots change -/
def tDGv (K : PySem.W.Frag) (C : Ct) (vs : List Nat) (m : MG) : TG := fun v σ H Q => ∃ F sd d Qd, Rs K C F H σ sd ∧ Rp K F v d ∧ m d sd Qd ∧ ∀ σ' sd', Rs K C F H σ' sd' → wipe σ' vs = wipe σ vs → (∀ a, Owned σ' sd' a → Owned σ sd a) → Qd sd' → Q σ' H
def tDGsv (K : PySem.W.Frag) (C : Ct) (vs : List Nat) (m : MGs) : TGs := fun v σ H Q => ∃ F sd d Qd, Rs K C F H σ sd ∧ RpA K F v d ∧ m d sd Qd ∧ ∀ σ' sd', Rs K C F H σ' sd' → wipe σ' vs = wipe σ vs → (∀ a, Owned σ' sd' a → Owned σ sd a) → Qd sd' → Q σ' H
theorem wipe_set {σ : L2.St} {x : Option V} : ∀ {vs : List Nat} {i : Nat}, i ∈ vs → wipe (σ.set i x) vs = wipe σ vs
  | v :: vs, i, h => by
    show (wipe (σ.set i x) vs).set v none = (wipe σ vs).set v none
    by_cases hi : i ∈ vs
    · rw [wipe_set hi]
    · have hv : i = v := by simpa [hi] using h
      subst hv
      have comm : ∀ (ws : List Nat), i ∉ ws → wipe (σ.set i x) ws = (wipe σ ws).set i x := by
        intro ws
        induction ws with
        | nil => intro _; rfl
        | cons w ws ih =>
          intro hn
          show (wipe (σ.set i x) ws).set w none = ((wipe σ ws).set w none).set i x
          rw [ih (fun z => hn (by simp [z])), List.set_comm _ _ (show i ≠ w from fun z => hn (by simp [z]))]
      rw [comm vs hi, List.set_set]
theorem pdgv_name {vs : List Nat} {i : Nat} {x : Str} {pos : Pos} (hv : i ∈ vs) (h : PG X (.Name x pos) (gName i)) : PG X (.Name x pos) (tDGv X.K C vs (mgName i)) := pg_imp h (by
  rintro v σ H Q ⟨F, sd, d, Qd, R, r, h, k⟩
  refine k _ _ (R.setva r) (wipe_set hv) (fun a ⟨j, o, e⟩ => ?_) h
  by_cases hj : j = i
  · subst hj
    by_cases hl : j < sd.length
    · rw [sget_sset hl] at o; cases o
    · rw [sget_out (by rw [sset_length]; omega)] at o; cases o
  · rw [sget_sset_ne hj] at o; rw [gv_set_ne hj] at e; exact ⟨j, o, e⟩)
theorem pdgsv_nil {vs : List Nat} : PGs X [] (tDGsv X.K C vs mgNil) := pgs_imp pgs_nil (by
  rintro v σ H Q ⟨F, sd, ds, Qd, R, r, h, k⟩
  obtain ⟨e, h⟩ := h
  subst e
  cases r
  exact ⟨rfl, k _ _ R rfl (fun _ h => h) h⟩)
theorem pdgsv_cons {vs : List Nat} {e : Expr} {es : List Expr} {g : MG} {gs : MGs} (t : PGs X (e :: es) (gCons (tDGv X.K C vs g) (tDGsv X.K C vs gs))) : PGs X (e :: es) (tDGsv X.K C vs (mgCons g gs)) := pgs_imp t (by
  rintro v σ H Q ⟨F, sd, ds, Qd, R, r, h, k⟩
  obtain ⟨d, rest, e, h⟩ := h
  subst e
  cases r with
  | cons r1 r2 => exact ⟨_, _, rfl, F, sd, d, _, R, r1, h, fun σ' sd' R' w o q => ⟨F, sd', rest, Qd, R', r2, q, fun σ2 sd2 R2 w2 o2 q2 => k σ2 sd2 R2 (w2.trans w) (fun a z => o a (o2 a z)) q2⟩⟩)
theorem pdgv_tup {vs : List Nat} {es : List Expr} {kk : Nat} {pos : Pos} {gs : MGs} {n : Nat} (hc : X.calm = true) (h : PGs X es (tDGsv X.K C vs gs)) (hn : (assignEach es X.env).length = n := by rfl) (hst : (assignEach es X.env).findIdx? (·.1) = none := by rfl) :
    PG X (.Tuple es kk pos) (tDGv X.K C vs (mgTup n gs)) := pg_imp (pg_or (pg_tup hc h hn hst) (pg_lst hc h hn hst)) (by
  rintro v σ H Q ⟨F, sd, d, Qd, R, r, h, k⟩
  obtain ⟨ds, hd, hl, h⟩ := h
  cases r with
  | tup h1 r1 =>
    cases hd
    exact .inl ⟨_, _, rfl, same_t R.ext h1, by rw [r1.length]; exact hl, F, sd, _, Qd, R, r1, h, k⟩
  | lst h1 r1 =>
    cases hd
    exact .inr ⟨_, _, rfl, .inl (.inl (R.ext _ _ h1)), by rw [r1.length]; exact hl, F, sd, _, Qd, R, r1, h, k⟩
  | _ => cases hd)
theorem wipe_comm {σ : L2.St} {x : Option V} {i : Nat} : ∀ (ws : List Nat), i ∉ ws → wipe (σ.set i x) ws = (wipe σ ws).set i x
  | [], _ => rfl
  | w :: ws, hn => by
    show (wipe (σ.set i x) ws).set w none = ((wipe σ ws).set w none).set i x
    rw [wipe_comm ws (fun z => hn (by simp [z])), List.set_comm _ _ (show i ≠ w from fun z => hn (by simp [z]))]
theorem wipe_wipe {σ : L2.St} : ∀ vs : List Nat, wipe (wipe σ vs) vs = wipe σ vs
  | [] => rfl
  | v :: vs => by
    show (wipe ((wipe σ vs).set v none) vs).set v none = (wipe σ vs).set v none
    by_cases hv : v ∈ vs
    · rw [wipe_set hv, wipe_wipe vs]
    · rw [wipe_comm vs hv, wipe_wipe vs, List.set_set]
/-- an object that nobody knows is written -/
theorem Rs.updH {F H : Hp} {σ : L2.St} {sd : DSt} {p : Addr} {o : HO} (R : Rs K C F H σ sd) (hF : F p = none) (ho : ¬ Owned σ sd p) (h0 : C.H0 p = none) : Rs K C F (upd H p o) σ sd where
  len := R.len
  grow := R.grow
  ext := fun a x e => by
    have : a ≠ p := fun z => by subst z; rw [hF] at e; cases e
    rw [upd_ne this]; exact R.ext a x e
  new := R.new
  keep := fun a x e n => by
    have : a ≠ p := fun z => by subst z; rw [h0] at e; cases e
    rw [upd_ne this]; exact R.keep a x e n
  still := fun a e => by
    by_cases z : a = p
    · subst z; exact h0
    · rw [upd_ne z] at e; exact R.still a e
  slot := fun i => (R.slot i).grow (Same.refl _) fun q x o2 e eh en => by
    have : q ≠ p := fun z => by subst z; exact ho ⟨i, o2, e⟩
    exact ⟨by rw [upd_ne this]; exact eh, en⟩
  sep := R.sep
theorem owned_at {F H : Hp} {σ : L2.St} {sd : DSt} {p : Addr} (R : Rs K C F H σ sd) (o : Owned σ sd p) : ∃ x, H p = some x := by
  obtain ⟨i, o, e⟩ := o
  have hs := R.slot i
  cases es : sget sd i with
  | no => rw [es] at o; cases o
  | va d => rw [es] at o; cases o
  | scr d => rw [es] at o; cases o
  | exc d => rw [es] at o; cases o
  | ins c fs => rw [es] at hs; obtain ⟨q2, _, _, _, e1, e2, _⟩ := hs; rw [e] at e1; cases e1; exact ⟨_, e2⟩
  | own ds' => rw [es] at hs; obtain ⟨q2, vs2, e1, e2, _⟩ := hs; rw [e] at e1; cases e1; exact ⟨_, e2⟩
  | well n => rw [es] at hs; obtain ⟨q2, _, _, _, e1, e2, _⟩ := hs; rw [e] at e1; cases e1; exact ⟨_, e2⟩
theorem owned_wipe {σ : L2.St} {sd : DSt} {vs : List Nat} {a : Addr} (h : Owned (wipe σ vs) (swipe sd vs) a) : Owned σ sd a := by
  obtain ⟨i, o, e⟩ := h
  by_cases hi : i ∈ vs
  · have : ∀ (ws : List Nat), i ∈ ws → sget (swipe sd ws) i = .no := by
      intro ws
      induction ws with
      | nil => intro h; simp at h
      | cons w ws ih =>
        intro h
        show sget (sset (swipe sd ws) w .no) i = .no
        by_cases hw : i = w
        · subst hw
          by_cases hl : i < sd.length
          · rw [sget_sset (by rw [swipe_length]; exact hl)]
          · rw [sget_out (by rw [sset_length, swipe_length]; omega)]
        · rw [sget_sset_ne hw]; exact ih (by simpa [hw] using h)
    rw [this vs hi] at o; cases o
  · rw [sget_swipe hi] at o
    rw [gv_wipe hi] at e
    exact ⟨i, o, e⟩
/-- the end of a comprehension: its slots as they were ahead of it -/
theorem rs_back {F1 H1 F H : Hp} {σ : L2.St} {s1 s : DSt} {vs : List Nat} (R1 : Rs K C F1 H1 σ s1) (hu : unOwn s1 vs = true) (R : Rs K C F H (wipe σ vs) (swipe s vs)) (e : Same F1 F) : Rs K C F H σ (sback s1 s vs) ∧ ∀ a, Owned σ (sback s1 s vs) a → Owned (wipe σ vs) (swipe s vs) a := by
  have hl : s.length = s1.length := by
    have a := R.len
    have b := R1.len
    rw [wipe_length, swipe_length] at a
    omega
  have own : ∀ j, isOwn (sget (sback s1 s vs) j) = true → j ∉ vs := fun j o hj => by
    rw [sget_sback_in hj hl, unOwn_of hu hj] at o; cases o
  refine ⟨⟨by rw [sback_length, hl]; exact R1.len, R.grow, R.ext, R.new, R.keep, R.still, fun j => ?_, fun j k q hjk o1 o2 z1 => ?_⟩, fun a ⟨j, o, ev⟩ => ?_⟩
  · by_cases hj : j ∈ vs
    · rw [sget_sback_in hj hl]
      have := R1.slot j
      have no := unOwn_of hu hj
      exact this.grow e fun q o ho _ _ _ => by rw [no] at ho; cases ho
    · rw [sget_sback hj]
      have := R.slot j
      rw [sget_swipe hj, gv_wipe hj] at this
      exact this
  · have n1 := own j o1
    have n2 := own k o2
    rw [sget_sback n1] at o1
    rw [sget_sback n2] at o2
    have := R.sep j k q hjk (by rw [sget_swipe n1]; exact o1) (by rw [sget_swipe n2]; exact o2) (by rw [gv_wipe n1]; exact z1)
    rw [gv_wipe n2] at this
    exact this
  · have n1 := own j o
    rw [sget_sback n1] at o
    exact ⟨j, by rw [sget_swipe n1]; exact o, by rw [gv_wipe n1]; exact ev⟩
/-- one turn's beginning: the new list at Dl holds what acc tells -/
structure LcSt (K : PySem.W.Frag) (C : Ct) (σ : L2.St) (s1 : DSt) (F1 H1 : Hp) (vs : List Nat) (Dl : Addr) (F' H' : Hp) (s : DSt) (acc : List PyData) : Prop where
  R : Rs K C F' H' (wipe σ vs) (swipe s vs)
  fr : Same F1 F'
  kp : ∀ a o, H1 a = some o → ¬ Owned σ s1 a → H' a = some o
  ow : ∀ a, Owned (wipe σ vs) (swipe s vs) a → Owned σ s1 a
  nw : ∀ a o, F' a = some o → F1 a = some o ∨ H1 a = none ∨ Owned σ s1 a
  st : ∀ a, H' a = none → H1 a = none
  dl : ∃ vacc, H' Dl = some (.lst vacc) ∧ RpA K F' vacc acc
  df : F' Dl = none
theorem lc_end {σ : L2.St} {s1 s : DSt} {F1 H1 F' H' : Hp} {vs : List Nat} {Dl : Addr} {acc : List PyData} (R1 : Rs K C F1 H1 σ s1) (hu : unOwn s1 vs = true) (hD : H1 Dl = none) (L : LcSt K C σ s1 F1 H1 vs Dl F' H' s acc) :
    ∃ vacc, H' Dl = some (.lst vacc) ∧ RpA K F' vacc acc ∧ F' Dl = none ∧ C.H0 Dl = none ∧ Rs K C F' H' σ (sback s1 s vs) ∧ Stp σ s1 F1 H1 F' H' (sback s1 s vs) ∧ ¬ Owned σ (sback s1 s vs) Dl := by
  obtain ⟨vacc, h1, h2⟩ := L.dl
  obtain ⟨Rb, ob⟩ := rs_back R1 hu L.R L.fr
  refine ⟨vacc, h1, h2, L.df, R1.still _ hD, Rb, ⟨L.fr, L.kp, fun a z => L.ow a (ob a z), L.nw, L.st⟩, fun z => ?_⟩
  obtain ⟨x, e⟩ := owned_at R1 (L.ow _ (ob _ z))
  rw [hD] at e; cases e
theorem lc_turn {σ σ2 : L2.St} {s1 s s2 : DSt} {F1 H1 F' H' F2 H2 F3 H3 : Hp} {vs : List Nat} {Dl : Addr} {acc : List PyData} (R1 : Rs K C F1 H1 σ s1) (hD : H1 Dl = none) (L : LcSt K C σ s1 F1 H1 vs Dl F' H' s acc) (al : Al F' H' F2 H2)
    {s0 : DSt} (hw : wipe σ2 vs = wipe σ vs) (ho : ∀ a, Owned σ2 s0 a → Owned (wipe σ vs) (swipe s vs) a) (R3 : Rs K C F3 H3 σ2 s2) (S3 : Stp σ2 s0 F2 H2 F3 H3 s2) : LcSt K C σ s1 F1 H1 vs Dl F3 H3 s2 acc ∧ ¬ Owned (wipe σ vs) (swipe s2 vs) Dl ∧ C.H0 Dl = none := by
  have A := Stp.al L.R al
  have ow3 : ∀ a, Owned (wipe σ vs) (swipe s2 vs) a → Owned σ s1 a := fun a z => by
    rw [← hw] at z
    exact L.ow a (ho a (S3.ow a (owned_wipe z)))
  have nD : ¬ Owned σ s1 Dl := fun z => by
    obtain ⟨x, e⟩ := owned_at R1 z
    rw [hD] at e; cases e
  obtain ⟨vacc, h1, h2⟩ := L.dl
  have h12 : H2 Dl = some (.lst vacc) := A.kp _ _ h1 fun z => nD (L.ow _ z)
  have nD0 : ¬ Owned σ2 s0 Dl := fun z => nD (L.ow _ (ho _ z))
  refine ⟨⟨by rw [← hw]; exact rs_wipe R3 vs, (L.fr.trans A.fr).trans S3.fr, fun a o e n => S3.kp a o (A.kp a o (L.kp a o e n) fun z => n (L.ow a z)) fun z => n (L.ow a (ho a z)), ow3, fun a o e => ?_, fun a e => L.st a (A.st a (S3.st a e)), ⟨vacc, S3.kp _ _ h12 nD0, (h2.mono A.fr).mono S3.fr⟩, ?_⟩, fun z => nD (ow3 _ z), R1.still _ hD⟩
  · rcases S3.nw a o e with e | e | e
    · rcases A.nw a o e with e | e | e
      · exact L.nw a o e
      · exact .inr (.inl (L.st a e))
      · exact .inr (.inr (L.ow a e))
    · exact .inr (.inl (L.st a (A.st a e)))
    · exact .inr (.inr (L.ow a (ho a e)))
  · cases e : F3 Dl with
    | none => rfl
    | some o =>
      rcases S3.nw _ o e with e | e | e
      · rcases A.nw _ o e with e | e | e
        · rw [L.df] at e; cases e
        · rw [h1] at e; cases e
        · exact (nD (L.ow _ e)).elim
      · rw [h12] at e; cases e
      · exact (nD0 e).elim
theorem td_lc {mi : MI} {mg : MG} {mt : MT} {me : ME} {vs : List Nat} {σ : L2.St} {H : Hp} {Q : VK} {F : Hp} {sd : DSt} {P : List PyData → DSt → Prop} (R : Rs K C F H σ sd) (h : mi sd fun ds s => unOwn s vs = true ∧ lcL mg mt me vs (fun out s' => P out (sback s s' vs)) ds s [])
    (k : ∀ Dl H' F' out vout sd', Rs K C F' H' σ sd' → Stp σ sd F H F' H' sd' → H' Dl = some (.lst vout) → RpA K F' vout out → F' Dl = none → C.H0 Dl = none → ¬ Owned σ sd' Dl → H Dl = none → P out sd' → Q (.ref Dl) H') : tLc (tDI K C mi) (tDGv K C vs mg) (tDT K C mt) (tD K C me) vs σ H Q := by
  refine ⟨F, sd, _, R, h, fun J H1 F1 ds s1 R1 S1 W h1 => fun Dl hD => ?_⟩
  obtain ⟨hu, h1⟩ := h1
  obtain ⟨G, Y, w, hG, hY⟩ := W.ex
  have nD : ¬ Owned σ s1 Dl := fun z => by
    obtain ⟨x, e⟩ := owned_at R1 z
    rw [hD] at e; cases e
  refine lc_it w (fun i H' => ∃ F' s acc, LcSt K C σ s1 F1 H1 vs Dl F' H' s acc ∧ lcL mg mt me vs (fun out s' => P out (sback s1 s' vs)) (ds.drop i) s acc) ⟨F1, s1, [], ?_, h1⟩ (fun i H' _ ⟨F', s, acc, L, _⟩ => hG H' (L.fr.trans L.R.ext)) (fun i x H' H'' hi ⟨F', s, acc, L, q⟩ y => ?_) (fun H' ⟨F', s, acc, L, q⟩ => ?_)
  · refine ⟨rs_wipe (R1.allocH hD) vs, Same.refl _, fun a o e _ => same_new hD a o e, fun a z => owned_wipe z, fun a o e => .inl e, fun a e => ?_, ⟨[], upd_same, .nil⟩, R1.free hD⟩
    by_cases z : a = Dl
    · subst z; exact hD
    · rw [upd_ne z] at e; exact e
  · obtain ⟨F2, d, al, hd, rd⟩ := hY i H' x H'' F' hi L.fr L.R.ext y
    rw [drop_get hd] at q
    refine ⟨F2, swipe s vs, d, _, L.R.al al, rd, q, fun σ2 s2 R2 hw ho q2 => ⟨by rw [hw, wipe_wipe], F2, s2, _, R2, q2, fun b H3 F3 s3 R3 S3 q3 => ?_⟩⟩
    rw [wipe_wipe] at hw
    cases b with
    | true =>
      refine ⟨F3, s3, _, R3, q3, fun y H4 F4 dy s4 R4 S4 ry q4 => ?_⟩
      obtain ⟨L4, no4, h04⟩ := lc_turn R1 hD L al hw ho R4 (S3.trans S4)
      obtain ⟨vacc, e1, e2⟩ := L4.dl
      refine ⟨vacc, e1, by rw [e2.length]; exact line_lt q4.1, F4, s4, acc ++ [dy], ⟨L4.R.updH L4.df no4 h04, L4.fr, fun a o e n => ?_, L4.ow, L4.nw, fun a e => ?_, ⟨_, upd_same, e2.snoc ry⟩, L4.df⟩, q4.2⟩
      · have : a ≠ Dl := fun z => by subst z; rw [hD] at e; cases e
        rw [upd_ne this]; exact L4.kp a o e n
      · by_cases z : a = Dl
        · subst z; exact hD
        · rw [upd_ne z] at e; exact L4.st a e
    | false =>
      obtain ⟨L4, _, _⟩ := lc_turn R1 hD L al hw ho R3 S3
      exact ⟨F3, s3, acc, L4, q3⟩
  · rw [List.drop_length] at q
    obtain ⟨vacc, a1, a2, a3, a4, a5, a6, a7⟩ := lc_end R1 hu hD L
    exact k Dl H' F' acc vacc _ a5 (S1.trans a6) a1 a2 a3 a4 a7 (S1.st _ hD) q
end
end DL
namespace DL
open PySem PySem.Spec PyProof.Rows L2
/-- room for k calls, and nothing is being shown -/
structure RoomG (k : Nat) (A : Around) : Prop where
  r : Room k A
  g : A.guards = some []
theorem RoomG.mono {j k : Nat} {A : Around} (h : RoomG k A) (hj : j ≤ k) : RoomG j A := ⟨h.r.mono hj, h.g⟩
theorem RoomG.deeper {k : Nat} {A : Around} (h : RoomG (k + 1) A) (env : Env) : RoomG k (A.deeper env) := ⟨h.r.deeper env, h.g⟩
structure FnG (P : Program) (w : World) (K : PySem.W.Frag) (mg : Str → Option Value) (base : Heap) (k : Nat) (f : Addr) (fd : FuncData) (ps : List Str) (sp : Sp) : Prop where
  len : ∀ vs H Q E, sp vs H Q E → vs.length = ps.length
  run : ∀ {A : Around} {outer : List Env} {s : Shared} {H : Hp} {args : Args} {us : List Value} {vs : List V} {Q : VK} {E : XK}, RoomG k A → Env0 P w K mg base A outer s H → BindsTo s fd args (ps.zip us) → Vals vs us → sp vs H Q E →
    codeAny (model P w) A (.call (.ref f) args) (CR (L2.CX P w) outer P w H s Q E) s
theorem FnG.of {P : Program} {w : World} {K : PySem.W.Frag} {mg : Str → Option Value} {base : Heap} {k : Nat} {f : Addr} {fd : FuncData} {ps : List Str} {sp : Sp} (F : FnOk P w K mg base (L2.CX P w) k f fd ps sp) : FnG P w K mg base k f fd ps sp :=
  ⟨F.len, fun hr e b r h => F.run _ _ _ _ _ _ _ _ _ hr.r e b r h⟩
section
variable {P : Program} {w : World} {K : PySem.W.Frag} {mg : Str → Option Value} {base : Heap} {k : Nat}
/-- a def's promise from its body -/
theorem fun_okG {x qual : Str} {st : Stmt} {f : Addr} {fd : FuncData} {N ps : List Str} {sp : Sp} (F : Fun K x qual st f fd) (S : FnScope N ps (defScope st)) (len : ∀ vs H Q E, sp vs H Q E → vs.length = ps.length)
    (body : ∀ (cdv : Value) (A : Around) (outer : List Env) (s : Shared) (H : Hp) (vs : List V) (Q : VK) (E : XK), RoomG k (A.deeper (envOfC qual (defScope st) s.heap.objs.size f cdv)) → sp vs H Q E →
      ∃ t, PSs (cxOf (L2.CX P w) P w K mg base N qual (defScope st) f cdv A outer s H E) (defBody st) t ∧ t { nx := fun _ H' => Q .non H', rt := Q } (L2.start N vs) H) : FnG P w K mg base (k + 1) f fd ps sp := by
  obtain ⟨oc, od, kV, doc, pm, an, cdv, ct, osl, rfl, lk, code⟩ := F.ex
  refine ⟨len, fun {A outer s H args us vs Q E} hr e0 hb rv hs => ?_⟩
  have stays : ∀ b o, base.get? b = some o → s.heap.get? b = some o := fun b o e => (e0.bs b o e).1
  have KX := e0.mod.kin.keeps stays
  refine codeAny_call_function hr.r.depth (KX _ _ lk) rfl S.co S.gen rfl (PySem.W.codeRec_of KX code) (hb _ _ _ _ (wpAny_newFunctionEnv_cells S.kind (fun y hy => ?_) fun env he s1 x1 => ?_))
  · have hp := S.par y.1 (List.of_mem_zip (show (y.1, y.2) ∈ ps.zip us from hy)).1
    exact hp.imp id fun c => ⟨c, PySem.W.cellsFrom_some _ _ _ (.inl c)⟩
  · subst he
    obtain ⟨t, ht, ht2⟩ := body cdv A outer s H vs Q E (hr.deeper _) hs
    have I0 := inv_start (CX := L2.CX P w) (E := E) S hr.r.hd e0 (len _ _ _ _ hs) rv x1
    refine ⟨(e0.mod.nolimit.keeps stays).keeps x1.toInCall.keep, codeAny_func (wpAny_mono (ht.run [] s1 _ H _ I0 ht2) (fun fl s2 h2 => ?_) fun _ _ h2 => h2)⟩
    cases fl with
    | brk => exact h2.elim fun _ h => h.elim fun _ h => h.2.elim
    | cont => exact h2.elim fun _ h => h.elim fun _ h => h.2.elim
    | next => exact h2.elim fun σ2 h => h.elim fun H2 h => ⟨V.non, H2, h.1.os, h.1.bare, h.1.base, h.1.hok, rfl, h.2⟩
    | ret u => exact h2.elim fun v h => h.elim fun σ2 h => h.elim fun H2 h => ⟨v, H2, h.1.os, h.1.bare, h.1.base, h.1.hok, h.2.1, h.2.2⟩
end
section
variable {X : Cx} {k : Nat} {f : Addr} {fd : FuncData} {ps ks : List Str} {sp : Sp} {E : L2.St → XK} {x : Str} {p pos : Pos} {e : Expr} {es : List Expr} {t tk : TA}
theorem run_fnG {pins : List (Addr × Obj)} {σ : L2.St} {H : Hp} {s : Shared} {Q : VK} {us : List Value} {vs : List V} {args : Args} {n : Nat} (F : FnG X.prog X.w X.K X.mg X.base k f fd ps sp) (hr : RoomG k X.A) (hb : BindsTo s fd args (ps.zip us)) (hx : PassesAt (L2.CX X.prog X.w) X σ (E σ))
    (I : Inv X pins σ H s) (r : Vals vs us) (h : sp vs H Q (E σ)) : codeAny (model X.prog X.w) X.A (.call (.ref f) args) (fun r s' => match r with
      | .error e => X.xe e s'
      | .ok (.ret u) => EP X pins σ Q u s'
      | .ok _ => False) s := by
  refine codeAny_mono (F.run hr I.env0 hb r h) fun r s' hq => ?_
  cases r with
  | error e => exact hx pins H s e s' I hq
  | ok fl =>
    cases fl with
    | ret u => exact I.after hq
    | next => exact hq
    | brk => exact hq
    | cont => exact hq
/-- f(e, ..), and what f raises is wished for at the slots as they stand -/
def tCallG (sp : Sp) (E : L2.St → XK) (t : TA) : TE := fun σ H Q => t σ H fun vs H1 => sp vs H1 Q (E σ)
theorem wp_callG {pins : List (Addr × Obj)} {σ : L2.St} {H : Hp} {s : Shared} {Q : VK} {us : List Value} {vs : List V} (F : FnG X.prog X.w X.K X.mg X.base k f fd ps sp) (hr : RoomG k X.A) (hb : Binds X.K fd ps []) (hx : PassesAt (L2.CX X.prog X.w) X σ (E σ))
    (I : Inv X pins σ H s) (r : Vals vs us) (h : sp vs H Q (E σ)) : wpAny (model X.prog X.w) X.A (call (.ref f) us) (EP X pins σ Q) X.xe s := by
  have hl : (us ++ []).length = ps.length := by rw [List.append_nil, ← r.length]; exact F.len _ _ _ _ h
  have b := hb s us I.kIn hl
  rw [List.append_nil] at b
  refine wpAny_call (codeAny_mono (run_fnG (args := ⟨us, []⟩) (n := 0) F hr b hx I r h) fun r s' hq => ?_)
  rcases r with _ | (_ | _ | _ | _) <;> exact hq
theorem pe_callG (F : FnG X.prog X.w X.K X.mg X.base k f fd ps sp) (hr : RoomG k X.A) (hg : Gl X x) (hm : X.mg x = some (.ref f)) (hk : PySem.W.keepIn X.K (.ref f) = true) (hb : Binds X.K fd ps []) (hx : ∀ σ, PassesAt (L2.CX X.prog X.w) X σ (E σ))
    (ha : PA X (e :: es) t) (hdb : (x == ("__debug__" : Str)) = false) (he : starEach (e :: es) X.env = (false, eval e X.env) :: starEach es X.env) (hpl : (backTo pos (starEach es X.env)).any (·.1) = false) :
    PE X (.Call (.Name x p) (e :: es) [] pos) (tCallG sp E t) :=
  ⟨fun pins s σ H Q I h => wpAny_Call_Name_kw (ld_glob I hg hm (PySem.W.callWith_K (h₀ := X.base) I.ok.mod.kin hk (thn (ha.run pos pins s σ H _ I h) fun us s1 hh => by
    obtain ⟨vs, H1, I1, r, q⟩ := hh
    exact ⟨I1.kIn, wp_callG F hr hb (hx σ) I1 r q⟩) he hpl) hdb)⟩
variable {g : List Value → List Value → List Value} {gV : List V → List V → List V} {kws : List Keyword}
end
end DL
namespace DL
open PySem PySem.Spec PyProof.Rows L2
section
variable {K : PySem.W.Frag} {X : Cx} {C : Ct}
/-- a list that nobody knows is made known -/
theorem Rs.freezeD {F H : Hp} {σ : L2.St} {sd : DSt} {p : Addr} {vs : List V} {ds : List PyData} (R : Rs K C F H σ sd) (h : H p = some (.lst vs)) (hF : F p = none) (h0 : C.H0 p = none) (ho : ¬ Owned σ sd p) (r : RpA K F vs ds) :
    Rs K C (upd F p (.lst vs)) H σ sd ∧ Rp K (upd F p (.lst vs)) (.ref p) (.list ds) := by
  have sF : Same F (upd F p (.lst vs)) := same_new hF
  refine ⟨⟨R.len, R.grow.trans sF, fun a x e => ?_, fun a x e => ?_, R.keep, R.still, fun i => ?_, R.sep⟩, .lst upd_same (r.mono sF)⟩
  · by_cases z : a = p
    · subst z; rw [upd_same] at e; cases e; exact h
    · rw [upd_ne z] at e; exact R.ext a x e
  · by_cases z : a = p
    · subst z; exact .inr h0
    · rw [upd_ne z] at e; exact R.new a x e
  · refine (R.slot i).grow sF fun q x o e eh en => ⟨eh, ?_⟩
    have : q ≠ p := fun z => by subst z; exact ho ⟨i, o, e⟩
    rw [upd_ne this]; exact en
theorem Stp.freezeD {F H F' H' : Hp} {σ : L2.St} {sd sd' : DSt} {p : Addr} {o : HO} (S : Stp σ sd F H F' H' sd') (hF : F' p = none) (hn : H p = none) : Stp σ sd F H (upd F' p o) H' sd' where
  fr := S.fr.trans (same_new hF)
  kp := S.kp
  ow := S.ow
  nw := fun a x e => by
    by_cases z : a = p
    · subst z; exact .inr (.inl hn)
    · rw [upd_ne z] at e; exact S.nw a x e
  st := S.st
theorem td_lcV {mi : MI} {mg : MG} {mt : MT} {me : ME} {vs : List Nat} : ∀ σ H Q, tD K C (mLc mi mg mt me vs) σ H Q → tLc (tDI K C mi) (tDGv K C vs mg) (tDT K C mt) (tD K C me) vs σ H Q := by
  rintro σ H Q ⟨F, sd, Qd, R, h, k⟩
  refine td_lc R h fun Dl H' F' out vout sd' R' S h1 r hF h0 ho hn q => ?_
  obtain ⟨R2, rp⟩ := R'.freezeD h1 hF h0 ho r
  exact k _ H' _ _ sd' R2 (S.freezeD hF hn) rp q
variable {elt tg iter : Expr} {ifs : List Expr} {scope : Scope} {pos : Pos} {mi : MI} {mg : MG} {mt : MT} {me : ME} {vs : List Nat}
theorem pd_lc (t : PE X (.ListComp elt [⟨tg, iter, ifs, 0⟩] scope pos) (tLc (tDI X.K C mi) (tDGv X.K C vs mg) (tDT X.K C mt) (tD X.K C me) vs)) : PE X (.ListComp elt [⟨tg, iter, ifs, 0⟩] scope pos) (tD X.K C (mLc mi mg mt me vs)) := pe_imp t td_lcV
/-- y = [..] on one line -/
theorem pds_setLc {y : Expr} {spos : Pos} {i : Nat} (t : PS X (.Assign [y] (.ListComp elt [⟨tg, iter, ifs, 0⟩] scope pos) spos) (tAsg (tLc (tDI X.K C mi) (tDGv X.K C vs mg) (tDT X.K C mt) (tD X.K C me) vs) (gName i))) :
    PS X (.Assign [y] (.ListComp elt [⟨tg, iter, ifs, 0⟩] scope pos) spos) (tDS X.K C (mAsg (mLc mi mg mt me vs) (mgName i))) := ps_imp t (by
  rintro D σ H ⟨F, sd, Dd, R, E, h⟩
  refine td_lcV σ H _ ⟨F, sd, _, R, h, fun v H1 F1 d sd1 R1 S1 r q => ?_⟩
  exact E.nx F1 H1 _ _ S1.fr (R1.setva r) q)
theorem pdts_nil : PTs X [] (tDT X.K C mTYes) := ⟨fun pins s σ H Q I h => (pts_nil (X := X)).run pins s σ H Q I (by
  obtain ⟨F, sd, Qd, R, h, k⟩ := h
  exact k true H F sd R .refl h)⟩
theorem pdts_one {c : Expr} {t : MT} (h : PT X c (tDT X.K C t)) : PTs X [c] (tDT X.K C t) := pts_one h
end
/-- behind a call that was handed frozen data alone -/
structure Post (K : PySem.W.Frag) (F H F' H' : Hp) : Prop where
  fr : Same F F'
  ext : Same F' H'
  kp : Same H H'
  nw : ∀ a o, F' a = some o → F a = some o ∨ H a = none
def ResOk (K : PySem.W.Frag) (F' H H' : Hp) (v : V) : S → Prop
  | .no => True
  | .scr ns => ∃ p, v = .ref p ∧ SqL K F' p (ns.map V.int)
  | .exc a => v = .ref a
  | .ins c es => ∃ p Cc dx fs, v = .ref p ∧ H' p = some (.ins Cc dx fs) ∧ F' p = none ∧ H p = none ∧ ObjC K c Cc ∧ RpF K F' fs es
  | .va d => Rp K F' v d
  | .own ds => ∃ p vs, v = .ref p ∧ H' p = some (.lst vs) ∧ F' p = none ∧ H p = none ∧ RpA K F' vs ds
  | .well n => ∃ p a b c, v = .ref p ∧ H' p = some (.lst [.int a, .int b, .int c]) ∧ F' p = none ∧ H p = none ∧ WellOk n a b c
def spP (K : PySem.W.Frag) (CN : String → Option Addr) (spec : PSpec) : Sp := fun vs H Q E => ∃ F ds Qd Ed, Same F H ∧ RpA K F vs ds ∧ spec ds Qd Ed ∧
  (∀ v H' F' r, Post K F H F' H' → ResOk K F' H H' v r → Qd r → Q v H') ∧ ∀ c a H' F', CN c = some a → Post K F H F' H' → Ed c → E (.ref a) none H'
/-- .. and the well -/
structure PostW (K : PySem.W.Frag) (p : Addr) (F H F' H' : Hp) (n' : Nat) : Prop where
  fr : Same F F'
  ext : Same F' H'
  kp : ∀ a o, a ≠ p → H a = some o → H' a = some o
  nw : ∀ a o, F' a = some o → F a = some o ∨ H a = none
  wl : ∃ a b c, H' p = some (.lst [.int a, .int b, .int c]) ∧ WellOk n' a b c
def spW (K : PySem.W.Frag) (spec : WSpec) : Sp := fun vs H Q _ => ∃ F p ws n a b c ds Qd, vs = .ref p :: ws ∧ Same F H ∧ F p = none ∧ H p = some (.lst [.int a, .int b, .int c]) ∧ WellOk n a b c ∧ RpA K F ws ds ∧ spec n ds Qd ∧
  ∀ v H' F' r n', PostW K p F H F' H' n' → ResOk K F' H H' v r → Qd r n' → Q v H'
section
variable {K : PySem.W.Frag} {X : Cx} {C : Ct} {F H F' H' : Hp} {σ : L2.St} {sd : DSt}
theorem Rs.post (R : Rs K C F H σ sd) (P : Post K F H F' H') : Rs K C F' H' σ sd ∧ Stp σ sd F H F' H' sd := by
  have ns : ∀ a, H' a = none → H a = none := fun a e => P.kp.free e
  refine ⟨⟨R.len, R.grow.trans P.fr, P.ext, fun a o e => ?_, fun a o e n => P.kp a o (R.keep a o e n), fun a e => R.still a (ns a e), fun i => (R.slot i).grow P.fr fun q x o e eh en => ⟨P.kp q x eh, ?_⟩, R.sep⟩, ⟨P.fr, fun a o e _ => P.kp a o e, fun _ z => z, fun a o e => ?_, ns⟩⟩
  · rcases P.nw a o e with e | e
    · exact R.new a o e
    · exact .inr (R.still a e)
  · cases z : F' q with
    | none => rfl
    | some y =>
      rcases P.nw q y z with z | z
      · rw [en] at z; cases z
      · rw [eh] at z; cases z
  · rcases P.nw a o e with e | e
    · exact .inl e
    · exact .inr (.inl e)
/-- the result of a call, frozen where it is a list -/
theorem Rs.res {H0 : Hp} {F0 : Hp} {sd0 : DSt} {v : V} {r : S} {d : PyData} (R : Rs K C F' H' σ sd) (S : Stp σ sd0 F0 H0 F' H' sd) (h : ResOk K F' H H' v r) (hn : ∀ p, H p = none → H0 p = none ∧ ¬ Owned σ sd p ∧ C.H0 p = none) (hf : fz r = some d) :
    ∃ F2, Rs K C F2 H' σ sd ∧ Stp σ sd0 F0 H0 F2 H' sd ∧ Rp K F2 v d := by
  cases r with
  | no => cases hf
  | scr _ => cases hf
  | exc _ => cases hf
  | ins _ _ => cases hf
  | well n => cases hf
  | va d' => cases hf; exact ⟨F', R, S, h⟩
  | own ds =>
    cases hf
    obtain ⟨p, vs, rfl, h1, h2, h3, h4⟩ := h
    have hn3 := hn p h3
    obtain ⟨n1, n2, n3⟩ := hn3
    obtain ⟨R2, rp⟩ := R.freezeD h1 h2 n3 n2 h4
    exact ⟨_, R2, S.freezeD h2 n1, rp⟩
theorem Rs.fresh (R : Rs K C F H σ sd) {p : Addr} (h : H p = none) : ¬ Owned σ sd p ∧ C.H0 p = none :=
  by
  refine ⟨fun z => ?_, R.still p h⟩
  have e := owned_at R z
  rw [h] at e
  exact nomatch e
/-- a def of the text and its promise -/
structure CalP (P : Program) (w : World) (K : PySem.W.Frag) (mg : Str → Option Value) (base : Heap) (CN : String → Option Addr) (k : Nat) (x : Str) (spec : PSpec) : Prop where
  ex : ∃ f fd ps, FnG P w K mg base k f fd ps (spP K CN spec) ∧ mg x = some (.ref f) ∧ PySem.W.keepIn K (.ref f) = true ∧ Binds K fd ps []
structure CalW (P : Program) (w : World) (K : PySem.W.Frag) (mg : Str → Option Value) (base : Heap) (k : Nat) (x : Str) (spec : WSpec) : Prop where
  ex : ∃ f fd ps, FnG P w K mg base k f fd ps (spW K spec) ∧ mg x = some (.ref f) ∧ PySem.W.keepIn K (.ref f) = true ∧ Binds K fd ps []
theorem td_call {CN : String → Option Addr} {spec : PSpec} {W : WD} {ma : MA} : ∀ σ H Q, tD K C (mCall spec W ma) σ H Q → tCallG (spP K CN spec) (WE (wD K C CN W)) (tDA K C ma) σ H Q := by
  rintro σ H Q ⟨F, sd, Qd, R, h, k⟩
  refine ⟨F, sd, _, R, h, fun vs H1 F1 ds sd1 R1 S1 rs h1 => ⟨F1, ds, _, _, R1.ext, rs, h1, fun v H' F' r P ro q => ?_, fun c a H' F' hc P q => ?_⟩⟩
  · obtain ⟨d, hf, q⟩ := q
    obtain ⟨R2, S2⟩ := R1.post P
    obtain ⟨F2, R3, S3, rp⟩ := R2.res (S1.trans S2) ro (fun p hp => ⟨S1.st p hp, fun z => (R1.fresh hp).1 (S2.ow p z), (R1.fresh hp).2⟩) hf
    exact k v H' F2 d sd1 R3 S3 rp q
  · exact ⟨c, a, F', sd1, hc, rfl, rfl, (R1.post P).1, q⟩
theorem pd_call {CN : String → Option Addr} {spec : PSpec} {W : WD} {ma : MA} {x : Str} {p pos : Pos} {e : Expr} {es : List Expr} {k j : Nat} (c : CalP X.prog X.w X.K X.mg X.base CN k x spec) (hr : RoomG j X.A) (hk : k ≤ j) (tk : Takes X (wD X.K C CN W)) (ha : PA X (e :: es) (tDA X.K C ma)) (hg : Gl X x := by rfl)
    (hdb : (x == ("__debug__" : Str)) = false := by decide) (he : starEach (e :: es) X.env = (false, eval e X.env) :: starEach es X.env := by rfl) (hpl : (backTo pos (starEach es X.env)).any (·.1) = false := by rfl) :
    PE X (.Call (.Name x p) (e :: es) [] pos) (tD X.K C (mCall spec W ma)) := by
  obtain ⟨f, fd, ps, F, hm, hkp, hb⟩ := c.ex
  exact pe_imp (pe_callG F (hr.mono hk) hg hm hkp hb (passAt tk) ha hdb he hpl) td_call
/-- f(well, e, ..) -/
theorem Rs.postW {i : Nat} {n n' : Nat} {p : Addr} (R : Rs K C F H σ sd) (h : sget sd i = .well n) (e : gv σ i = some (.ref p)) (hn : ∃ a b c, H p = some (.lst [.int a, .int b, .int c]) ∧ WellOk n a b c) (P : PostW K p F H F' H' n') :
    Rs K C F' H' σ (sset sd i (.well n')) ∧ Stp σ sd F H F' H' (sset sd i (.well n')) := by
  obtain ⟨a0, b0, c0, hp, _⟩ := hn
  have hi := R.slot i
  rw [h] at hi
  obtain ⟨p', a1, b1, c1, z1, z2, z3, z4, _⟩ := hi
  rw [e] at z1; cases z1
  have hl : i < sd.length := R.lt_of_own (by rw [h]; intro z; cases z)
  obtain ⟨a2, b2, c2, w1, w2⟩ := P.wl
  have Fp : F' p = none := by
    cases z : F' p with
    | none => rfl
    | some y =>
      rcases P.nw p y z with z | z
      · rw [z3] at z; cases z
      · rw [hp] at z; cases z
  have own : Owned σ sd p := ⟨i, by rw [h]; rfl, e⟩
  have other : ∀ j q, j ≠ i → isOwn (sget sd j) = true → gv σ j = some (.ref q) → q ≠ p := fun j q hj ho eq z => by
    subst z
    exact R.sep i j q (Ne.symm hj) (by rw [h]; rfl) ho e eq
  have ns : ∀ a, H' a = none → H a = none := fun a z => by
    by_cases za : a = p
    · subst za; rw [w1] at z; cases z
    · cases q : H a with
      | none => rfl
      | some o => rw [P.kp a o za q] at z; cases z
  have ow : ∀ a, Owned σ (sset sd i (.well n')) a → Owned σ sd a := fun a ⟨j, o, ev⟩ => by
    by_cases hj : j = i
    · subst hj; rw [e] at ev; cases ev; exact own
    · rw [sget_sset_ne hj] at o; exact ⟨j, o, ev⟩
  refine ⟨⟨by rw [sset_length]; exact R.len, R.grow.trans P.fr, P.ext, fun a o q => ?_, fun a o q n => ?_, fun a z => R.still a (ns a z), fun j => ?_, fun j k q hjk o1 o2 z1 => ?_⟩, ⟨P.fr, fun a o q n => P.kp a o (fun z => n (z ▸ own)) q, ow, fun a o q => ?_, ns⟩⟩
  · rcases P.nw a o q with q | q
    · exact R.new a o q
    · exact .inr (R.still a q)
  · have ha := R.keep a o q n
    by_cases za : a = p
    · subst za
      rcases z4 with z4 | z4
      · exact (n z4.2).elim
      · rw [z4.2] at q; cases q
    · exact P.kp a o za ha
  · by_cases hj : j = i
    · subst hj; rw [sget_sset hl]; exact ⟨p, a2, b2, c2, e, w1, Fp, z4, w2⟩
    · rw [sget_sset_ne hj]
      refine (R.slot j).grow P.fr fun q x ho eq eh en => ⟨P.kp q x (other j q hj ho eq) eh, ?_⟩
      cases z : F' q with
      | none => rfl
      | some y =>
        rcases P.nw q y z with z | z
        · rw [en] at z; cases z
        · rw [eh] at z; cases z
  · have own_of : ∀ m, isOwn (sget (sset sd i (.well n')) m) = true → isOwn (sget sd m) = true := fun m o => by
      by_cases hm : m = i
      · subst hm; rw [h]; rfl
      · rw [sget_sset_ne hm] at o; exact o
    exact R.sep j k q hjk (own_of j o1) (own_of k o2) z1
  · rcases P.nw a o q with q | q
    · exact .inl q
    · exact .inr (.inl q)
theorem td_callW {spec : WSpec} {i : Nat} {ma : MA} {E : L2.St → XK} : ∀ σ H Q, tD K C (mCallW spec i ma) σ H Q → tCallG (spW K spec) E (tCons (tVar i) (tDA K C ma)) σ H Q := by
  rintro σ H Q ⟨F, sd, Qd, R, ⟨⟨n0, hn0⟩, h⟩, k⟩
  have hi := R.slot i
  rw [hn0] at hi
  obtain ⟨p, _, _, _, e1, _⟩ := hi
  refine ⟨.ref p, gv_some.mp e1, F, sd, _, R, h, fun vs H1 F1 ds sd1 R1 S1 rs h1 => ?_⟩
  obtain ⟨n, hn, h1⟩ := h1
  have hi1 := R1.slot i
  rw [hn] at hi1
  obtain ⟨p', a, b, c, z1, z2, z3, z4, z5⟩ := hi1
  rw [e1] at z1; cases z1
  refine ⟨F1, p, vs, n, a, b, c, ds, _, rfl, R1.ext, z3, z2, z5, rs, h1, fun v H' F' r n' P ro q => ?_⟩
  obtain ⟨d, hf, q⟩ := q
  obtain ⟨R2, S2⟩ := R1.postW hn e1 ⟨a, b, c, z2, z5⟩ P
  obtain ⟨F2, R3, S3, rp⟩ := R2.res (S1.trans S2) ro (fun p hp => ⟨S1.st p hp, fun z => (R1.fresh hp).1 (S2.ow p z), (R1.fresh hp).2⟩) hf
  exact k v H' F2 d _ R3 S3 rp q
theorem pd_callW {spec : WSpec} {i : Nat} {ma : MA} {x y : Str} {p p2 pos : Pos} {es : List Expr} {k j : Nat} {W : WX} (c : CalW X.prog X.w X.K X.mg X.base k x spec) (hr : RoomG j X.A) (hk : k ≤ j) (tk : Takes X W) (hy : PE X (.Name y p2) (tVar i)) (ha : PA X es (tDA X.K C ma)) (hg : Gl X x := by rfl)
    (hdb : (x == ("__debug__" : Str)) = false := by decide) (he : starEach (.Name y p2 :: es) X.env = (false, eval (.Name y p2) X.env) :: starEach es X.env := by rfl) (hpl : (backTo pos (starEach es X.env)).any (·.1) = false := by rfl) :
    PE X (.Call (.Name x p) (.Name y p2 :: es) [] pos) (tD X.K C (mCallW spec i ma)) := by
  obtain ⟨f, fd, ps, F, hm, hkp, hb⟩ := c.ex
  exact pe_imp (pe_callG F (hr.mono hk) hg hm hkp hb (passAt tk) (pa_cons hy ha he) hdb he hpl) td_callW
end
end DL
namespace DL
open PySem PySem.Spec PyProof.Rows L2
/-- a def's body's context -/
abbrev cxD (P : Program) (w : World) (K : PySem.W.Frag) (mg : Str → Option Value) (base : Heap) (N : List Str) (qual : Str) (sc : Scope) (f : Addr) (cdv : Value) (A : Around) (outer : List Env) (s : Shared) (H : Hp) (E : XK) : Cx :=
  cxOf (L2.CX P w) P w K mg base N qual sc f cdv A outer s H E
theorem sget_va : ∀ {ds : List PyData} {k i : Nat} {s : S}, sget (ds.map S.va ++ List.replicate k .no) i = s → (∃ d, ds[i]? = some d ∧ s = .va d) ∨ s = .no
  | [], k, i, s, h => by
    right
    rw [← h]
    have : ∀ (k i : Nat), sget (List.replicate k S.no) i = .no := by
      intro k
      induction k with
      | zero => intro _; rfl
      | succ k ih => intro i; cases i with
        | zero => rfl
        | succ i => exact ih i
    exact this k i
  | d :: ds, k, 0, s, h => .inl ⟨d, rfl, h.symm⟩
  | d :: ds, k, i + 1, s, h => by
    rcases sget_va (ds := ds) (k := k) (i := i) h with ⟨d', h1, h2⟩ | h
    · exact .inl ⟨d', by simpa using h1, h2⟩
    · exact .inr h
theorem start_gv {N : List Str} {vs : List V} {i : Nat} {v : V} (h : vs[i]? = some v) : gv (L2.start N vs) i = some v := by
  unfold L2.start gv
  have hi := (List.getElem?_eq_some_iff.mp h).1
  rw [List.getElem?_append_left (by simpa using hi), List.getElem?_map, h]
  rfl
section
variable {P : Program} {w : World} {K : PySem.W.Frag} {mg : Str → Option Value} {base : Heap} {CN : String → Option Addr}
theorem rs_start {F H : Hp} {N : List Str} {vs : List V} {ds : List PyData} (e : Same F H) (r : RpA K F vs ds) (hl : ds.length ≤ N.length) : Rs K ⟨F, H, fun _ => False, false⟩ F H (L2.start N vs) (slots0 N.length ds) where
  len := by unfold L2.start slots0; simp [r.length]
  grow := Same.refl _
  ext := e
  new := fun a o h => .inl h
  keep := fun a o h _ => h
  still := fun a h => h
  slot := fun i => by
    rcases sget_va (s := sget (slots0 N.length ds) i) rfl with ⟨d, h1, h2⟩ | h
    · rw [h2]
      obtain ⟨v, e1, rv⟩ := r.get h1
      exact ⟨v, start_gv e1, rv⟩
    · rw [h]; trivial
  sep := fun i j p _ o _ _ => by
    rcases sget_va (s := sget (slots0 N.length ds) i) rfl with ⟨d, h1, h2⟩ | h
    · rw [h2] at o; cases o
    · rw [h] at o; cases o
theorem takes_cxD {N : List Str} {qual : Str} {sc : Scope} {f : Addr} {cdv : Value} {A : Around} {outer : List Env} {s : Shared} {H : Hp} {E : XK} {W : WX} (h : ∀ cls d σ H, W cls d σ H → E cls d H) : Takes (cxD P w K mg base N qual sc f cdv A outer s H E) W :=
  (takes_of (X := cxD P w K mg base N qual sc f cdv A outer s H E) rfl rfl rfl rfl).imp h
/-- a def that is handed data -/
theorem fun_okP {x qual : Str} {st : Stmt} {f : Addr} {fd : FuncData} {N ps : List Str} {k : Nat} {spec : PSpec} {m : WD → MS} (F : Fun K x qual st f fd) (S : FnScope N ps (defScope st)) (hN : ps.length ≤ N.length) (len : ∀ ds Q E, spec ds Q E → ds.length = ps.length)
    (hbody : ∀ (cdv : Value) (A : Around) (outer : List Env) (s : Shared) (H : Hp) (E : XK) (C : Ct) (W : WD), C.isW = false → RoomG k (A.deeper (envOfC qual (defScope st) s.heap.objs.size f cdv)) →
      Takes (cxD P w K mg base N qual (defScope st) f cdv A outer s H E) (wD K C CN W) → PSs (cxD P w K mg base N qual (defScope st) f cdv A outer s H E) (defBody st) (tDS K C (m W)))
    (rd : ∀ ds Q E, spec ds Q E → m (fun c _ => E c) (endP Q) (slots0 N.length ds)) : FnG P w K mg base (k + 1) f fd ps (spP K CN spec) := by
  refine fun_okG F S (fun vs H Q E h => ?_) (fun cdv A outer s H vs Q E hr h => ?_)
  · obtain ⟨F0, ds, Qd, Ed, _, r, hs, _⟩ := h
    rw [r.length]; exact len _ _ _ hs
  · obtain ⟨F0, ds, Qd, Ed, e, r, hs, hq, he⟩ := h
    have R0 := rs_start (N := N) e r (by rw [len _ _ _ hs]; exact hN)
    have post : ∀ {F1 H1 : Hp} {σ : L2.St} {sd : DSt}, Rs K ⟨F0, H, fun _ => False, false⟩ F1 H1 σ sd → Post K F0 H F1 H1 := fun R => ⟨R.grow, R.ext, fun a o z => R.keep a o z (fun q => q), R.new⟩
    refine ⟨_, hbody cdv A outer s H E ⟨F0, H, fun _ => False, false⟩ (fun c _ => Ed c) rfl hr (takes_cxD fun cls d σ H' hw => ?_), F0, _, endP Qd, R0, ⟨fun F1 H1 σ sd _ R q => ?_, fun F1 H1 σ sd v r _ R rv own q => ?_, fun _ _ _ _ _ _ z => z.elim, fun _ _ _ _ _ _ z => z.elim⟩, rd ds Qd Ed hs⟩
    · obtain ⟨c, a, F1, sd, hc, rfl, rfl, R, q⟩ := hw
      exact he c a H' F1 hc (post R) q
    · exact hq .non H1 F1 (.va .none) (post R) .non q
    · refine hq v H1 F1 r (post R) ?_ q
      cases r with
      | no => trivial
      | va d => obtain ⟨v', e1, q⟩ := rv; cases e1; exact q
      | own ds' => obtain ⟨p, vs', e1, h1, h2, h3, h4⟩ := rv; cases e1; exact ⟨p, vs', rfl, h1, h2, h3, h4⟩
      | scr ns => obtain ⟨p, e1, h1⟩ := rv; cases e1; exact ⟨p, rfl, h1⟩
      | exc a => exact Option.some.inj rv
      | ins c es => obtain ⟨p, Cc, dx, fs, e1, h1, h2, h3, oc, h4⟩ := rv; cases e1; exact ⟨p, Cc, dx, fs, rfl, h1, h2, own rfl p rfl, oc, h4⟩
      | well n => obtain ⟨p, a, b, c, e1, h1, h2, h3, h4⟩ := rv; cases e1; exact ⟨p, a, b, c, rfl, h1, h2, own rfl p rfl, h4⟩
theorem rs_startW {F H : Hp} {N : List Str} {p : Addr} {vs : List V} {ds : List PyData} {n : Nat} {a b c : Int} (e : Same F H) (hF : F p = none) (hp : H p = some (.lst [.int a, .int b, .int c])) (hw : WellOk n a b c) (r : RpA K F vs ds) (hl : ds.length + 1 ≤ N.length) :
    Rs K ⟨F, H, fun q => q = p, true⟩ F H (L2.start N (.ref p :: vs)) (slotsW N.length n ds) where
  len := by unfold L2.start slotsW slots0; simp [r.length]; omega
  grow := Same.refl _
  ext := e
  new := fun a o h => .inl h
  keep := fun a o h _ => h
  still := fun a h => h
  slot := fun i => by
    cases i with
    | zero => exact ⟨p, a, b, c, rfl, hp, hF, .inl ⟨rfl, rfl⟩, hw⟩
    | succ i =>
      show SlotOk K _ F H _ (sget (slots0 (N.length - 1) ds) i)
      rcases sget_va (s := sget (slots0 (N.length - 1) ds) i) rfl with ⟨d, h1, h2⟩ | h
      · rw [h2]
        obtain ⟨v, e1, rv⟩ := r.get h1
        exact ⟨v, start_gv (i := i + 1) (by simpa using e1), rv⟩
      · rw [h]; trivial
  sep := fun i j q hij o1 o2 => by
    have z : ∀ k, isOwn (sget (slotsW N.length n ds) k) = true → k = 0 := fun k o => by
      cases k with
      | zero => rfl
      | succ k =>
        have o : isOwn (sget (slots0 (N.length - 1) ds) k) = true := o
        rcases sget_va (s := sget (slots0 (N.length - 1) ds) k) rfl with ⟨d, h1, h2⟩ | h
        · rw [h2] at o; cases o
        · rw [h] at o; cases o
    exact absurd ((z i o1).trans (z j o2).symm) hij
theorem fun_okW {x qual : Str} {st : Stmt} {f : Addr} {fd : FuncData} {N ps : List Str} {k : Nat} {spec : WSpec} {m : MS} (F : Fun K x qual st f fd) (S : FnScope N ps (defScope st)) (hN : ps.length ≤ N.length) (len : ∀ n ds Q, spec n ds Q → ds.length + 1 = ps.length)
    (hbody : ∀ (cdv : Value) (A : Around) (outer : List Env) (s : Shared) (H : Hp) (E : XK) (C : Ct), RoomG k (A.deeper (envOfC qual (defScope st) s.heap.objs.size f cdv)) →
      Takes (cxD P w K mg base N qual (defScope st) f cdv A outer s H E) (wD K C CN fun _ _ => False) → PSs (cxD P w K mg base N qual (defScope st) f cdv A outer s H E) (defBody st) (tDS K C m))
    (rd : ∀ n ds Q, spec n ds Q → m (endW Q) (slotsW N.length n ds)) : FnG P w K mg base (k + 1) f fd ps (spW K spec) := by
  refine fun_okG F S (fun vs H Q E h => ?_) (fun cdv A outer s H vs Q E hr h => ?_)
  · obtain ⟨F0, p, ws, n, a, b, c, ds, Qd, rfl, _, _, _, _, r, hs, _⟩ := h
    have := len _ _ _ hs
    have := r.length
    simp; omega
  · obtain ⟨F0, p, ws, n, a, b, c, ds, Qd, rfl, e, hF, hp, hw, r, hs, hq⟩ := h
    have R0 := rs_startW (N := N) e hF hp hw r (by rw [len _ _ _ hs]; exact hN)
    have post : ∀ {F1 H1 : Hp} {σ : L2.St} {sd : DSt} {n' : Nat}, Rs K ⟨F0, H, fun q => q = p, true⟩ F1 H1 σ sd → sget sd 0 = .well n' → PostW K p F0 H F1 H1 n' := fun {F1 H1 σ sd n'} R h0 => by
      have hs0 := R.slot 0
      rw [h0] at hs0
      obtain ⟨p', a', b', c', _, z2, _, z4, z5⟩ := hs0
      refine ⟨R.grow, R.ext, fun a o za z => R.keep a o z za, R.new, ?_⟩
      rcases z4 with z4 | z4
      · have : p' = p := z4.2
        subst this
        exact ⟨a', b', c', z2, z5⟩
      · cases z4.1
    refine ⟨_, hbody cdv A outer s H E ⟨F0, H, fun q => q = p, true⟩ hr (takes_cxD fun cls d σ H' hw => ?_), F0, _, endW Qd, R0, ⟨fun F1 H1 σ sd _ R q => ?_, fun F1 H1 σ sd v r _ R rv own q => ?_, fun _ _ _ _ _ _ z => z.elim, fun _ _ _ _ _ _ z => z.elim⟩, rd n ds Qd hs⟩
    · obtain ⟨c, a, F1, sd, hc, _, _, R, q⟩ := hw
      exact q.elim
    · obtain ⟨n', h0, q⟩ := q
      exact hq .non H1 F1 (.va .none) n' (post R h0) .non q
    · obtain ⟨n', h0, q⟩ := q
      refine hq v H1 F1 r n' (post R h0) ?_ q
      cases r with
      | no => trivial
      | va d => obtain ⟨v', e1, q⟩ := rv; cases e1; exact q
      | own ds' => obtain ⟨p, vs', e1, h1, h2, h3, h4⟩ := rv; cases e1; exact ⟨p, vs', rfl, h1, h2, h3, h4⟩
      | scr ns => obtain ⟨p, e1, h1⟩ := rv; cases e1; exact ⟨p, rfl, h1⟩
      | exc a => exact Option.some.inj rv
      | ins c es => obtain ⟨p, Cc, dx, fs, e1, h1, h2, h3, oc, h4⟩ := rv; cases e1; exact ⟨p, Cc, dx, fs, rfl, h1, h2, own rfl p rfl, oc, h4⟩
      | well n => obtain ⟨p, a, b, c, e1, h1, h2, h3, h4⟩ := rv; cases e1; exact ⟨p, a, b, c, rfl, h1, h2, own rfl p rfl, h4⟩
end
section
variable {K : PySem.W.Frag} {X : Cx} {C : Ct}
theorem pmk_own0 {c : Addr} {bmB : List Value} {B newId initId : String} {x : Str} {p pos : Pos} (F : ExcBaseFacts B newId initId bmB) (q : PySem.W.excIn X.K c bmB newId = true) (gC : X.mg x = some (.ref c)) (kC : PySem.W.keepIn X.K (.ref c) = true) (r : Raises X (.ref c)) (hg : Gl X x)
    (hdb : (x == ("__debug__" : Str)) = false := by decide) : PMk X (.Call (.Name x p) [] [] pos) (fun _ H Q => Q (.ref c) none H) := by
  intro pins s σ H Q I h
  refine wpAny_Call_Name_kw (ld_glob I hg gC (PySem.W.callWith_K0 I.kIn kC ?_) hdb)
  obtain ⟨bm, N, nm, qn, bs, hdct, sn, sub, ab, col, dd, k0, k1, k2, k3, k5, mN, hC, hN, hni, T⟩ := exc_obj I.kIn q
  obtain ⟨hp, g, d, t, os⟩ := s
  exact wpAny_call_exc_subT F T hC hN hni (fun h' e hm => mk_of I hm r h (I.hok.gone hm.new)) (Nat.zero_le _)
/-- what the written part says of an own error class over ValueError -/
structure ExcCls (K : PySem.W.Frag) (mg : Str → Option Value) (x : Str) (c : Addr) : Prop where
  gC : mg x = some (.ref c)
  q : PySem.W.excIn K c [.type "ValueError", .type "Exception", .type "BaseException", .type "object"] "ValueError.__new__" = true
  kC : PySem.W.keepIn K (.ref c) = true
  b : PySem.W.subIn K (.ref c) (.type "BaseException") = some true
  t : PySem.W.typeIn K (.ref c) = some (.type "type")
theorem pds_raise {CN : String → Option Addr} {W : WD} {cn : String} {x : Str} {c : Addr} {p pos pos2 : Pos} (hc : X.calm = true) (tk : Takes X (wD X.K C CN W)) (T : ExcCls X.K X.mg x c) (hn : CN cn = some c) (hg : Gl X x := by rfl) (hdb : (x == ("__debug__" : Str)) = false := by decide) :
    PS X (.Raise (some (.Call (.Name x p) [] [] pos)) none pos2) (tDS X.K C (mRaise cn W)) := ps_imp (ps_raise hc tk (pmk_own0 PySem.F.excBase_ValueError T.q T.gC T.kC (raises_own T.b T.t) hg hdb)) (by
  rintro D σ H ⟨F, sd, Dd, R, E, h⟩
  exact ⟨cn, c, F, sd, hn, rfl, rfl, R, h⟩)
end
end DL
namespace DL
open PySem PySem.Spec PyProof.Rows L2
/-- a text and a flat thing -/
def kvFlat (kv : PyData × PyData) : Bool := (match kv.1 with | .str _ => true | _ => false) && flatD kv.2
mutual
/-- every dict in it is empty -/
def dE : PyData → Bool
  | .none | .bool _ | .int _ | .str _ => true
  | .list xs => dEs xs
  | .tuple xs => dEs xs
  | .dict kvs => kvs.all kvFlat
def dEs : List PyData → Bool
  | [] => true
  | x :: xs => dE x && dEs xs
end
mutual
def noL : PyData → Bool
  | .none | .bool _ | .int _ | .str _ => true
  | .list _ => false
  | .tuple xs => noLs xs
  | .dict kvs => kvs.all kvFlat
def noLs : List PyData → Bool
  | [] => true
  | x :: xs => noL x && noLs xs
end
section
variable {X : Cx} {pins : List (Addr × Obj)} {σ : L2.St} {H : Hp} {s : Shared} {K : PySem.W.Frag}
theorem flat_reads {F : Hp} {h : Heap} {d : PyData} {v : V} {u : Value} (hf : flatD d = true) (r : Rp K F v d) (rv : RelV v u) : Reads h u d [] := by
  cases r with
  | non => cases rv; exact .none
  | bl b => cases rv; exact .bool b
  | int i => obtain ⟨t, rfl⟩ := rv; exact .int i t
  | str x => obtain ⟨t, rfl⟩ := rv; exact .str x t
  | lst _ _ => cases hf
  | tup _ _ => cases hf
  | dct _ _ => cases hf
  | ins _ _ _ => cases hf
theorem key_str {P : Program} {w : World} {x : Str} {v : Value} (h : (mixKind P w).is (Sum.inr x) v = true) : ∃ t, v = .str x t := by
  have h : Value.isStrOf x v = true := h
  unfold Value.isStrOf at h
  split at h
  · simp at h
    rw [h]
    exact ⟨_, rfl⟩
  · cases h
theorem dict_reads {P : Program} {w : World} {F : Hp} {h : Heap} : ∀ {kvs : List (Key × V)} {es : List (PyData × PyData)} {vs : List (Key × Value)} {l : List DictEntry}, RpD K F kvs es → es.all kvFlat = true → KV kvs vs → Pairs (mixKind P w) l vs → ReadsAll h (l.map fun x => x.key) (es.map fun x => x.1) [] ∧ ReadsAll h (l.map fun x => x.val) (es.map fun x => x.2) [] := by
  intro kvs
  induction kvs with
  | nil =>
    intro es vs l rd _ kv pr
    cases rd
    cases kv
    cases pr
    exact ⟨.nil, .nil⟩
  | cons p kvs ih =>
    intro es vs l rd ha kv pr
    obtain ⟨k, v⟩ := p
    cases rd with
    | cons rd r =>
    cases kv with
    | cons h1 h2 =>
      cases pr with
      | cons p1 p2 p3 =>
        rw [List.all_cons, Bool.and_eq_true] at ha
        obtain ⟨a1, a2⟩ := ih r ha.2 h2 p3
        have hk := ha.1
        unfold kvFlat at hk
        rw [Bool.and_eq_true] at hk
        cases k with
        | inl i => exact absurd hk.1 (by simp [keyD])
        | inr x =>
          rw [← h1.1] at p1
          obtain ⟨t, e⟩ := key_str p1
          refine ⟨?_, ?_⟩
          · rw [List.map_cons, List.map_cons, e]
            exact .cons (.str x t) a1
          · rw [List.map_cons, List.map_cons, p2]
            exact .cons (flat_reads hk.2 rd h1.2) a2
mutual
theorem Rp.reads (I : Inv X pins σ H s) {F : Hp} (e : Same F H) : ∀ (d : PyData) (v : V) (u : Value), Rp X.K F v d → RelV v u → dE d = true → ∃ as, Reads s.heap u d as ∧ (noL d = true → sysModules ∉ as)
  | .none, _, _, h, r, _ => by cases h; cases r; exact ⟨_, .none, fun _ z => nomatch z⟩
  | .bool b, _, _, h, r, _ => by cases h; cases r; exact ⟨_, .bool b, fun _ z => nomatch z⟩
  | .int i, _, _, h, r, _ => by cases h; obtain ⟨t, rfl⟩ := r; exact ⟨_, .int i t, fun _ z => nomatch z⟩
  | .str x, _, _, h, r, _ => by cases h; obtain ⟨t, rfl⟩ := r; exact ⟨_, .str x t, fun _ z => nomatch z⟩
  | .list ds, _, _, h, r, hd => by
    cases h with
    | lst hs ha =>
      cases r
      obtain ⟨z, its, n, rv, e1⟩ := I.hok _ _ (e _ _ hs)
      obtain ⟨as, hr, _⟩ := RpA.reads I e ds _ its ha rv (by simpa [dE] using hd)
      exact ⟨_, .list e1 rfl rfl hr, fun z => by simp [noL] at z⟩
  | .tuple ds, _, _, h, r, hd => by
    cases h with
    | tup hs ha =>
      cases r
      obtain ⟨its, rv, ⟨o, ho, hc, n, hdt⟩, _⟩ := I.tuple (same_t e hs)
      obtain ⟨as, hr, hn⟩ := RpA.reads I e ds _ its ha rv (by simpa [dE] using hd)
      exact ⟨_, .tuple ho hc hdt hr, fun z => hn (by simpa [noL] using z)⟩
  | .dict es, _, _, h, r, hd => by
    cases h with
    | dct hs ha =>
      cases r
      have he : es.all kvFlat = true := by simpa only [dE] using hd
      obtain ⟨z, y, vs, rv, o, es', ep, h1, h2, h3, h4, h5, h6⟩ := I.hok _ _ (e _ _ hs)
      obtain ⟨a1, a2⟩ := dict_reads (h := s.heap) ha he rv h5
      exact ⟨_, .dict h1 h2.1 h3 a1 a2, fun _ hm => by
        simp at hm
        rw [hm] at y
        simp at y⟩
    | ins _ _ _ => cases hd
theorem RpA.reads (I : Inv X pins σ H s) {F : Hp} (e : Same F H) : ∀ (ds : List PyData) (vs : List V) (us : List Value), RpA X.K F vs ds → Vals vs us → dEs ds = true → ∃ as, ReadsAll s.heap us ds as ∧ (noLs ds = true → sysModules ∉ as)
  | [], _, _, h, r, _ => by cases h; cases r; exact ⟨_, .nil, fun _ z => nomatch z⟩
  | d :: ds, _, _, h, r, hd => by
    have hd' : dE d = true ∧ dEs ds = true := by simpa [dEs] using hd
    cases h with
    | cons h1 h2 =>
      cases r with
      | cons r1 r2 =>
        obtain ⟨as, q1, n1⟩ := Rp.reads I e d _ _ h1 r1 hd'.1
        obtain ⟨bs, q2, n2⟩ := RpA.reads I e ds _ _ h2 r2 hd'.2
        refine ⟨_, .cons q1 q2, fun z hm => ?_⟩
        have z' : noL d = true ∧ noLs ds = true := by simpa [noLs] using z
        rcases List.mem_append.mp hm with hm | hm
        · exact n1 z'.1 hm
        · exact n2 z'.2 hm
end
end
end DL
namespace DL
open PySem PySem.Spec PyProof.Rows L2
section
variable {K : PySem.W.Frag} {X : Cx} {C : Ct}
structure RsA (K : PySem.W.Frag) (C : Ct) (F H H0 : Hp) (σ : L2.St) (sd : DSt) (vs : List V) (rs : List S) : Prop where
  len : vs.length = rs.length
  ok : ∀ (i : Nat) (v : V) (r : S), vs[i]? = some v → rs[i]? = some r → RvOk K C F H v r ∧ Fre σ sd v r ∧ (isOwn r = true → ∀ q, v = .ref q → H0 q = none)
  ne : ∀ (i j : Nat) (v w : V) (r u : S), i < j → vs[i]? = some v → vs[j]? = some w → rs[i]? = some r → rs[j]? = some u → isOwn r = true → isOwn u = true → v ≠ w
def tDAR (K : PySem.W.Frag) (C : Ct) (ms : List MR) : TA := fun σ H Q => ∃ F sd Qd, Rs K C F H σ sd ∧ mrs ms sd Qd ∧ ∀ vs H' F' rs sd', Rs K C F' H' σ sd' → Stp σ sd F H F' H' sd' → RsA K C F' H' H σ sd' vs rs → Qd rs sd' → Q vs H'
theorem pdar_nil : PA X [] (tDAR X.K C []) := pa_imp pa_nil (by
  rintro σ H Q ⟨F, sd, Qd, R, h, k⟩
  exact k [] H F [] sd R .refl ⟨rfl, fun i v r h => by simp at h, fun i j v w r u _ h => by simp at h⟩ h)
theorem rv_step {F H F' H' : Hp} {σ : L2.St} {sd sd' : DSt} {v : V} {r : S} (h : RvOk K C F H v r) (fre : Fre σ sd v r) (S : Stp σ sd F H F' H' sd') : RvOk K C F' H' v r ∧ Fre σ sd' v r := by
  refine ⟨SlotOk.grow S.fr (fun q o ho e eh en => ?_) h, fun o q e z => fre o q e (S.ow q z)⟩
  cases e
  have nq := fre ho q rfl
  refine ⟨S.kp q o eh nq, ?_⟩
  cases z : F' q with
  | none => rfl
  | some y =>
    rcases S.nw q y z with z | z | z
    · rw [en] at z; cases z
    · rw [eh] at z; cases z
    · exact (nq z).elim
theorem pdar_cons {e : Expr} {es : List Expr} {m : MR} {ms : List MR} (he : PE X e (tDR X.K C m)) (hr : PA X es (tDAR X.K C ms)) (hs : starEach (e :: es) X.env = (false, eval e X.env) :: starEach es X.env := by rfl) : PA X (e :: es) (tDAR X.K C (m :: ms)) :=
  pa_imp (pa_cons he hr hs) (by
  rintro σ H Q ⟨F, sd, Qd, R, h, k⟩
  refine ⟨F, sd, _, R, h, fun v H1 F1 r sd1 R1 S1 rv fre new h1 => ⟨F1, sd1, _, R1, h1, fun ws H2 F2 us sd2 R2 S2 A h2 => ?_⟩⟩
  obtain ⟨rv2, fre2⟩ := rv_step rv fre S2
  refine k (v :: ws) H2 F2 (r :: us) sd2 R2 (S1.trans S2) ⟨by simp [A.len], fun i v' r' e1 e2 => ?_, fun i j v' w' r' u' hij e1 e2 e3 e4 o1 o2 => ?_⟩ h2
  · cases i with
    | zero => cases e1; cases e2; exact ⟨rv2, fre2, new⟩
    | succ i =>
      obtain ⟨a, b, c⟩ := A.ok i v' r' (by simpa using e1) (by simpa using e2)
      exact ⟨a, b, fun o q e => S1.st q (c o q e)⟩
  · cases j with
    | zero => omega
    | succ j =>
      cases i with
      | succ i => exact A.ne i j v' w' r' u' (by omega) (by simpa using e1) (by simpa using e2) (by simpa using e3) (by simpa using e4) o1 o2
      | zero =>
        cases e1; cases e3
        intro z
        subst z
        obtain ⟨a, b, c⟩ := A.ok j _ u' (by simpa using e2) (by simpa using e4)
        -- what is owned in u' is new behind the first
        have hv : ∃ q o, v = .ref q ∧ H1 q = some o := by
          cases r with
          | no => cases o1
          | va d => cases o1
          | scr d => cases o1
          | exc d => cases o1
          | ins c fs => obtain ⟨q, _, _, _, e, h1, _⟩ := rv; cases e; exact ⟨q, _, rfl, h1⟩
          | own ds => obtain ⟨q, vs, e, h1, _⟩ := rv; cases e; exact ⟨q, _, rfl, h1⟩
          | well n => obtain ⟨q, x, y, z, e, h1, _⟩ := rv; cases e; exact ⟨q, _, rfl, h1⟩
        obtain ⟨q, o, e, hq⟩ := hv
        have := c o2 q e
        rw [hq] at this; cases this)
theorem rsA_tail {F H H0 : Hp} {σ : L2.St} {sd : DSt} {v : V} {r : S} {vs : List V} {rs : List S} {i : Nat} (A : RsA K C F H H0 σ sd (v :: vs) (r :: rs)) : RsA K C F H H0 (σ.set i (some v)) (sset sd i r) vs rs := by
  refine ⟨by simpa using A.len, fun j w u e1 e2 => ?_, fun a b v' w' r' u' hab e1 e2 e3 e4 o1 o2 => A.ne (a + 1) (b + 1) v' w' r' u' (by omega) (by simpa using e1) (by simpa using e2) (by simpa using e3) (by simpa using e4) o1 o2⟩
  obtain ⟨x1, x2, x3⟩ := A.ok (j + 1) w u (by simpa using e1) (by simpa using e2)
  refine ⟨x1, fun o q e z => ?_, x3⟩
  obtain ⟨k, ok, ek⟩ := z
  by_cases hk : k = i
  · subst hk
    have own_r : isOwn r = true ∧ v = .ref q := by
      by_cases hl : k < sd.length
      · rw [sget_sset hl] at ok
        refine ⟨ok, ?_⟩
        by_cases hσ : k < σ.length
        · rw [gv_set hσ] at ek; exact Option.some.inj ek
        · have : gv (σ.set k (some v)) k = none := by
            unfold gv
            rw [List.getElem?_eq_none (by rw [List.length_set]; omega)]
            rfl
          rw [this] at ek; cases ek
      · rw [sget_out (by rw [sset_length]; omega)] at ok; cases ok
    exact A.ne 0 (j + 1) v w r u (by omega) rfl (by simpa using e1) rfl (by simpa using e2) own_r.1 o (own_r.2.trans e.symm)
  · rw [sget_sset_ne hk] at ok
    rw [gv_set_ne hk] at ek
    exact x2 o q e ⟨k, ok, ek⟩
theorem rsA_sets {F H H0 : Hp} : ∀ {is : List Nat} {vs : List V} {rs : List S} {σ : L2.St} {sd : DSt}, Rs K C F H σ sd → RsA K C F H H0 σ sd vs rs → Rs K C F H ((is.zip vs).foldl (fun σ p => σ.set p.1 (some p.2)) σ) (ssets sd is rs)
  | [], _, _, _, _, R, _ => by simpa [ssets] using R
  | i :: is, [], rs, σ, sd, R, A => by
    have : rs = [] := by
      have := A.len
      cases rs with
      | nil => rfl
      | cons a l => simp at this
    subst this
    simpa [ssets] using R
  | i :: is, v :: vs, [], σ, sd, R, A => by have := A.len; simp at this
  | i :: is, v :: vs, r :: rs, σ, sd, R, A => by
    obtain ⟨x1, x2, _⟩ := A.ok 0 v r rfl rfl
    exact rsA_sets (σ := σ.set i (some v)) (sd := sset sd i r) (R.setr x1 x2) (rsA_tail A)
def tPar2 (i j : Nat) (ta : TA) : TS := fun D σ H => ta σ H fun vs H1 => ∃ u v, vs = [u, v] ∧ D.nx ((σ.set i (some u)).set j (some v)) H1
theorem ps_par2 {i j : Nat} {x y : Str} {a b : Expr} {ta : TA} {px py pt pos : Pos} {kt k2 pt2} (hc : X.calm = true) (hN : X.N.Nodup) (hi : X.N[i]? = some x) (hj : X.N[j]? = some y) (hij : i ≠ j)
    (hx : X.env.scope.names.lookup x = some .local) (hy : X.env.scope.names.lookup y = some .local) (ha : PA X [a, b] ta)
    (hw : swappedStores [.Tuple [.Name x px, .Name y py] kt pt] (.Tuple [a, b] k2 pt2) X.env = pure (some [x, y])) (hs : swapsWithSole [.Tuple [.Name x px, .Name y py] kt pt] (.Tuple [a, b] k2 pt2) pos.line X.env = pure false := by rfl) :
    PS X (.Assign [.Tuple [.Name x px, .Name y py] kt pt] (.Tuple [a, b] k2 pt2) pos) (tPar2 i j ta) := by
  refine ⟨fun pins s σ H D I h => ?_⟩
  rw [exec_Assign_arm]
  refine wpAny_bind (wpAny_standAt ?_)
  rw [hs]
  refine wpAny_bind (wpAny_pure ?_)
  rw [if_neg (by decide)]
  refine wpAny_bind (Tuple_ (thn (ha.run _ pins s σ H _ I h) fun us s1 hh => ?_))
  obtain ⟨vs, H1, I1, r1, v1, v2, rfl, q1⟩ := hh
  obtain ⟨u1, u2, rfl, ra, rb⟩ := vals2 r1
  refine wpAny_newObj_type ?_ (by show 2 ≤ sizeLine; decide)
  have I2 : Inv X pins σ H1 { s1 with heap := s1.heap.push { cls := .type "tuple", data := .seq [u1, u2].toArray }, toks := s1.toks } := I1.kept fun _ _ e => Heap.get?_push_of_some _ e
  rw [hw]
  refine wpAny_bind (wpAny_pure ?_)
  show wpAny (model X.prog X.w) X.A (do rule "assign.swapped-stores"; let got ← unpackItems (.ref s1.heap.objs.size) 2 none; assignInOrder [fun v => bindName X.env y v, fun v => bindName X.env x v] got.reverse; pure Flow.next) _ _ _
  refine wpAny_bind (wpAny_rule (wpAny_bind (unpackItems_tuple (items := #[u1, u2]) (I.ok.hd hc) (IsTup.new s1.heap _) fun h' hx' => ?_)))
  have I3 := I2.kept (h' := h') (t' := s1.toks) fun b o e => hx' b o (Nat.ne_of_lt (Heap.lt_size e)) e
  show wpAny _ _ (assignInOrder [fun v => bindName X.env y v, fun v => bindName X.env x v] [u2, u1] >>= fun _ => pure Flow.next) _ _ _
  refine wpAny_bind (assignInOrder_cons (wpAny_bindName (store_ok I3 hN hj (.inl hy) rb (fun s2 I4 => assignInOrder_cons (wpAny_bindName (store_ok I4 hN hi (.inl hx) ra (fun s3 I5 => assignInOrder_nil (wpAny_pure ?_)) (.inr hx)))) (.inr hy))))
  rw [List.set_comm _ _ (Ne.symm hij)] at I5
  exact ⟨_, H1, I5, q1⟩
theorem pds_par2 {tg e : Expr} {pos : Pos} {i j : Nat} {m1 m2 : MR} (t : PS X (.Assign [tg] e pos) (tPar2 i j (tDAR X.K C [m1, m2]))) : PS X (.Assign [tg] e pos) (tDS X.K C (mAsgM [i, j] [m1, m2])) := ps_imp t (by
  rintro D σ H ⟨F, sd, Dd, R, E, h⟩
  refine ⟨F, sd, _, R, h, fun vs H1 F1 rs sd1 R1 S1 A q => ?_⟩
  obtain ⟨ql, q⟩ := q
  have hl := A.len
  obtain ⟨r1, r2, rfl⟩ : ∃ r1 r2, rs = [r1, r2] := by
    match rs, ql with
    | [r1, r2], _ => exact ⟨r1, r2, rfl⟩
  obtain ⟨u, v, rfl⟩ : ∃ u v, vs = [u, v] := by
    match vs, hl with
    | [u, v], _ => exact ⟨u, v, rfl⟩
  exact ⟨u, v, rfl, E.nx F1 H1 _ _ S1.fr (rsA_sets (is := [i, j]) R1 A) q⟩)
theorem pdt_chain {op op'} {r r' : R2} {f g : PyData → PyData → Option PyData} {a b c : Expr} {ma mb mc : ME} {pos : Pos} (L : RL2 X.K r f) (L' : RL2 X.K r' g)
    (t : PT X (.Compare a [op, op'] [b, c] pos) (tTest (tChain r r' (tD X.K C ma) (tD X.K C mb) (tD X.K C mc)))) : PT X (.Compare a [op, op'] [b, c] pos) (tDT X.K C (mT (mChain f g ma mb mc))) := pt_imp t (by
  refine td_test (te := tChain r r' (tD X.K C ma) (tD X.K C mb) (tD X.K C mc)) ?_
  rintro σ H Q ⟨F, sd, Qd, R, h, k⟩
  refine ⟨F, sd, _, R, h, fun x H1 F1 a sd1 R1 S1 rx h1 => ⟨F1, sd1, _, R1, h1, fun y H2 F2 b sd2 R2 S2 ry h2 => ?_⟩⟩
  obtain ⟨cc, e, q⟩ := h2
  refine L F2 H2 x y a b (.bool cc) _ R2.ext (fun p => R2.free) (rx.mono S2.fr) ry e fun v F' H' al rz => ?_
  cases rz
  refine ⟨cc, rfl, ?_⟩
  have S' := (S1.trans S2).trans (.al R2 al)
  cases cc with
  | true =>
    refine ⟨F', sd2, _, R2.al al, q, fun w H3 F3 d sd3 R3 S3 rw_ h3 => ?_⟩
    obtain ⟨z2, e2, q2⟩ := h3
    exact L' F3 H3 y w b d z2 _ R3.ext (fun p => R3.free) (ry.mono ((Stp.al R2 al).fr.trans S3.fr)) rw_ e2 fun v F4 H4 al2 rz2 => k v H4 F4 z2 sd3 (R3.al al2) ((S'.trans S3).trans (.al R3 al2)) rz2 q2
  | false => exact k (.bl false) H' F' _ sd2 (R2.al al) S' (.bl false) q)
theorem pd_lenScr {i : Nat} {x y : Str} {p p2 pos : Pos} (hm : X.mg "len" = none) (hN : X.N[i]? = some y) (hv : Vis X.env.scope y) (hd : (y == ("__debug__" : Str)) = false := by decide) (hcd : (y == ("__classdict__" : Str)) = false := by decide) (hg : Gl X "len" := by rfl)
    (he : starEach (.Name y p2 :: []) X.env = (false, eval (.Name y p2) X.env) :: starEach [] X.env := by rfl) (hpl : (backTo pos (starEach [] X.env)).any (·.1) = false := by rfl) :
    PE X (.Call (.Name "len" p) [.Name y p2] [] pos) (tD X.K C (mLenScr i)) := pe_imp (pe_callB call_len_seq hg hm (by decide +kernel) (pa_cons (pe_var hN hv hd hcd) pa_nil he) (by decide) (by decide) he hpl) (by
  rintro σ H Q ⟨F, sd, Qd, R, ⟨ns, hs, h⟩, k⟩
  have hi := R.slot i
  rw [hs] at hi
  obtain ⟨p, e1, e2⟩ := hi
  refine ⟨.ref p, gv_some.mp e1, p, _, rfl, .inl (R.ext.seq e2), ?_⟩
  rw [List.length_map]
  exact k _ H F _ sd R .refl (.int _) h)
end
end DL
namespace DL
open PySem PySem.Spec PyProof.Rows L2
/-- what a law's def promises: handed a script, it returns True -/
def spL (K : PySem.W.Frag) : Sp := fun vs H Q _ => ∃ (a : Addr) (ns : List Int), vs = [.ref a] ∧ SqL K H a (ns.map V.int) ∧ ns.length ≤ 63 ∧ (∀ z ∈ ns, Builtin.Int.intBits z ≤ 1048576) ∧ ∀ H', Q (.bl true) H'
section
variable {P : Program} {w : World} {K : PySem.W.Frag} {mg : Str → Option Value} {base : Heap} {CN : String → Option Addr}
theorem fun_okL {x qual s0 : Str} {st : Stmt} {f : Addr} {fd : FuncData} {N : List Str} {k : Nat} {m : MS} (F : Fun K x qual st f fd) (SC : FnScope N [s0] (defScope st)) (hN : 1 ≤ N.length)
    (hbody : ∀ (cdv : Value) (A : Around) (outer : List Env) (s : Shared) (H : Hp) (E : XK) (C : Ct), C.isW = false → RoomG k (A.deeper (envOfC qual (defScope st) s.heap.objs.size f cdv)) →
      Takes (cxD P w K mg base N qual (defScope st) f cdv A outer s H E) (wD K C CN fun _ _ => False) → PSs (cxD P w K mg base N qual (defScope st) f cdv A outer s H E) (defBody st) (tDS K C m))
    (rd : ∀ ns : List Int, ns.length ≤ 63 → (∀ z ∈ ns, Builtin.Int.intBits z ≤ 1048576) → m endL (.scr ns :: List.replicate (N.length - 1) .no)) : FnG P w K mg base (k + 1) f fd [s0] (spL K) := by
  refine fun_okG F SC (fun vs H Q E h => ?_) (fun cdv A outer s H vs Q E hr h => ?_)
  · obtain ⟨a, ns, rfl, _⟩ := h; rfl
  · obtain ⟨a, ns, rfl, hS, hl, hb, hq⟩ := h
    have no : ∀ (k i : Nat), sget (List.replicate k S.no) i = .no := by
      intro k
      induction k with
      | zero => intro _; rfl
      | succ k ih => intro i; cases i with
        | zero => rfl
        | succ i => exact ih i
    have own : ∀ i, isOwn (sget (S.scr ns :: List.replicate (N.length - 1) S.no) i) = false := fun i => by
      cases i with
      | zero => rfl
      | succ i => show isOwn (sget (List.replicate (N.length - 1) S.no) i) = false; rw [no]; rfl
    have R0 : Rs K ⟨H, H, fun _ => False, false⟩ H H (L2.start N [.ref a]) (.scr ns :: List.replicate (N.length - 1) .no) := by
      refine ⟨?_, Same.refl _, Same.refl _, fun a o h => .inl h, fun a o h _ => h, fun a h => h, fun i => ?_, fun i j p _ o => ?_⟩
      · unfold L2.start; simp
      · cases i with
        | zero => exact ⟨a, rfl, hS⟩
        | succ i => show SlotOk K _ H H _ (sget (List.replicate (N.length - 1) S.no) i); rw [no]; trivial
      · rw [own] at o; cases o
    refine ⟨_, hbody cdv A outer s H E ⟨H, H, fun _ => False, false⟩ rfl hr (takes_cxD fun cls d σ H' hw => ?_), H, _, endL, R0, ⟨fun F1 H1 σ sd _ R q => q.elim, fun F1 H1 σ sd v r _ R rv _ q => ?_, fun _ _ _ _ _ _ z => z.elim, fun _ _ _ _ _ _ z => z.elim⟩, rd ns hl hb⟩
    · obtain ⟨c, a, F1, sd, hc, _, _, R, q⟩ := hw
      exact q.elim
    · have q : r = .va (.bool true) := q
      subst q
      obtain ⟨v', e1, q⟩ := rv
      cases e1
      cases q
      exact hq H1
/-- the promise at the heap behind the top -/
theorem end_call {mb : Str → Option Value} {k : Nat} {fa a : Addr} {fd : FuncData} {x : Str} {s₁ : Shared} {vs : List Value} {ns : List Int} (KX : K.In s₁.heap) (hns : s₁.heap.Ns mainGlobals mg) (hb : s₁.heap.Ns builtinsNs mb)
    (hbb : ∀ x : Str, x ≠ "__name__" → mb x = bootBuiltins x) (hlim : s₁.heap.NoLimit) (hg : s₁.gens = #[]) (ha : s₁.heap.get? a = some { cls := .type "list", data := .seq vs.toArray }) (hi : IntsAre vs ns) (h63 : ns.length ≤ 63) (hbits : ∀ z ∈ ns, Builtin.Int.intBits z ≤ 1048576)
    (hr : RoomG k callerA) (F : ∀ base : Heap, K.In base → base.Ns mainGlobals mg → FnG P w K mg base k fa fd [x] (spL K)) (hbind : ∀ (s : Shared) (u : Value), BindsTo s fd ⟨[u], []⟩ [(x, u)]) :
    codeAny (model P w) callerA (.call (.ref fa) ⟨[.ref a], []⟩) (fun r s' => r = .ok (.ret (.bool true)) ∧ OldK s₁.heap s'.heap ∧ s'.os = s₁.os ∧ AllBare s'.gens) s₁ := by
  have rv := vals_ints hi
  have hl : ns.length ≤ sizeLine := Nat.le_trans h63 (by decide)
  -- the script alone may be tracked, and only if the written part does not have it
  let o₀ : Obj := { cls := .type "list", data := .seq vs.toArray }
  let H : Hp := fun b => if b = a ∧ K.lookup a = none then some (.frz o₀ (.lst (ns.map V.int))) else none
  have hH : ∀ {b u}, H b = some u → b = a ∧ K.lookup a = none ∧ u = .frz o₀ (.lst (ns.map V.int)) := fun {b u} e => by
    by_cases c : b = a ∧ K.lookup a = none
    · have e2 := (if_pos c).symm.trans e
      exact ⟨c.1, c.2, (Option.some.inj e2).symm⟩
    · have e2 := (if_neg c).symm.trans e
      cases e2
  have hS : SqL K H a (ns.map V.int) := by
    cases q : K.lookup a with
    | none => exact .inl (.inr ⟨o₀, if_pos ⟨rfl, q⟩⟩)
    | some o =>
      have e := (KX a o q).symm.trans ha
      cases e
      exact .inr ⟨o₀, vs.toArray, 0, q, rfl, rfl, rfl, by rw [List.size_toArray, hi.length]; exact hl, by simpa using rv⟩
  have hok : HOk P w H s₁.heap := fun b u e => by
    obtain ⟨rfl, _, rfl⟩ := hH e
    exact ⟨ha, by rw [List.length_map]; exact hl, vs, _, rv, ha⟩
  -- the heap without it
  have hid : ∀ {b : Addr} {o : Obj}, s₁.heap.get? b = some o → (b = a → o ≠ o₀ ∨ K.lookup a ≠ none) → (hidT s₁.heap H).get? b = some o := fun {b o} e n => hidT_get e (by
    cases q : H b with
    | none => rfl
    | some u =>
      obtain ⟨e1, e2, _⟩ := hH q
      rcases n e1 with z | z
      · subst e1; rw [ha] at e; exact absurd (Option.some.inj e).symm z
      · exact absurd e2 z)
  have names : ∀ {b : Addr} {m : Str → Option Value}, s₁.heap.Ns b m → (hidT s₁.heap H).Ns b m := fun {b m} h => by
    obtain ⟨o, es, ep, e, d, r⟩ := h
    refine ⟨o, es, ep, hid e fun _ => .inl fun z => ?_, d, r⟩
    subst z
    cases d
  have kin : K.In (hidT s₁.heap H) := fun b o e => hid (KX b o e) fun z => .inr (by subst z; rw [e]; exact fun q => nomatch q)
  have lim : (hidT s₁.heap H).NoLimit := by
    obtain ⟨mc, h1, h2⟩ := hlim
    exact ⟨mc, names h1, h2⟩
  have e0 : Env0 P w K mg (hidT s₁.heap H) callerA [] s₁ H := ⟨rfl, ⟨kin, names hns, ⟨mb, names hb, hbb⟩, lim⟩, fun b o e => of_hidT e, Nat.le_of_eq (hidT_size _ _), trivial, (fun b hb => nomatch hb), hok, .of_eq hg⟩
  refine codeAny_mono ((F _ kin (names hns)).run (H := H) (us := [.ref a]) (vs := [.ref a]) (Q := fun v _ => v = .bl true) (E := fun _ _ _ => False) hr e0 (hbind s₁ (.ref a)) (.cons rfl .nil) ⟨a, ns, rfl, hS, h63, hbits, fun _ => rfl⟩) fun r s' h => ?_
  cases r with
  | error e =>
    obtain ⟨_, _, _, _, _, _, _, _, _, _, _, _, z⟩ := h
    exact z.elim
  | ok fl =>
    cases fl with
    | next => exact h.elim
    | brk => exact h.elim
    | cont => exact h.elim
    | ret u =>
      obtain ⟨v, H', os, bare, un, hok', r', q⟩ := h
      have q : v = .bl true := q
      subst q
      have r' : u = Value.bool true := r'
      subst r'
      refine ⟨rfl, OldK.of_keep fun b o e => ?_, os, bare⟩
      cases q : H b with
      | none => exact un.keep b o e q (fun z => nomatch z) (fun z => nomatch z)
      | some u =>
        obtain ⟨rfl, h2, rfl⟩ := hH q
        have e2 := (hok' b _ (un.frzs b _ _ q)).1
        rw [ha] at e
        cases e
        exact e2
end
/-- the goal that k_head leaves, from the promise of the law's def -/
theorem end_law {l : PySem.W.OpenLaw} {k : Nat} {q : Program} {loose : List Str} {XP : (Str → Option Value) → Heap → Prop} {YP : World → Heap → Prop} {d : DefRec} {K : Params → PySem.W.Frag} {x : Str}
    (hn : l.most = some 63) (hdf : d.params.defaults = []) (hr : RoomG k callerA) (hY : ∀ (w : World) (h : Heap), YP w h → (K w.params).In h)
    (F : ∀ (w : World) (mg : Str → Option Value) (fa : Addr) (h : Heap), (K w.params).In h → h.Ns mainGlobals mg → mg d.name = some (.ref fa) →
      ∃ fd : FuncData, (∀ (s : Shared) (u : Value), BindsTo s fd ⟨[u], []⟩ [(x, u)]) ∧ ∀ base : Heap, (K w.params).In base → base.Ns mainGlobals mg → FnG l.prog w (K w.params) mg base k fa fd [x] (spL (K w.params))) :
    PySem.W.WalkO q loose XP YP l.row.toRowW d [] (fun f vs => PySem.call f vs) := by
  refine Att.attach_callB hn hdf fun w s₀ s₁ mg mb fa o pm cd doc a vs ns G Y ho hd hcd hmg hobj hints hlen hbits hg => ?_
  obtain ⟨fd, hb, hF⟩ := F w mg fa _ (hY w _ Y) G.T.g hmg
  exact end_call (hY w _ Y) G.T.g G.T.b G.T.builtins G.T.nolimit hg hobj hints hlen hbits hr hF hb
end DL
namespace DL
open PySem PySem.Spec PyProof.Rows L2
theorem RoomG.u64 {k : Nat} {A : Around} (h : RoomG k A) : A.units + 64 < cLine := by have := h.r.un; omega
section
variable {X : Cx} {C : Ct}
theorem dv (i : Nat) {x : Str} {pos : Pos} (hN : X.N[i]? = some x := by rfl) (hv : Vis X.env.scope x := by first | exact Or.inl rfl | exact Or.inr (Or.inl rfl) | exact Or.inr (Or.inr rfl)) (hd : (x == ("__debug__" : Str)) = false := by decide)
    (hcd : (x == ("__classdict__" : Str)) = false := by decide) : PE X (.Name x pos) (tD X.K C (mVar i)) := pd_var hN hv hd hcd
/-- a raise that cannot be -/
theorem takesF {K : PySem.W.Frag} {CN : String → Option Addr} : Takes X (wD K C CN wF) := takes0.imp fun cls d σ H h => by
  obtain ⟨_, _, _, _, _, _, _, _, q⟩ := h
  exact q.elim
theorem dg (i : Nat) {x : Str} {pos : Pos} (hN : X.N.Nodup) (hi : X.N[i]? = some x := by rfl) (hx : Loc X.env.scope x := by first | exact Or.inl rfl | exact Or.inr rfl) (hf : X.fn x = true ∨ X.env.scope.names.lookup x = some .local := by first | exact .inl rfl | exact .inr rfl) :
    PG X (.Name x pos) (tDG X.K C (mgName i)) := pdg_name hN hi hx hf
theorem gcons {e : Expr} {es : List Expr} {g : MG} {gs : MGs} (h1 : PG X e (tDG X.K C g)) (h2 : PGs X es (tDGs X.K C gs)) (hs : (assignEach (e :: es) X.env).map (·.2) = assign e X.env :: (assignEach es X.env).map (·.2) := by rfl) : PGs X (e :: es) (tDGs X.K C (mgCons g gs)) := pdgs_cons h1 h2 (pgs_cons h1 h2 hs)
theorem gvcons {vs : List Nat} {e : Expr} {es : List Expr} {g : MG} {gs : MGs} (h1 : PG X e (tDGv X.K C vs g)) (h2 : PGs X es (tDGsv X.K C vs gs)) (hs : (assignEach (e :: es) X.env).map (·.2) = assign e X.env :: (assignEach es X.env).map (·.2) := by rfl) : PGs X (e :: es) (tDGsv X.K C vs (mgCons g gs)) := pdgsv_cons (pgs_cons h1 h2 hs)
theorem dgv (i : Nat) {vs : List Nat} {x : Str} {pos : Pos} (hN : X.N.Nodup) (hv : i ∈ vs := by decide) (hi : X.N[i]? = some x := by rfl) (hx : Loc X.env.scope x := by first | exact Or.inl rfl | exact Or.inr rfl) (hf : X.fn x = true ∨ X.env.scope.names.lookup x = some .local := by first | exact .inl rfl | exact .inr rfl) :
    PG X (.Name x pos) (tDGv X.K C vs (mgName i)) := pdgv_name hv (pg_name hN hi hx hf)
theorem d_range1 {tg a : Expr} {p pos : Pos} {m : MA} (hm : X.mg "range" = none) (h : PA X [a] (tDA X.K C m)) (hg : Gl X "range" := by rfl) (hs : starEach [a] X.env = [(false, eval a X.env)] := by rfl) : PI X tg (.Call (.Name "range" p) [a] [] pos) (tDI X.K C (miRng1 m)) :=
  pdi_range1 hm h hg (pi_range1 hg hm h hs)
end
end DL
namespace DL
open PySem PySem.Spec PyProof.Rows L2 HT
end DL
namespace DL
open PySem PySem.Spec PyProof.Rows L2
section
variable {P : Program} {w : World} {K : PySem.W.Frag} {mg : Str → Option Value} {base : Heap} {CN : String → Option Addr}
theorem psw {N : List Str} {qual : Str} {sc : Scope} {f : Addr} {cdv : Value} {A : Around} {outer : List Env} {s : Shared} {H : Hp} {E : XK} :
    PassesOwn (model (cxD P w K mg base N qual sc f cdv A outer s H E).prog (cxD P w K mg base N qual sc f cdv A outer s H E).w) (cxD P w K mg base N qual sc f cdv A outer s H E).A (cxD P w K mg base N qual sc f cdv A outer s H E).env (cxD P w K mg base N qual sc f cdv A outer s H E).xe := passes_of (X := cxD P w K mg base N qual sc f cdv A outer s H E) rfl
theorem paired_len {α β : Type} {R : α → β → Prop} : ∀ {as : List α} {bs : List β}, Paired R as bs → as.length = bs.length
  | _, _, .nil => rfl
  | _, _, .cons _ r => by simp [paired_len r]
def dDraw : WSpec := fun n ds Q => ∃ m : Int, ds = [.int m] ∧ 1 ≤ n ∧ 1 ≤ m ∧ m.natAbs.log2 < 9000 ∧ ∀ r : Int, 0 ≤ r → r < m → Q (.va (.int r)) (n - 1)
def spWell (K : PySem.W.Frag) : Sp := fun vs H Q _ => ∃ (a : Addr) (ns : List Int) (k : Int), vs = [.ref a, .int k] ∧ SqL K H a (ns.map V.int) ∧ ns.length ≤ 63 ∧ (∀ z ∈ ns, Builtin.Int.intBits z ≤ 1048576) ∧ 0 ≤ k ∧ k < 2 ^ 20 ∧
  ∀ H' p x y z, Same H H' → H p = none → H' p = some (.lst [.int x, .int y, .int z]) → WellOk (2 ^ 60) x y z → Q (.ref p) H'
structure CalL (P : Program) (w : World) (K : PySem.W.Frag) (mg : Str → Option Value) (base : Heap) (k : Nat) (x : Str) : Prop where
  ex : ∃ f fd ps, FnG P w K mg base k f fd ps (spWell K) ∧ mg x = some (.ref f) ∧ PySem.W.keepIn K (.ref f) = true ∧ Binds K fd ps []
end
/-- the well from the script in slot i -/
def mWell (i : Nat) (me : ME) : MR := fun sd Q => (∃ ns, sget sd i = .scr ns) ∧ me sd fun d s1 => ∃ ns k, sget s1 i = .scr ns ∧ ns.length ≤ 63 ∧ (∀ z ∈ ns, Builtin.Int.intBits z ≤ 1048576) ∧ d = .int k ∧ 0 ≤ k ∧ k < 2 ^ 20 ∧ Q (.well (2 ^ 60)) s1
section
variable {K : PySem.W.Frag} {X : Cx} {C : Ct}
theorem td_well {i : Nat} {me : ME} {E : L2.St → XK} (hw : C.isW = false) : ∀ σ H Q, tDR K C (mWell i me) σ H Q → tCallG (spWell K) E (tCons (tVar i) (tCons (tD K C me) tNil)) σ H Q := by
  rintro σ H Q ⟨F, sd, Qd, R, ⟨⟨n0, hn0⟩, h⟩, k⟩
  have hi := R.slot i
  rw [hn0] at hi
  obtain ⟨p, e1, _⟩ := hi
  refine ⟨.ref p, gv_some.mp e1, F, sd, _, R, h, fun v H1 F1 d sd1 R1 S1 rv h1 => ?_⟩
  obtain ⟨ns, kk, hs, hl, hb, rfl, k0, k1, q⟩ := h1
  have hi1 := R1.slot i
  rw [hs] at hi1
  obtain ⟨p', z1, z2⟩ := hi1
  rw [e1] at z1; cases z1
  cases rv
  refine ⟨p, ns, kk, rfl, R1.ext.seq z2, hl, hb, k0, k1, fun H' p2 x y z sm hp hn ok => ?_⟩
  have S2 : Stp σ sd1 F1 H1 F1 H' sd1 := ⟨Same.refl _, fun a o e _ => sm a o e, fun _ z => z, fun a o e => .inl e, fun a e => by
    cases q : H1 a with
    | none => rfl
    | some o => rw [sm a o q] at e; cases e⟩
  have hF : F1 p2 = none := R1.free hp
  have R2 : Rs K C F1 H' σ sd1 := by
    refine ⟨R1.len, R1.grow, fun a o e => sm a o (R1.ext a o e), R1.new, fun a o e n => sm a o (R1.keep a o e n), fun a e => R1.still a (S2.st a e), fun j => (R1.slot j).grow (Same.refl _) fun q x o e eh en => ⟨sm q x eh, en⟩, R1.sep⟩
  refine k _ H' F1 (.well (2 ^ 60)) sd1 R2 (S1.trans S2) ⟨p2, x, y, z, rfl, hn, hF, .inr ⟨hw, R1.still p2 hp⟩, ok⟩ (fun _ q e => by cases e; exact (R1.fresh hp).1) (fun _ q e => by cases e; exact S1.st p2 hp) q
theorem pdr_well {i : Nat} {me : ME} {x y : Str} {e2 : Expr} {p p2 pos : Pos} {k j : Nat} {W : WX} (hw : C.isW = false) (c : CalL X.prog X.w X.K X.mg X.base k x) (hr : RoomG j X.A) (hk : k ≤ j) (tk : Takes X W) (hy : PE X (.Name y p2) (tVar i)) (he2 : PE X e2 (tD X.K C me)) (hg : Gl X x := by rfl)
    (hdb : (x == ("__debug__" : Str)) = false := by decide) (he : starEach (.Name y p2 :: [e2]) X.env = (false, eval (.Name y p2) X.env) :: starEach [e2] X.env := by rfl) (he1 : starEach (e2 :: []) X.env = (false, eval e2 X.env) :: starEach [] X.env := by rfl) (hpl : (backTo pos (starEach [e2] X.env)).any (·.1) = false := by rfl) :
    PE X (.Call (.Name x p) [.Name y p2, e2] [] pos) (tDR X.K C (mWell i me)) := by
  obtain ⟨f, fd, ps, F, hm, hkp, hb⟩ := c.ex
  exact pe_imp (pe_callG F (hr.mono hk) hg hm hkp hb (passAt tk) (pa_cons hy (pa_cons he2 pa_nil he1) he) hdb he hpl) (td_well hw)
end
end DL
namespace DL
open PySem PySem.Spec PyProof.Rows L2
/-- a + b of lists, a new list that nobody else holds -/
def mrCat (ma mb : ME) : MR := fun sd Q => ma sd fun a s1 => mb s1 fun b s2 => ∃ xs ys, a = .list xs ∧ b = .list ys ∧ xs.length + ys.length ≤ 100000 ∧ Q (.own (xs ++ ys)) s2
section
variable {K : PySem.W.Frag} {X : Cx} {C : Ct}
theorem pdt_ofw {e : Expr} {t : MT} (h : PW X e (tDT X.K C t)) : PT X e (tDT X.K C t) := h.pt
theorem cmpI_bl {p : Int → Int → Bool} {a b z : PyData} (h : cmpI p a b = some z) : ∃ k, z = .bool k := by
  unfold cmpI at h
  split at h
  · cases h; exact ⟨_, rfl⟩
  · cases h
theorem eq_bl {a b z : PyData} (h : opEq a b = some z) : ∃ k, z = .bool k := by
  unfold opEq at h
  split at h
  · cases h; exact ⟨_, rfl⟩
  · obtain ⟨p, _, h⟩ := Option.map_eq_some_iff.mp h
    exact ⟨_, h.symm⟩
theorem ne_bl {a b z : PyData} (h : opNe a b = some z) : ∃ k, z = .bool k := by
  unfold opNe at h
  split at h
  · cases h; exact ⟨_, rfl⟩
  · obtain ⟨p, _, h⟩ := Option.map_eq_some_iff.mp h
    exact ⟨_, h.symm⟩
theorem pd_chain2 {op op'} {r r' : R2} {f g : PyData → PyData → Option PyData} {a b c : Expr} {ma mb mc : ME} {pos : Pos} (ho : OpR X (compareOp op) r) (ho' : OpR X (compareOp op') r') (L : RL2 X.K r f) (L' : RL2 X.K r' g)
    (ha : PE X a (tD X.K C ma)) (hb : PE X b (tD X.K C mb)) (hc : PE X c (tD X.K C mc)) (hu : ∀ {a b : PyData} {z : PyData}, f a b = some z → ∃ k, z = .bool k := by first | exact cmpI_bl | exact eq_bl | exact ne_bl)
    (hm : lastMarks [op, op'] [b, c] = false := by with_unfolding_all rfl) : PE X (.Compare a [op, op'] [b, c] pos) (tD X.K C (mChain f g ma mb mc)) := pd_chain ho ho' L L' ha hb hc hu (pe_chain ho ho' ha hb hc hm)
theorem pdt_chain2 {op op'} {r r' : R2} {f g : PyData → PyData → Option PyData} {a b c : Expr} {ma mb mc : ME} {pos : Pos} (ho : OpR X (compareOp op) r) (ho' : OpR X (compareOp op') r') (L : RL2 X.K r f) (L' : RL2 X.K r' g)
    (ha : PE X a (tD X.K C ma)) (hb : PE X b (tD X.K C mb)) (hc : PE X c (tD X.K C mc)) (hm : lastMarks [op, op'] [b, c] = false := by with_unfolding_all rfl) : PT X (.Compare a [op, op'] [b, c] pos) (tDT X.K C (mT (mChain f g ma mb mc))) := pdt_chain L L' (pt_chain ho ho' ha hb hc hm)
end
end DL
namespace DL
open PySem PySem.Spec PyProof.Rows L2
def bTup : List PyData → Option PyData
  | [.list xs] => some (.tuple xs)
  | [.tuple xs] => some (.tuple xs)
  | _ => none
section
variable {K : PySem.W.Frag} {X : Cx} {C : Ct}
theorem pd_tupOf {p pos : Pos} {a : Expr} {m : ME} (hm : X.mg "tuple" = none) (ha : PE X a (tD X.K C m)) (hg : Gl X "tuple" := by rfl) (na : starEach [a] X.env = (false, eval a X.env) :: starEach [] X.env := by rfl) :
    PE X (.Call (.Name "tuple" p) [a] [] pos) (tD X.K C (mCallB bTup (mCons m mNil))) := pe_imp (pe_tupleOf hg hm ha na) (by
  rintro σ H Q ⟨F, sd, Qd, R, h, k⟩
  refine ⟨F, sd, _, R, h, fun x H1 F1 d sd1 R1 S1 rx h1 => ?_⟩
  obtain ⟨r, e, q⟩ := h1
  cases rx with
  | lst h2 r2 =>
    cases e
    refine .inl ⟨_, _, rfl, .inl (.inl (R1.ext _ _ h2)), fun p hp => ?_⟩
    exact k (.ref p) _ _ _ sd1 (R1.al (.new hp)) (S1.trans (.al R1 (.new hp))) (.tup (.inl (.inl upd_same)) (r2.mono (same_new (free_of R1.ext hp)))) q
  | tup h2 r2 =>
    cases e
    exact .inr ⟨_, _, rfl, same_t R1.ext h2, k _ H1 F1 _ sd1 R1 S1 (.tup h2 r2) q⟩
  | _ => cases e)
end
end DL
namespace DL
open PySem
theorem fz_va {d : PyData} : fz (.va d) = some d := rfl
theorem fz_own {ds : List PyData} : fz (.own ds) = some (.list ds) := rfl
section
variable {a b : Int}
theorem opAdd_i : opAdd (.int a) (.int b) = some (.int (a + b)) := rfl
theorem opSub_i : opSub (.int a) (.int b) = some (.int (a - b)) := rfl
theorem opMul_i : opMul (.int a) (.int b) = if small a b = true then some (.int (a * b)) else none := rfl
theorem opMod_i : opMod (.int a) (.int b) = if 0 < b then some (.int (a % b)) else none := rfl
theorem opFdiv_i : opFdiv (.int a) (.int b) = if 0 < b ∧ b.natAbs.log2 < 9000 then some (.int (a / b)) else none := rfl
theorem opPow_i : opPow (.int a) (.int b) = if 0 ≤ b ∧ b ≤ 100 ∧ a.natAbs < 2 ^ 10000 then some (.int (a ^ b.toNat)) else none := rfl
theorem opLt_i : opLt (.int a) (.int b) = some (.bool (decide (a < b))) := rfl
theorem opLe_i : opLe (.int a) (.int b) = some (.bool (decide (a ≤ b))) := rfl
theorem opGt_i : opGt (.int a) (.int b) = some (.bool (decide (b < a))) := rfl
theorem opGe_i : opGe (.int a) (.int b) = some (.bool (decide (b ≤ a))) := rfl
theorem opIsB_b {a b : Bool} : opIsB (.bool a) (.bool b) = some (.bool (decide (a = b))) := rfl
theorem opNotB_b {a b : Bool} : opNotB (.bool a) (.bool b) = some (.bool (!decide (a = b))) := rfl
theorem opIsN_n {d : PyData} : opIsN2 d .none = some (.bool (isN d)) := rfl
theorem opNotN_n {d : PyData} : opNotN2 d .none = some (.bool (!isN d)) := rfl
theorem opNeg_i : opNeg (.int a) = some (.int (-a)) := rfl
theorem bAbs_i : bAbs [.int a] = some (.int (if a < 0 then -a else a)) := rfl
theorem bMax_i : bMax [.int a, .int b] = some (.int (if b > a then b else a)) := rfl
theorem bMin_i : bMin [.int a, .int b] = some (.int (if b < a then b else a)) := rfl
theorem bInt_i : bInt [.int a] = some (.int a) := rfl
theorem bGcd_i : bGcd [.int a, .int b] = some (.int ((Nat.gcd a.natAbs b.natAbs : Nat) : Int)) := rfl
theorem bLen_l {xs : List PyData} : bLen [.list xs] = some (.int (xs.length : Int)) := rfl
theorem bLen_t {xs : List PyData} : bLen [.tuple xs] = some (.int (xs.length : Int)) := rfl
theorem opAdd_t {xs ys : List PyData} : opAdd (.tuple xs) (.tuple ys) = if xs.length + ys.length ≤ 100000 then some (.tuple (xs ++ ys)) else none := rfl
theorem opAdd_l {xs ys : List PyData} : opAdd (.list xs) (.list ys) = if xs.length + ys.length ≤ 100000 then some (.list (xs ++ ys)) else none := rfl
theorem opIx_l {xs : List PyData} : opIx (.list xs) (.int a) = atI xs a := rfl
theorem opIx_t {xs : List PyData} : opIx (.tuple xs) (.int a) = atI xs a := rfl
end
theorem opSl_t {xs : List PyData} {lo hi : Option Int} : opSl (.tuple xs) lo hi = some (.tuple (cutL xs lo hi)) := rfl
theorem opSl_l {xs : List PyData} {lo hi : Option Int} : opSl (.list xs) lo hi = some (.list (cutL xs lo hi)) := rfl
theorem opRev_t {xs : List PyData} : opRev (.tuple xs) = some (.tuple xs.reverse) := rfl
theorem opRev_l {xs : List PyData} : opRev (.list xs) = some (.list xs.reverse) := rfl
theorem bTup_l {xs : List PyData} : bTup [.list xs] = some (.tuple xs) := rfl
theorem bTup_t {xs : List PyData} : bTup [.tuple xs] = some (.tuple xs) := rfl
theorem bList_l {xs : List PyData} : bList [.list xs] = some (.list xs) := rfl
theorem bList_t {xs : List PyData} : bList [.tuple xs] = some (.list xs) := rfl
theorem opEq_b {a b : Bool} : opEq (.bool a) (.bool b) = some (.bool (a == b)) := by
  unfold opEq SeqAt.shaped
  simp [PyData.canLay0, PyData.depth, PyData.eqv]
theorem opNe_b {a b : Bool} : opNe (.bool a) (.bool b) = some (.bool (!(a == b))) := by
  unfold opNe SeqAt.shaped
  simp [PyData.canLay0, PyData.depth, PyData.eqv]
theorem opEq_nn : opEq .none .none = some (.bool true) := by
  unfold opEq SeqAt.shaped
  simp [PyData.canLay0, PyData.depth, PyData.eqv]
theorem mgCons_c {g : MG} {gs : MGs} {d : PyData} {r : List PyData} {sd : DSt} {Q : DSt → Prop} : mgCons g gs (d :: r) sd Q = g d sd fun s1 => gs r s1 Q := propext ⟨fun ⟨_, _, e, h⟩ => by cases e; exact h, fun h => ⟨_, _, rfl, h⟩⟩
theorem mgNil_n {sd : DSt} {Q : DSt → Prop} : mgNil [] sd Q = Q sd := propext ⟨fun h => h.2, fun h => ⟨rfl, h⟩⟩
theorem mgTup_t {n : Nat} {gs : MGs} {ds : List PyData} {sd : DSt} {Q : DSt → Prop} : mgTup n gs (.tuple ds) sd Q = (ds.length = n ∧ gs ds sd Q) := propext ⟨fun ⟨_, e, h⟩ => by cases e; exact h, fun h => ⟨_, rfl, h⟩⟩
theorem mgTup_l {n : Nat} {gs : MGs} {ds : List PyData} {sd : DSt} {Q : DSt → Prop} : mgTup n gs (.list ds) sd Q = (ds.length = n ∧ gs ds sd Q) := propext ⟨fun ⟨_, e, h⟩ => by cases e; exact h, fun h => ⟨_, rfl, h⟩⟩
theorem items_t {xs : List PyData} : items (.tuple xs) = some xs := rfl
theorem items_l {xs : List PyData} : items (.list xs) = some xs := rfl
theorem atI0 {α : Type} {x : α} {r : List α} : atI (x :: r) 0 = some x := by
  unfold atI ixN
  simp
theorem atI1 {α : Type} {x y : α} {r : List α} : atI (x :: y :: r) 1 = some y := by
  unfold atI ixN
  rw [if_pos (by decide), if_pos (by simp only [List.length_cons]; omega)]
  rfl
theorem atI2 {α : Type} {x y z : α} {r : List α} : atI (x :: y :: z :: r) 2 = some z := by
  unfold atI ixN
  rw [if_pos (by decide), if_pos (by simp only [List.length_cons]; omega)]
  rfl
theorem atI3 {α : Type} {x y z w : α} {r : List α} : atI (x :: y :: z :: w :: r) 3 = some w := by
  unfold atI ixN
  rw [if_pos (by decide), if_pos (by simp only [List.length_cons]; omega)]
  rfl
theorem big10 : (10 : Int).natAbs < 2 ^ 10000 := Nat.lt_of_lt_of_le (show (10 : Int).natAbs < 2 ^ 200 by decide +kernel) (Nat.pow_le_pow_right (by decide) (by decide))
theorem opEq_int {a b : Int} : opEq (.int a) (.int b) = some (.bool (decide (a = b))) := by
  unfold opEq SeqAt.shaped
  simp [PyData.canLay0, PyData.depth, PyData.eqv]
  by_cases h : a = b <;> simp [h]
theorem opNe_int {a b : Int} : opNe (.int a) (.int b) = some (.bool (!decide (a = b))) := by
  unfold opNe SeqAt.shaped
  simp [PyData.canLay0, PyData.depth, PyData.eqv]
  by_cases h : a = b <;> simp [h]
theorem opEq_str {a b : Str} : opEq (.str a) (.str b) = some (.bool (decide (a = b))) := by
  unfold opEq
  split
  · have e : PyData.eqv (.str a) (.str b) = decide (a = b) := by
      by_cases h : a = b <;> simp [PyData.eqv, h]
    rw [e]
  · rfl
theorem opNe_str {a b : Str} : opNe (.str a) (.str b) = some (.bool (!decide (a = b))) := by
  unfold opNe
  split
  · have e : PyData.eqv (.str a) (.str b) = decide (a = b) := by
      by_cases h : a = b <;> simp [PyData.eqv, h]
    rw [e]
  · rfl
end DL
namespace DL
open PySem
theorem lcL_run {mg : MG} {mt : MT} {me : ME} {vs : List Nat} {Q : List PyData → DSt → Prop} (I : DSt → Prop) (k : PyData → Option PyData) :
    ∀ ds : List PyData, (∀ d ∈ ds, ∀ s, I s → ∀ (Y : PyData → DSt → Prop) (N : DSt → Prop), (∀ y s3, k d = some y → I s3 → Y y s3) → (∀ s2, k d = none → I s2 → N s2) → mg d (swipe s vs) fun s1 => mt s1 fun b s2 => if b = true then me s2 Y else N s2) →
      ∀ s acc, I s → acc.length + ds.length ≤ 100000 → (∀ s', I s' → Q (acc ++ ds.filterMap k) s') → lcL mg mt me vs Q ds s acc
  | [], _, s, acc, i, _, q => by
    have := q s i
    rw [List.filterMap_nil, List.append_nil] at this
    exact this
  | d :: ds, h, s, acc, i, hl, q => by
    refine h d (by simp) s i _ _ (fun y s3 e i3 => ⟨by simp at hl; omega, ?_⟩) (fun s2 e i2 => ?_)
    · refine lcL_run I k ds (fun d' hd => h d' (by simp [hd])) s3 (acc ++ [y]) i3 (by simp at hl ⊢; omega) fun s' i' => ?_
      have := q s' i'
      rw [List.filterMap_cons_some e] at this
      simpa using this
    · refine lcL_run I k ds (fun d' hd => h d' (by simp [hd])) s2 acc i2 (by simp at hl; omega) fun s' i' => ?_
      have := q s' i'
      rwa [List.filterMap_cons_none e] at this
theorem forL_run {mg : MG} {body : MS} {D : DE} (I : List PyData → DSt → Prop) (hs : ∀ d r s (N : DSt → Prop), I (d :: r) s → (∀ s', I r s' → N s') → mg d s fun s1 => body { D with nx := N, ct := N, bk := D.nx } s1) (he : ∀ s, I [] s → D.nx s) : ∀ ds s, I ds s → forL mg body D ds s
  | [], s, i => he s i
  | d :: r, s, i => hs d r s _ i fun s' i' => forL_run I hs he r s' i'
theorem whileN_run {t : MT} {body : MS} {D : DE} (I : Nat → DSt → Prop) (hs : ∀ n s (N : DSt → Prop), I n s → (∀ m s', m < n → I m s' → N s') → t s fun b s1 => if b = true then body { D with nx := N, ct := N, bk := D.nx } s1 else D.nx s1) :
    ∀ (k n : Nat) (s : DSt), n < k → I n s → whileN t body D k s
  | 0, n, s, h, _ => by omega
  | k + 1, n, s, h, i => hs n s _ i fun m s' hm i' => whileN_run I hs k m s' (by omega) i'
theorem whileM {t : MT} {body : MS} {D : DE} (I : Nat → DSt → Prop) {n : Nat} {s : DSt} (i : I n s) (hs : ∀ n s (N : DSt → Prop), I n s → (∀ m s', m < n → I m s' → N s') → t s fun b s1 => if b = true then body { D with nx := N, ct := N, bk := D.nx } s1 else D.nx s1) : mWhile t body D s :=
  ⟨n + 1, whileN_run I hs (n + 1) n s (Nat.lt_succ_self n) i⟩
end DL
local macro_rules | `(tactic| walk_at "rdm") => `(tactic| simp only [DL.mSeq, DL.mAsg, DL.mAsgR, DL.mAsgM, DL.mrs, DL.ssets, DL.mIf, DL.mRet, DL.mRetN, DL.mrOf, DL.mrLst, DL.mrCat, DL.mrCall, DL.mDrop, DL.mNext, DL.mBreak, DL.mCont, DL.mC, DL.mVar, DL.mOp2, DL.mOp1, DL.mAnd, DL.mOr, DL.mNot, DL.mIfE, DL.mChain, DL.mNil, DL.mCons, DL.mTup, DL.mLst, DL.mCallB, DL.mDict0, DL.mPart, DL.mNoPart, DL.mSl, DL.mCall, DL.mCallK, DL.mCallW, DL.mLenScr, DL.mWell, DL.mT, DL.mTAnd, DL.mTOr, DL.mTNot, DL.mTYes, DL.mgName, DL.mgNil, DL.mgCons, DL.mgTup, DL.miSeq, DL.miRng1, DL.miRng2, DL.mRaise, DL.mApp, DL.mFor, DL.mLc, DL.mrLc, DL.sget, DL.sset, DL.slots0, DL.slotsW, DL.endP, DL.endW, DL.endL, DL.wF, DL.fz_va, DL.fz_own, List.length_cons, List.length_nil, List.map_cons, List.map_nil, List.replicate_succ, List.replicate_zero, Nat.reduceAdd, Nat.reduceSub, Nat.reduceLeDiff, List.cons_append, List.nil_append, Nat.zero_add, Nat.add_zero, Nat.sub_self, Option.some.injEq, PySem.PyData.bool.injEq, PySem.PyData.int.injEq, PySem.PyData.tuple.injEq, PySem.PyData.list.injEq, PySem.PyData.str.injEq, List.cons.injEq, DL.S.va.injEq, DL.S.own.injEq, DL.S.well.injEq, DL.S.scr.injEq, and_true, true_and, exists_eq_left', exists_eq_left, exists_eq_right, exists_eq_right', exists_and_left, exists_and_right, exists_eq, exists_eq', reduceCtorEq, false_and, and_false, exists_const, if_true, if_false, Bool.false_eq_true, reduceIte, Bool.not_true, Bool.not_false, DL.bIsi, List.any_cons, List.any_nil, Bool.or_false, Bool.or_true, Bool.false_or, Bool.true_or, DL.isK, DL.opAdd_i, DL.opSub_i, DL.opMul_i, DL.opMod_i, DL.opFdiv_i, DL.opPow_i, DL.opLt_i, DL.opLe_i, DL.opGt_i, DL.opGe_i, DL.opEq_int, DL.opNe_int, DL.opEq_str, DL.opNe_str, DL.opIsN_n, DL.opNotN_n, DL.isN, DL.opIsB_b, DL.opNotB_b, DL.opNeg_i, DL.bAbs_i, DL.bMax_i, DL.bMin_i, DL.bInt_i, DL.bGcd_i, DL.bLen_l, DL.bLen_t, DL.opAdd_t, DL.opAdd_l, DL.opIx_l, DL.opIx_t, DL.opSl_t, DL.opSl_l, DL.opRev_t, DL.opRev_l, DL.bList_l, DL.bList_t, DL.bTup_l, DL.bTup_t, DL.atI0, DL.atI1, DL.atI2, DL.atI3])
local macro_rules | `(tactic| walk_at "rdn") => `(tactic| simp only [DL.mSeq, DL.mAsg, DL.mAsgR, DL.mAsgM, DL.mrs, DL.ssets, DL.mIf, DL.mRet, DL.mRetN, DL.mrOf, DL.mrLst, DL.mrCat, DL.mrCall, DL.mDrop, DL.mNext, DL.mBreak, DL.mCont, DL.mC, DL.mVar, DL.mOp2, DL.mOp1, DL.mAnd, DL.mOr, DL.mNot, DL.mIfE, DL.mChain, DL.mNil, DL.mCons, DL.mTup, DL.mLst, DL.mCallB, DL.mDict0, DL.mPart, DL.mNoPart, DL.mSl, DL.mCall, DL.mCallK, DL.mCallW, DL.mLenScr, DL.mWell, DL.mT, DL.mTAnd, DL.mTOr, DL.mTNot, DL.mTYes, DL.mgName, DL.mgNil_n, DL.mgCons_c, DL.mgTup_t, DL.mgTup_l, DL.miSeq, DL.miRng1, DL.miRng2, DL.mRaise, DL.mApp, DL.mFor, DL.mLc, DL.mrLc, DL.sget, DL.sset, DL.slots0, DL.slotsW, DL.endP, DL.endW, DL.endL, DL.wF, DL.fz_va, DL.fz_own, List.length_cons, List.length_nil, List.map_cons, List.map_nil, List.replicate_succ, List.replicate_zero, Nat.reduceAdd, Nat.reduceSub, Nat.reduceLeDiff, List.cons_append, List.nil_append, Nat.zero_add, Nat.add_zero, Nat.sub_self, Option.some.injEq, PySem.PyData.bool.injEq, PySem.PyData.int.injEq, PySem.PyData.tuple.injEq, PySem.PyData.list.injEq, PySem.PyData.str.injEq, List.cons.injEq, DL.S.va.injEq, DL.S.own.injEq, DL.S.well.injEq, DL.S.scr.injEq, and_true, true_and, exists_eq_left', exists_eq_left, exists_eq_right, exists_eq_right', exists_and_left, exists_and_right, exists_eq, exists_eq', reduceCtorEq, false_and, and_false, exists_const, if_true, if_false, Bool.false_eq_true, reduceIte, Bool.not_true, Bool.not_false, DL.bIsi, List.any_cons, List.any_nil, Bool.or_false, Bool.or_true, Bool.false_or, Bool.true_or, DL.isK, DL.opAdd_i, DL.opSub_i, DL.opLt_i, DL.opLe_i, DL.opGt_i, DL.opGe_i, DL.opEq_int, DL.opNe_int, DL.opEq_b, DL.opNe_b, DL.opEq_nn, beq_self_eq_true, DL.opEq_str, DL.opNe_str, DL.opIsN_n, DL.opNotN_n, DL.isN, DL.opIsB_b, DL.opNotB_b, DL.opNeg_i, DL.bAbs_i, DL.bMax_i, DL.bMin_i, DL.bInt_i, DL.bGcd_i, DL.bLen_l, DL.bLen_t, DL.opAdd_t, DL.opAdd_l, DL.opIx_l, DL.opIx_t, DL.opSl_t, DL.opSl_l, DL.opRev_t, DL.opRev_l, DL.bList_l, DL.bList_t, DL.bTup_l, DL.bTup_t, DL.atI0, DL.atI1, DL.atI2, DL.atI3, DL.items_t, DL.items_l])
namespace DL
open PySem
theorem bools_map {α : Type} (f : α → Bool) : ∀ xs : List α, bools (xs.map fun x => .bool (f x)) = some (xs.map f)
  | [] => rfl
  | x :: xs => by
    show (bools (xs.map fun x => .bool (f x))).map (f x :: ·) = _
    rw [bools_map f xs]
    rfl
theorem fm_some {α β : Type} (f : α → β) : ∀ xs : List α, xs.filterMap (fun d => some (f d)) = xs.map f
  | [] => rfl
  | x :: xs => by
    rw [List.filterMap_cons]
    simp [fm_some f xs]
end DL
namespace DL
open PySem
/-- a number of at most k binary digits -/
def sz (k : Nat) (z : Int) : Prop := z.natAbs < 2 ^ k
theorem sz_mono {k l : Nat} {z : Int} (h : sz k z) (hl : k ≤ l) : sz l z := Nat.lt_of_lt_of_le h (Nat.pow_le_pow_right (by decide) hl)
theorem sz_neg {k : Nat} {z : Int} (h : sz k z) : sz k (-z) := by
  unfold sz at *
  rwa [Int.natAbs_neg]
theorem sz_mul {k l : Nat} {a b : Int} (ha : sz k a) (hb : sz l b) : sz (k + l) (a * b) := by
  unfold sz at *
  rw [Int.natAbs_mul, Nat.pow_add]
  exact Nat.mul_lt_mul'' ha hb
theorem sz_add {k : Nat} {a b : Int} (ha : sz k a) (hb : sz k b) : sz (k + 1) (a + b) := by
  unfold sz at *
  have := Int.natAbs_add_le a b
  rw [Nat.pow_succ]
  omega
theorem sz_sub {k : Nat} {a b : Int} (ha : sz k a) (hb : sz k b) : sz (k + 1) (a - b) := by
  rw [Int.sub_eq_add_neg]
  exact sz_add ha (sz_neg hb)
theorem sz_le {k : Nat} {a b : Int} (hb : sz k b) (h : a.natAbs ≤ b.natAbs) : sz k a := Nat.lt_of_le_of_lt h hb
theorem sz_mod {k : Nat} {a b : Int} (hb : sz k b) (h : 0 < b) : sz k (a % b) := by
  have h1 := Int.emod_nonneg a (show b ≠ 0 by omega)
  have h2 := Int.emod_lt_of_pos a h
  exact sz_le hb (by omega)
theorem natAbs_div_le (a : Int) {b : Int} (h : 0 < b) : (a / b).natAbs ≤ a.natAbs := Int.natAbs_ediv_le_natAbs a b
theorem sz_div {k : Nat} {a b : Int} (ha : sz k a) (h : 0 < b) : sz k (a / b) := sz_le ha (natAbs_div_le a h)
theorem sz_log {k : Nat} {z : Int} (h : sz k z) : z.natAbs.log2 ≤ k := by
  by_cases h0 : z.natAbs = 0
  · rw [h0, show Nat.log2 0 = 0 by decide]
    exact Nat.zero_le _
  · exact Nat.le_of_lt ((Nat.log2_lt h0).mpr h)
theorem small_sz {a b : Int} {k l : Nat} (ha : sz k a) (hb : sz l b) (h : k + l < 1000000) : small a b = true := by
  have := sz_log ha
  have := sz_log hb
  exact decide_eq_true (by omega)
theorem opMul_ok {a b : Int} {k l : Nat} (ha : sz k a) (hb : sz l b) (h : k + l < 1000000) : opMul (.int a) (.int b) = some (.int (a * b)) := by rw [opMul_i, if_pos (small_sz ha hb h)]
theorem opMod_ok {a b : Int} (h : 0 < b) : opMod (.int a) (.int b) = some (.int (a % b)) := by rw [opMod_i, if_pos h]
theorem opFdiv_ok {a b : Int} {k : Nat} (h : 0 < b) (hb : sz k b) (hk : k < 9000) : opFdiv (.int a) (.int b) = some (.int (a / b)) := by
  have := sz_log hb
  rw [opFdiv_i, if_pos ⟨h, by omega⟩]
end DL
namespace DL
open PySem PySem.Spec PyProof.Rows L2
end DL
namespace DL
open PySem PySem.Spec PyProof.Rows L2
def firstAt (b : PyData) : List PyData → Option Nat
  | [] => none
  | d :: ds => if PyData.eqv d b = true then some 0 else (firstAt b ds).map (· + 1)
def opIdx (xs : List PyData) (b : PyData) : Option PyData := if (flatD b && xs.all flatD) = true then (firstAt b xs).map fun n => .int (n : Nat) else none
section
variable {K : PySem.W.Frag} {X : Cx} {C : Ct}
theorem flats_rp {F : Hp} : ∀ {vs : List V} {ds : List PyData}, RpA K F vs ds → ds.all flatD = true → vs.all flatV = true
  | _, _, .nil, _ => rfl
  | v :: vs, d :: ds, .cons h r, hf => by
    rw [List.all_cons, Bool.and_eq_true] at hf
    rw [List.all_cons, flatV_rp h hf.1, flats_rp r hf.2]
    rfl
theorem first_rp {F : Hp} {y : V} {b : PyData} (ry : Rp K F y b) (hb : flatD b = true) : ∀ {vs : List V} {ds : List PyData} {n : Nat}, RpA K F vs ds → ds.all flatD = true → firstAt b ds = some n →
    ∃ z, vs[n]? = some z ∧ eqV z y = true ∧ ∀ (m : Nat) (z' : V), m < n → vs[m]? = some z' → eqV z' y = false
  | _, _, _, .nil, _, e => by cases e
  | v :: vs, d :: ds, n, .cons h r, hf, e => by
    rw [List.all_cons, Bool.and_eq_true] at hf
    unfold firstAt at e
    by_cases c : PyData.eqv d b = true
    · rw [if_pos c] at e
      cases e
      exact ⟨v, rfl, (eqV_rp h ry hf.1 hb).trans c, fun m z' hm _ => by omega⟩
    · rw [if_neg c] at e
      obtain ⟨k, hk, rfl⟩ := Option.map_eq_some_iff.mp e
      obtain ⟨z, z1, z2, z3⟩ := first_rp ry hb r hf.2 hk
      refine ⟨z, by simpa using z1, z2, fun m z' hm hz => ?_⟩
      cases m with
      | zero =>
        cases hz
        rw [eqV_rp h ry hf.1 hb]
        simpa using c
      | succ m => exact z3 m z' (by omega) (by simpa using hz)
variable {o e : Expr} {apos cpos : Pos} {ma mb : ME}
end
end DL
namespace DL
open PySem PySem.Spec PyProof.Rows L2
theorem RpA.set {K : PySem.W.Frag} {F : Hp} {v : V} {d : PyData} (q : Rp K F v d) : ∀ {vs : List V} {ds : List PyData} (n : Nat), RpA K F vs ds → RpA K F (vs.set n v) (ds.set n d)
  | _, _, _, .nil => .nil
  | _, _, 0, .cons _ r => .cons q r
  | _, _, n + 1, .cons h r => .cons h (RpA.set q n r)
/-- a; b, by what holds between them -/
theorem seq_run {a b : MS} {D : DE} {sd : DSt} (P : DSt → Prop) (h1 : ∀ N : DSt → Prop, (∀ s, P s → N s) → a { D with nx := N } sd) (h2 : ∀ s, P s → b D s) : mSeq a b D sd := h1 _ h2
/-- if t: a else b, where t is known to say c -/
theorem if_run {t : MT} {a b : MS} {D : DE} {sd : DSt} (c : Bool) (ht : ∀ Q : Bool → DSt → Prop, Q c sd → t sd Q) (ha : c = true → a D sd) (hb : c = false → b D sd) : mIf t a b D sd := ht _ (by
  cases c with
  | true => exact ha rfl
  | false => exact hb rfl)
end DL
namespace DL
open PySem PySem.Spec PyProof.Rows L2
def ints? : List PyData → Option (List Int)
  | [] => some []
  | .int i :: r => (ints? r).map (i :: ·)
  | _ :: _ => none
def bSum : List PyData → Option PyData
  | [.list xs] => (ints? xs).map fun ns => .int ns.sum
  | [.tuple xs] => (ints? xs).map fun ns => .int ns.sum
  | _ => none
section
variable {K : PySem.W.Frag} {X : Cx} {C : Ct}
def rSum2 (K : PySem.W.Frag) : List V → Hp → VK → Prop := fun vs H Q => ∃ (a : Addr) (ns : List Int), vs = [V.ref a] ∧ (SqL K H a (ns.map V.int) ∨ SqT K H a (ns.map V.int)) ∧ Q (.int ns.sum) H
theorem cr_sum2 (hc : X.calm = true) : CallR X (.builtin "sum") (rSum2 X.K) := by
  intro pins s σ H vs us Q I r h
  obtain ⟨a, ns, rfl, hs, q⟩ := h
  rcases hs with hs | hs
  · exact cr_sum hc pins s σ H _ us Q I r ⟨a, ns, rfl, hs, q⟩
  · obtain ⟨its, rv, hl, _⟩ := I.tuple hs
    rw [Vals.ref1 r]
    have hi := rv.ints
    obtain ⟨xs, e⟩ := hi.allInts.items
    have hn : numsOf (intItems xs).toList = ns := by rw [← e]; exact hi.numsOf
    rw [nums_intItems] at hn
    rw [e] at hl
    refine PySem.W.ktm_sumG (I.ok.hd hc) hl fun h' tk t' hk => ?_
    rw [preSum_eq, List.take_of_length_le (by simp), hn]
    exact ⟨.int _, H, I.kept hk, ⟨_, rfl⟩, q⟩
theorem ints_rp {F : Hp} : ∀ {ds : List PyData} {vs : List V} {ns : List Int}, RpA K F vs ds → ints? ds = some ns → vs = ns.map V.int
  | [], _, _, .nil, h => by cases h; rfl
  | .int i :: r, _, _, .cons h1 h2, h => by
    unfold ints? at h
    obtain ⟨ms, e, rfl⟩ := Option.map_eq_some_iff.mp h
    cases h1
    rw [ints_rp h2 e]
    rfl
theorem rc_sum : RLC K (rSum2 K) bSum := by
  intro F H xs as z Q e _ rx h k
  unfold bSum at h
  split at h
  · obtain ⟨x, rfl, r⟩ := rpA1 rx
    obtain ⟨ns, en, rfl⟩ := Option.map_eq_some_iff.mp h
    cases r with
    | lst h1 r1 =>
      rw [ints_rp r1 en] at h1
      exact ⟨_, ns, rfl, .inl (.inl (.inl (e _ _ h1))), k _ F H .id (.int _)⟩
  · obtain ⟨x, rfl, r⟩ := rpA1 rx
    obtain ⟨ns, en, rfl⟩ := Option.map_eq_some_iff.mp h
    cases r with
    | tup h1 r1 =>
      rw [ints_rp r1 en] at h1
      exact ⟨_, ns, rfl, .inr (same_t e h1), k _ F H .id (.int _)⟩
  · cases h
end
end DL
namespace DL
open PySem PySem.Spec PyProof.Rows L2
section
variable {K : PySem.W.Frag} {X : Cx} {C : Ct}
theorem walk_rev {a : Addr} {xs : List V} : Walk (Itv K a xs.length) xs.length (fun H => SqL K H a xs) (YAt xs.reverse) := by
  refine ⟨fun i H hi q => ⟨hi, xs, xs[xs.length - 1 - i]'(by omega), q, by simp [show xs.length - 1 - i < xs.length by omega]⟩, fun H _ => Nat.le_refl _, fun i H x H' hi q y => ?_⟩
  obtain ⟨rfl, y⟩ := y
  refine ⟨rfl, ?_⟩
  rw [List.getElem?_reverse hi]
  exact y xs q
theorem walk_revT {a : Addr} {xs : List V} : Walk (RT.ItvT K a xs.length) xs.length (fun H => SqT K H a xs) (YAt xs.reverse) := by
  refine ⟨fun i H hi q => ⟨hi, xs, xs[xs.length - 1 - i]'(by omega), q, by simp [show xs.length - 1 - i < xs.length by omega]⟩, fun H _ => Nat.le_refl _, fun i H x H' hi q y => ?_⟩
  obtain ⟨rfl, y⟩ := y
  refine ⟨rfl, ?_⟩
  rw [List.getElem?_reverse hi]
  exact y xs q
theorem wk_revs {J : It} {F : Hp} {xs : List V} {ds : List PyData} {G : Hp → Prop} (hG : ∀ H, Same F H → G H) (w : Walk J xs.length G (YAt xs.reverse)) (r : RpA K F xs ds) : Wk K J F ds.reverse := by
  have l := r.length
  refine ⟨G, YAt xs.reverse, by rw [List.length_reverse, ← l]; exact w, hG, fun i H x H' F' hi e1 e2 y => ?_⟩
  obtain ⟨rfl, y⟩ := y
  rw [List.length_reverse] at hi
  rw [List.getElem?_reverse (by omega)] at y
  obtain ⟨d, hd, q⟩ := rpA_at r y
  refine ⟨F', d, .id, ?_, q.mono e1⟩
  rw [List.getElem?_reverse hi, ← l]
  exact hd
theorem pdi_rev {tg e : Expr} {p pos : Pos} {m : ME} (hm : X.mg "reversed" = none) (h : PE X e (tD X.K C m)) (hg : Gl X "reversed" := by rfl) (hs : starEach [e] X.env = (false, eval e X.env) :: starEach [] X.env := by rfl) :
    PI X tg (.Call (.Name "reversed" p) [e] [] pos) (tDI X.K C (miRev m)) := pi_imp (RT.pi_revA hg hm h hs) (by
  rintro σ H R0 ⟨F, sd, Qd, R, h, k⟩
  refine ⟨F, sd, _, R, h, fun x H1 F1 a sd1 R1 S1 rx h1 => ?_⟩
  obtain ⟨ds, hd, q⟩ := h1
  cases rx with
  | tup h2 r2 => cases hd; exact ⟨_, _, rfl, .inr ⟨same_t R1.ext h2, k _ H1 F1 _ sd1 R1 S1 (wk_revs (fun H e => same_t e h2) walk_revT r2) q⟩⟩
  | lst h2 r2 => cases hd; exact ⟨_, _, rfl, .inl ⟨.inl (.inl (R1.ext _ _ h2)), k _ H1 F1 _ sd1 R1 S1 (wk_revs (fun H e => .inl (.inl (e _ _ h2))) walk_rev r2) q⟩⟩
  | _ => cases hd)
end
end DL
namespace DL
open PySem PySem.Spec PyProof.Rows L2
/-- the least, or None -/
def bMinD : List PyData → List PyData → Option PyData
  | [.list xs], [.none] => match ints? xs with
    | some [] => some .none
    | some (n :: ns) => some (.int (ns.foldl min n))
    | none => none
  | _, _ => none
def mCallBK (f : List PyData → List PyData → Option PyData) (ma mk : MA) : ME := fun sd Q => ma sd fun ds s1 => mk s1 fun es s2 => ∃ r, f ds es = some r ∧ Q r s2
section
variable {K : PySem.W.Frag} {X : Cx} {C : Ct}
theorem alike_ints (ns : List Int) : PySem.W.AlikeAll (ns.map .int) := by
  have h := PySem.W.alikeAll_datum (α := Int) ns
  exact h
theorem depth_ints : ∀ ns : List Int, PyData.depthAll (ns.map .int) ≤ 1
  | [] => by decide
  | n :: ns => by
    have := depth_ints ns
    simp only [List.map_cons, PyData.depthAll, PyData.depth]
    omega
def rMinD (K : PySem.W.Frag) : List V → List V → Hp → VK → Prop := fun vs zs H Q => ∃ (a : Addr) (ns : List Int), vs = [V.ref a] ∧ zs = [V.non] ∧ SqL K H a (ns.map V.int) ∧ match ns with
  | [] => Q .non H
  | n :: r => Q (.int (r.foldl min n)) H
theorem cr_minD (hc : X.calm = true) (hu : X.A.units + 64 < cLine) : CallRK X (.builtin "min") [Str.ofString "default"] (rMinD X.K) := by
  intro pins s σ H vs zs us ws Q I r rz h
  obtain ⟨a, ns, rfl, rfl, hs, q⟩ := h
  obtain ⟨its, rv, hl, _⟩ := I.list hs
  rw [Vals.ref1 r]
  obtain ⟨w1, rfl, e1⟩ := vals1 rz
  obtain rfl : w1 = Value.none := e1
  have hi := rv.ints
  have hd := depth_ints ns
  refine PySem.W.min_list_default (I.ok.hd hc) hl.isList (IntsAre.reads s.heap hi) (alike_ints ns) (by omega) (fun e h' tk hk => ?_) fun y ys i v h' tk bs e hv hr hk => ?_
  · cases ns with
    | nil => exact ⟨.non, H, I.kept hk, rfl, q⟩
    | cons n r => cases e
  · cases ns with
    | nil => cases e
    | cons n r =>
      rw [List.map_cons] at e
      injection e with e1 e2
      subst e1 e2
      rw [PySem.W.minD_ints] at hr
      cases hr
      exact ⟨.int _, H, I.kept hk, ⟨_, rfl⟩, q⟩
theorem td_cbK {r : List V → List V → Hp → VK → Prop} {f : List PyData → List PyData → Option PyData} {ma mk : MA} (L : ∀ (F H : Hp) (xs zs : List V) (as bs : List PyData) (z : PyData) (Q : VK), Same F H → RpA K F xs as → RpA K F zs bs → f as bs = some z → (∀ v, Rp K F v z → Q v H) → r xs zs H Q) : ∀ σ H Q, tD K C (mCallBK f ma mk) σ H Q → tCKw r (tDA K C ma) (tDA K C mk) σ H Q := by
  rintro σ H Q ⟨F, sd, Qd, R, h, k⟩
  refine ⟨F, sd, _, R, h, fun xs H1 F1 as sd1 R1 S1 rx h1 => ?_⟩
  refine ⟨F1, sd1, _, R1, h1, fun zs H2 F2 bs sd2 R2 S2 rz h2 => ?_⟩
  obtain ⟨z, e, q⟩ := h2
  exact L F2 H2 xs zs as bs z Q R2.ext (RpA.mono S2.fr rx) rz e fun v rv => k v H2 F2 z sd2 R2 (S1.trans S2) rv q
theorem rc_minD : ∀ (F H : Hp) (xs zs : List V) (as bs : List PyData) (z : PyData) (Q : VK), Same F H → RpA K F xs as → RpA K F zs bs → bMinD as bs = some z → (∀ v, Rp K F v z → Q v H) → rMinD K xs zs H Q := by
  intro F H xs zs as bs z Q e rx rz h k
  unfold bMinD at h
  split at h
  · obtain ⟨x, rfl, r⟩ := rpA1 rx
    obtain ⟨y, rfl, r'⟩ := rpA1 rz
    cases r'
    cases r with
    | lst h1 r1 =>
      split at h
      · rename_i hn
        cases h
        rw [ints_rp r1 hn] at h1
        exact ⟨_, [], rfl, rfl, .inl (.inl (e _ _ h1)), k _ .non⟩
      · rename_i n ns hn
        cases h
        rw [ints_rp r1 hn] at h1
        exact ⟨_, n :: ns, rfl, rfl, .inl (.inl (e _ _ h1)), k _ (.int _)⟩
      · cases h
  · cases h
theorem pd_minD {p pos : Pos} {e : Expr} {kws : List Keyword} {ma mk : MA} (hc : X.calm = true) (hu : X.A.units + 64 < cLine) (hm : X.mg "min" = none) (ha : PA X [e] (tDA X.K C ma)) (hk : PK X kws (tDA X.K C mk)) (hg : Gl X "min" := by rfl)
    (he : backTo pos (starEach [e] X.env) = (false, eval e X.env) :: backTo pos (starEach [] X.env) := by rfl) (hpl : (backTo pos (starEach [e] X.env)).any (·.1) = false := by rfl)
    (hall : (backToKw pos (keywordEach kws X.env)).all (·.1.isSome) = true := by rfl) (hnone : (backToKw pos (keywordEach kws X.env)).any (·.1.isNone) = false := by rfl) (hks : (backToKw pos (keywordEach kws X.env)).filterMap (·.1) = [Str.ofString "default"] := by rfl) :
    PE X (.Call (.Name "min" p) [e] kws pos) (tD X.K C (mCallBK bMinD ma mk)) :=
  pe_imp (pe_callBK (cr_minD hc hu) hg hm PyProof.Rows.boot_min ha hk (by decide) (by decide) he hpl hall hnone hks) (td_cbK rc_minD)
end
end DL
namespace DL
/-- at k a whole number lies from (g k + b) / c to (G k + B) / C -/
def Btw (g b c G B C k : Int) : Prop := 0 ≤ k ∧ ∃ j, g * k + b ≤ c * j ∧ C * j ≤ G * k + B
def Least (P : Int → Prop) : Option Int → Prop
  | some k => P k ∧ ∀ k', P k' → k ≤ k'
  | none => ∀ k, ¬ P k
theorem least_unique {P : Int → Prop} : ∀ {o o' : Option Int}, Least P o → Least P o' → o = o'
  | none, none, _, _ => rfl
  | some k, none, h, h' => absurd h.1 (h' k)
  | none, some k, h, h' => absurd h'.1 (h k)
  | some k, some k', h, h' => by
    have := h.2 _ h'.1
    have := h'.2 _ h.1
    rw [show k = k' by omega]
theorem least_iff {P P' : Int → Prop} (h : ∀ k, P k ↔ P' k) {o : Option Int} : Least P o → Least P' o := by
  cases o with
  | none => exact fun z k hk => z k ((h k).mpr hk)
  | some k => exact fun z => ⟨(h k).mp z.1, fun k' hk => z.2 k' ((h k').mpr hk)⟩
theorem pos_fac {c x : Int} (hc : 0 < c) (h : 0 < c * x) : 0 < x := by
  refine Classical.byContradiction fun z => ?_
  have := Int.mul_le_mul_of_nonneg_left (show x ≤ 0 by omega) (show 0 ≤ c by omega)
  omega
theorem ceil_spec {b c : Int} (h : 1 ≤ c) : b ≤ c * -(-b / c) ∧ c * -(-b / c) < b + c := by
  have e := Int.emod_add_mul_ediv (-b) c
  have e1 := Int.emod_nonneg (-b) (show c ≠ 0 by omega)
  have e2 := Int.emod_lt_of_pos (-b) (show 0 < c by omega)
  rw [Int.mul_neg]
  omega
theorem ceil_le {b c j : Int} (h : 1 ≤ c) : -(-b / c) ≤ j ↔ b ≤ c * j := by
  obtain ⟨h1, h2⟩ := ceil_spec (b := b) h
  constructor
  · intro z
    have := Int.mul_le_mul_of_nonneg_left z (show 0 ≤ c by omega)
    omega
  · intro z
    refine Classical.byContradiction fun w => ?_
    have := Int.mul_le_mul_of_nonneg_left (show j + 1 ≤ -(-b / c) by omega) (show 0 ≤ c by omega)
    rw [Int.mul_add] at this
    omega
section
variable {g b c G B C : Int}
/-- what the lines keep: no steeper below than above, and if less steep, below at 0 -/
structure Inv (g b c G B C : Int) : Prop where
  c1 : 1 ≤ c
  C1 : 1 ≤ C
  sl : g * C ≤ G * c
  st : g * C < G * c → b * C ≤ B * c
theorem btw_none (I : Inv g b c G B C) (h : ¬ b * C ≤ B * c) : Least (Btw g b c G B C) none := by
  rintro k ⟨k0, j, h1, h2⟩
  have e : g * C = G * c := by
    have := I.sl
    have := I.st
    by_cases z : g * C < G * c
    · exact absurd (I.st z) h
    · omega
  have m1 := Int.mul_le_mul_of_nonneg_right h1 (show 0 ≤ C by have := I.C1; omega)
  have m2 := Int.mul_le_mul_of_nonneg_right h2 (show 0 ≤ c by have := I.c1; omega)
  rw [Int.add_mul] at m1 m2
  have e1 : g * k * C = k * (g * C) := by simp only [Int.mul_assoc, Int.mul_comm, Int.mul_left_comm]
  have e2 : G * k * c = k * (G * c) := by simp only [Int.mul_assoc, Int.mul_comm, Int.mul_left_comm]
  have e3 : c * j * C = C * j * c := by simp only [Int.mul_assoc, Int.mul_comm, Int.mul_left_comm]
  rw [e] at e1
  omega
theorem btw_zero (I : Inv g b c G B C) (h : C * -(-b / c) ≤ B) : Least (Btw g b c G B C) (some 0) := by
  refine ⟨⟨Int.le_refl 0, -(-b / c), ?_, ?_⟩, fun k' z => z.1⟩
  · have := (ceil_spec (b := b) I.c1).1
    omega
  · omega
/-- moved by l whole numbers -/
theorem btw_move (l k : Int) : Btw g (b - l * c) c G (B - l * C) C k ↔ Btw g b c G B C k := by
  have e1 : ∀ j, c * (j + l) = c * j + l * c := fun j => by rw [Int.mul_add, Int.mul_comm l c]
  have e2 : ∀ j, C * (j + l) = C * j + l * C := fun j => by rw [Int.mul_add, Int.mul_comm l C]
  constructor
  · rintro ⟨k0, j, h1, h2⟩
    refine ⟨k0, j + l, ?_, ?_⟩
    · rw [e1]; omega
    · rw [e2]; omega
  · rintro ⟨k0, j, h1, h2⟩
    have a1 := e1 (j - l)
    have a2 := e2 (j - l)
    rw [show j - l + l = j by omega] at a1 a2
    exact ⟨k0, j - l, by omega, by omega⟩
/-- both slopes less by r -/
theorem btw_tilt (r k : Int) : Btw (g - r * c) b c (G - r * C) B C k ↔ Btw g b c G B C k := by
  have e1 : ∀ j, c * (j + r * k) = c * j + r * c * k := fun j => by rw [Int.mul_add]; simp only [Int.mul_assoc, Int.mul_comm, Int.mul_left_comm]
  have e2 : ∀ j, C * (j + r * k) = C * j + r * C * k := fun j => by rw [Int.mul_add]; simp only [Int.mul_assoc, Int.mul_comm, Int.mul_left_comm]
  unfold Btw
  rw [Int.sub_mul, Int.sub_mul]
  constructor
  · rintro ⟨k0, j, h1, h2⟩
    refine ⟨k0, j + r * k, ?_, ?_⟩
    · rw [e1]; omega
    · rw [e2]; omega
  · rintro ⟨k0, j, h1, h2⟩
    have a1 := e1 (j - r * k)
    have a2 := e2 (j - r * k)
    rw [show j - r * k + r * k = j by omega] at a1 a2
    exact ⟨k0, j - r * k, by omega, by omega⟩
/-- what _first_out finds: the line below falls to -1, or the line above rises to 0 -/
def outs (g b c G B : Int) : List Int := (if g < 0 then [-(-(b + c) / -g)] else []) ++ (if G > 0 then [-(B / G)] else [])
def minO : List Int → Option Int
  | [] => none
  | a :: l => match minO l with
    | none => some a
    | some m => some (if m < a then m else a)
theorem btw_out (c1 : 1 ≤ c) (C1 : 1 ≤ C) (b0 : b ≤ 0) (b1 : -c < b) (B0 : B < 0) (st : b * C ≤ B * c) (g0 : g ≤ 0) (G0 : 0 ≤ G) : Least (Btw g b c G B C) (minO (outs g b c G B)) := by
  have BC : -C < B := by
    refine Classical.byContradiction fun z => ?_
    have m1 := Int.mul_le_mul_of_nonneg_right (show B ≤ -C by omega) (show 0 ≤ c by omega)
    have m2 := Int.mul_le_mul_of_nonneg_right (show -c + 1 ≤ b by omega) (show 0 ≤ C by omega)
    rw [Int.add_mul, Int.neg_mul, Int.one_mul] at m2
    rw [Int.neg_mul, Int.mul_comm C c] at m1
    omega
  have low : ∀ k, Btw g b c G B C k → (g < 0 ∧ -(-(b + c) / -g) ≤ k) ∨ (G > 0 ∧ -(B / G) ≤ k) := by
    rintro k ⟨k0, j, h1, h2⟩
    by_cases z : j ≤ -1
    · left
      have m := Int.mul_le_mul_of_nonneg_left z (show 0 ≤ c by omega)
      have hg : g < 0 := by
        by_cases w : g = 0
        · rw [w, Int.zero_mul] at h1
          omega
        · omega
      refine ⟨hg, (ceil_le (by omega)).mpr ?_⟩
      rw [Int.neg_mul]
      omega
    · right
      have m := Int.mul_nonneg (show 0 ≤ C by omega) (show 0 ≤ j by omega)
      have hG : G > 0 := by
        by_cases w : G = 0
        · rw [w, Int.zero_mul] at h2
          omega
        · omega
      refine ⟨hG, ?_⟩
      have := (ceil_le (b := -B) (j := k) (show 1 ≤ G by omega)).mpr (by omega)
      rw [Int.neg_neg] at this
      exact this
  have up1 : g < 0 → Btw g b c G B C (-(-(b + c) / -g)) := by
    intro hg
    obtain ⟨h1, h2⟩ := ceil_spec (b := b + c) (c := -g) (by omega)
    generalize -(-(b + c) / -g) = k at *
    have k0 : 0 ≤ k := by
      refine Classical.byContradiction fun z => ?_
      have := Int.mul_le_mul_of_nonneg_left (show k ≤ 0 by omega) (show 0 ≤ -g by omega)
      omega
    refine ⟨k0, -1, ?_, ?_⟩
    · rw [Int.neg_mul] at h1
      omega
    · have := Int.mul_nonneg G0 k0
      omega
  have up2 : G > 0 → Btw g b c G B C (-(B / G)) := by
    intro hG
    obtain ⟨h1, h2⟩ := ceil_spec (b := -B) (c := G) (by omega)
    rw [Int.neg_neg] at h1 h2
    generalize -(B / G) = k at *
    have k0 : 0 ≤ k := by
      refine Classical.byContradiction fun z => ?_
      have := Int.mul_le_mul_of_nonneg_left (show k ≤ 0 by omega) (show 0 ≤ G by omega)
      omega
    refine ⟨k0, 0, ?_, ?_⟩
    · have := Int.mul_le_mul_of_nonneg_right g0 k0
      omega
    · omega
  unfold outs
  by_cases hg : g < 0
  · by_cases hG : G > 0
    · rw [if_pos hg, if_pos hG]
      show Least _ (some (if -(B / G) < -(-(b + c) / -g) then -(B / G) else -(-(b + c) / -g)))
      split
      · rename_i h
        refine ⟨up2 hG, fun k' z => ?_⟩
        rcases low k' z with ⟨-, l⟩ | ⟨-, l⟩ <;> omega
      · rename_i h
        refine ⟨up1 hg, fun k' z => ?_⟩
        rcases low k' z with ⟨-, l⟩ | ⟨-, l⟩ <;> omega
    · rw [if_pos hg, if_neg hG]
      refine ⟨up1 hg, fun k' z => ?_⟩
      rcases low k' z with ⟨-, l⟩ | ⟨h, -⟩
      · exact l
      · exact absurd h hG
  · by_cases hG : G > 0
    · rw [if_neg hg, if_pos hG]
      refine ⟨up2 hG, fun k' z => ?_⟩
      rcases low k' z with ⟨h, -⟩ | ⟨-, l⟩
      · exact absurd h hg
      · exact l
    · rw [if_neg hg, if_neg hG]
      intro k z
      rcases low k z with ⟨h, -⟩ | ⟨h, -⟩
      · exact hg h
      · exact hG h
/-- lines and whole numbers exchanged -/
theorem btw_turn (b1 : -c < b) (B0 : B < 0) (c1 : 1 ≤ c) (C1 : 1 ≤ C) (g0 : 0 < g) (G0 : 0 < G) {o : Option Int} (h : Least (Btw C (-B) G c (-b) g) o) : Least (Btw g b c G B C) (o.map fun j => -(-(C * j + -B) / G)) := by
  have to : ∀ k j, 0 ≤ k → g * k + b ≤ c * j → C * j ≤ G * k + B → Btw C (-B) G c (-b) g j := by
    intro k j k0 h1 h2
    refine ⟨?_, k, by omega, by omega⟩
    refine Classical.byContradiction fun z => ?_
    have m1 := Int.mul_nonneg (show 0 ≤ g by omega) k0
    have m2 := Int.mul_le_mul_of_nonneg_left (show j ≤ -1 by omega) (show 0 ≤ c by omega)
    omega
  cases o with
  | none =>
    rintro k ⟨k0, j, h1, h2⟩
    exact h j (to k j k0 h1 h2)
  | some j =>
    obtain ⟨⟨j0, k0, h1, h2⟩, h3⟩ := h
    show Least _ (some (-(-(C * j + -B) / G)))
    have l := (ceil_le (b := C * j + -B) (c := G) (j := k0) (by omega)).mpr h1
    obtain ⟨s1, s2⟩ := ceil_spec (b := C * j + -B) (c := G) (by omega)
    have least : ∀ k', Btw g b c G B C k' → -(-(C * j + -B) / G) ≤ k' := by
      rintro k' ⟨k0', j', h1', h2'⟩
      have jj := h3 j' (to k' j' k0' h1' h2')
      refine (ceil_le (by omega)).mpr ?_
      have := Int.mul_le_mul_of_nonneg_left jj (show 0 ≤ C by omega)
      omega
    refine ⟨?_, least⟩
    generalize -(-(C * j + -B) / G) = k at *
    have mj := Int.mul_nonneg (show 0 ≤ C by omega) j0
    refine ⟨?_, j, ?_, by omega⟩
    · refine Classical.byContradiction fun z => ?_
      have := Int.mul_le_mul_of_nonneg_left (show k ≤ 0 by omega) (show 0 ≤ G by omega)
      omega
    · have := Int.mul_le_mul_of_nonneg_left l (show 0 ≤ g by omega)
      omega
/-- the lines behind the move: from -1 to 0 at 0 -/
theorem move_facts (I : Inv g b c G B C) (h0 : b * C ≤ B * c) (h : ¬ C * -(-b / c) ≤ B) {l : Int} (hl : l = -(-b / c)) : -c < b - l * c ∧ b - l * c < 0 ∧ B - l * C < 0 ∧ (b - l * c) * C ≤ (B - l * C) * c := by
  obtain ⟨h1, h2⟩ := ceil_spec (b := b) I.c1
  rw [← hl] at h h1 h2
  have c1 := I.c1
  have C1 := I.C1
  have e1 : l * c = c * l := Int.mul_comm _ _
  have e2 : l * C = C * l := Int.mul_comm _ _
  have st : (b - l * c) * C ≤ (B - l * C) * c := by
    rw [Int.sub_mul, Int.sub_mul]
    have : l * c * C = l * C * c := by simp only [Int.mul_assoc, Int.mul_comm, Int.mul_left_comm]
    omega
  refine ⟨by omega, ?_, by omega, st⟩
  refine Classical.byContradiction fun z => ?_
  have m1 := Int.mul_nonneg (show 0 ≤ b - l * c by omega) (show 0 ≤ C by omega)
  have m2 := Int.mul_lt_mul_of_pos_right (show B - l * C < 0 by omega) (show 0 < c by omega)
  omega
/-- the next pair of lines -/
theorem turn_facts (c1 : 1 ≤ c) (C1 : 1 ≤ C) (sl : g * C ≤ G * c) (b0 : b < 0) (st : b * C ≤ B * c) (h : ¬ C * -(-g / c) ≤ G) {q : Int} (hq : q = g / c) : 0 < g % c ∧ g % c < c ∧ 0 < G - q * C ∧ G - q * C < C ∧ g % c = g - q * c ∧ Inv C (-B) (G - q * C) c (-b) (g % c) := by
  obtain ⟨h1, h2⟩ := ceil_spec (b := g) c1
  have e := Int.emod_add_mul_ediv g c
  have e1 := Int.emod_nonneg g (show c ≠ 0 by omega)
  have e2 := Int.emod_lt_of_pos g (show 0 < c by omega)
  rw [← hq] at e
  have em : g % c = g - q * c := by rw [Int.mul_comm q c]; omega
  have sl' : g % c * C ≤ (G - q * C) * c := by
    rw [em, Int.sub_mul, Int.sub_mul]
    have : q * c * C = q * C * c := by simp only [Int.mul_assoc, Int.mul_comm, Int.mul_left_comm]
    omega
  generalize hr : -(-g / c) = r at *
  have g0 : 0 < g % c := by
    refine Classical.byContradiction fun z => ?_
    have z0 : g % c = 0 := by omega
    have rq : r = q := by
      have a1 : c * q ≤ c * r := by omega
      have a2 : c * r < c * (q + 1) := by rw [Int.mul_add]; omega
      have b1 := Int.le_of_mul_le_mul_left a1 (by omega)
      have b2 := Int.lt_of_mul_lt_mul_left a2 (by omega)
      omega
    rw [z0, Int.zero_mul] at sl'
    rw [rq, Int.mul_comm] at h
    have := Int.mul_lt_mul_of_pos_right (show G - q * C < 0 by omega) (show 0 < c by omega)
    omega
  have rq : r = q + 1 := by
    have a1 : c * q < c * r := by omega
    have a2 : c * r < c * (q + 2) := by rw [Int.mul_add]; omega
    have b1 := Int.lt_of_mul_lt_mul_left a1 (by omega)
    have b2 := Int.lt_of_mul_lt_mul_left a2 (by omega)
    omega
  have G0 : 0 < G - q * C := by
    refine pos_fac (c := c) (by omega) ?_
    rw [Int.mul_comm]
    have := Int.mul_pos g0 (show 0 < C by omega)
    omega
  have GC : G - q * C < C := by
    rw [rq, Int.mul_add, Int.mul_comm C q] at h
    omega
  refine ⟨g0, e2, G0, GC, em, ⟨by omega, by omega, ?_, fun _ => ?_⟩⟩
  · rw [Int.mul_comm C, Int.mul_comm c]
    exact sl'
  · generalize g % c = g' at *
    generalize G - q * C = G' at *
    refine Int.le_of_mul_le_mul_left (a := c) ?_ (by omega)
    have m1 := Int.mul_le_mul_of_nonneg_right st (show 0 ≤ g' by omega)
    have m2 := Int.mul_le_mul_of_nonneg_left sl' (show 0 ≤ -b by omega)
    have q1 : c * (-B * g') = -(B * c * g') := by rw [Int.neg_mul, Int.mul_neg]; congr 1; simp only [Int.mul_assoc, Int.mul_comm, Int.mul_left_comm]
    have q2 : c * (-b * G') = -b * (G' * c) := by simp only [Int.mul_assoc, Int.mul_comm, Int.mul_left_comm]
    have q3 : -b * (g' * C) = -(b * C * g') := by rw [Int.neg_mul]; congr 1; simp only [Int.mul_assoc, Int.mul_comm, Int.mul_left_comm]
    omega
theorem out_bound (c1 : 1 ≤ c) (C1 : 1 ≤ C) (b0 : b < 0) (b1 : -c < b) (B0 : B < 0) (B1 : -C < B) {k : Int} (h : minO (outs g b c G B) = some k) : k ≤ 2 * (c * C) := by
  have cC : c ≤ c * C := by have := Int.mul_le_mul_of_nonneg_left C1 (show 0 ≤ c by omega); omega
  have Cc : C ≤ c * C := by have := Int.mul_le_mul_of_nonneg_right c1 (show 0 ≤ C by omega); omega
  have k1 : g < 0 → -(-(b + c) / -g) ≤ c := fun hg => (ceil_le (by omega)).mpr (by
    have := Int.mul_le_mul_of_nonneg_right (show 1 ≤ -g by omega) (show 0 ≤ c by omega)
    omega)
  have k2 : G > 0 → -(B / G) ≤ C := fun hG => by
    have := (ceil_le (b := -B) (j := C) (show 1 ≤ G by omega)).mpr (by
      have := Int.mul_le_mul_of_nonneg_right (show 1 ≤ G by omega) (show 0 ≤ C by omega)
      omega)
    rw [Int.neg_neg] at this
    exact this
  unfold outs at h
  by_cases hg : g < 0
  · by_cases hG : G > 0
    · rw [if_pos hg, if_pos hG] at h
      have h : some (if -(B / G) < -(-(b + c) / -g) then -(B / G) else -(-(b + c) / -g)) = some k := h
      have h := Option.some.inj h
      have := k1 hg
      have := k2 hG
      split at h <;> omega
    · rw [if_pos hg, if_neg hG] at h
      have h := Option.some.inj h
      have := k1 hg
      omega
  · by_cases hG : G > 0
    · rw [if_neg hg, if_pos hG] at h
      have h := Option.some.inj h
      have := k2 hG
      omega
    · rw [if_neg hg, if_neg hG] at h
      cases h
theorem turn_bound (c1 : 1 ≤ c) (C1 : 1 ≤ C) (gc : g < c) (g0 : 0 < g) (G0 : 0 < G) (B1 : -C < B) {j : Int} (h : j ≤ 2 * (G * g)) : -(-(C * j + -B) / G) ≤ 2 * (c * C) := by
  refine (ceil_le (by omega)).mpr ?_
  have m1 := Int.mul_le_mul_of_nonneg_left h (show 0 ≤ C by omega)
  have e1 : C * (2 * (G * g)) = G * (2 * (g * C)) := by simp only [Int.mul_assoc, Int.mul_comm, Int.mul_left_comm]
  have m2 : g * C + C ≤ c * C := by
    have := Int.mul_le_mul_of_nonneg_right (show g + 1 ≤ c by omega) (show 0 ≤ C by omega)
    rw [Int.add_mul] at this
    omega
  have m3 := Int.mul_le_mul_of_nonneg_left (show 2 * (g * C) + C ≤ 2 * (c * C) by omega) (show 0 ≤ G by omega)
  rw [Int.mul_add] at m3
  have m4 := Int.mul_le_mul_of_nonneg_right (show 1 ≤ G by omega) (show 0 ≤ C by omega)
  omega
/-- two lines -/
structure Two where
  g : Int
  b : Int
  c : Int
  G : Int
  B : Int
  C : Int
def Two.I (p : Two) : Prop := Inv p.g p.b p.c p.G p.B p.C
def Two.Ans (p : Two) (o : Option Int) : Prop := Least (Btw p.g p.b p.c p.G p.B p.C) o ∧ ∀ k, o = some k → k ≤ 2 * (p.c * p.C)
def Two.l (p : Two) : Int := -(-p.b / p.c)
def Two.turn (p : Two) : Two := ⟨p.C, -(p.B - p.l * p.C), p.G - p.g / p.c * p.C, p.c, -(p.b - p.l * p.c), p.g % p.c⟩
def Two.back (p : Two) (j : Int) : Int := -(-(p.C * j + -(p.B - p.l * p.C)) / (p.G - p.g / p.c * p.C))
theorem Two.none (p : Two) (I : p.I) (h : ¬ p.b * p.C ≤ p.B * p.c) : p.Ans .none := ⟨btw_none I h, fun _ e => by cases e⟩
theorem Two.zero (p : Two) (I : p.I) (h : p.C * p.l ≤ p.B) : p.Ans (some 0) := ⟨btw_zero I h, fun k e => by
  cases e
  have := Int.mul_pos (show 0 < p.c by have := I.c1; omega) (show 0 < p.C by have := I.C1; omega)
  omega⟩
theorem Two.low (p : Two) (I : p.I) (h0 : p.b * p.C ≤ p.B * p.c) (h : ¬ p.C * p.l ≤ p.B) : -p.C < p.B - p.l * p.C := by
  obtain ⟨a1, a2, a3, a4⟩ := move_facts I h0 h rfl
  have c1 := I.c1
  have C1 := I.C1
  refine Classical.byContradiction fun z => ?_
  have m1 := Int.mul_le_mul_of_nonneg_right (show p.B - p.l * p.C ≤ -p.C from by omega) (show 0 ≤ p.c by omega)
  have m2 := Int.mul_lt_mul_of_pos_right a1 (show 0 < p.C by omega)
  have a4 : (p.b - p.l * p.c) * p.C ≤ (p.B - p.l * p.C) * p.c := a4
  rw [Int.neg_mul] at m1 m2
  have : p.C * p.c = p.c * p.C := Int.mul_comm _ _
  have m2 : -(p.c * p.C) < (p.b - p.l * p.c) * p.C := m2
  omega
theorem Two.out (p : Two) (I : p.I) (h0 : p.b * p.C ≤ p.B * p.c) (h : ¬ p.C * p.l ≤ p.B) (hr : p.C * -(-p.g / p.c) ≤ p.G) : p.Ans (minO (outs (p.g - -(-p.g / p.c) * p.c) (p.b - p.l * p.c) p.c (p.G - -(-p.g / p.c) * p.C) (p.B - p.l * p.C))) := by
  obtain ⟨a1, a2, a3, a4⟩ := move_facts I h0 h rfl
  obtain ⟨r1, r2⟩ := ceil_spec (b := p.g) I.c1
  have B1 := p.low I h0 h
  have e1 : -(-p.g / p.c) * p.c = p.c * -(-p.g / p.c) := Int.mul_comm _ _
  have e2 : -(-p.g / p.c) * p.C = p.C * -(-p.g / p.c) := Int.mul_comm _ _
  have L := btw_out (g := p.g - -(-p.g / p.c) * p.c) (G := p.G - -(-p.g / p.c) * p.C) I.c1 I.C1 (Int.le_of_lt a2) a1 a3 a4 (by omega) (by omega)
  exact ⟨least_iff (fun k => (btw_tilt _ k).trans (btw_move _ k)) L, fun k e => out_bound I.c1 I.C1 a2 a1 a3 B1 e⟩
/-- what a turn of the loop leaves -/
theorem Two.turns (p : Two) (I : p.I) (h0 : p.b * p.C ≤ p.B * p.c) (h : ¬ p.C * p.l ≤ p.B) (hr : ¬ p.C * -(-p.g / p.c) ≤ p.G) : p.turn.I ∧ 0 < p.turn.c ∧ p.turn.c < p.C ∧ 0 < p.turn.C ∧ p.turn.C < p.c ∧ (0 < p.turn.b ∧ p.turn.b < p.C) ∧ (0 < p.turn.B ∧ p.turn.B < p.c) ∧ ∀ o, p.turn.Ans o → p.Ans (o.map p.back) := by
  obtain ⟨a1, a2, a3, a4⟩ := move_facts I h0 h rfl
  have B1 := p.low I h0 h
  obtain ⟨t1, t2, t3, t4, t5, t6⟩ := turn_facts I.c1 I.C1 I.sl a2 a4 hr rfl
  have a1 : -p.c < p.b - p.l * p.c := a1
  have a2 : p.b - p.l * p.c < 0 := a2
  have a3 : p.B - p.l * p.C < 0 := a3
  refine ⟨t6, t3, t4, t1, t2, ⟨?_, ?_⟩, ⟨?_, ?_⟩, ?_⟩
  · show 0 < -(p.B - p.l * p.C); omega
  · show -(p.B - p.l * p.C) < p.C; omega
  · show 0 < -(p.b - p.l * p.c); omega
  · show -(p.b - p.l * p.c) < p.c; omega
  · rintro o ⟨A, bd⟩
    have L := btw_turn (g := p.g % p.c) (G := p.G - p.g / p.c * p.C) a1 a3 I.c1 I.C1 t1 t3 A
    rw [t5] at L
    refine ⟨least_iff (fun k => (btw_tilt _ k).trans (btw_move _ k)) L, fun k e => ?_⟩
    cases o with
    | none => cases e
    | some j =>
      cases e
      exact turn_bound I.c1 I.C1 t2 t1 t3 B1 (bd j rfl)
end
end DL
namespace DL
open PySem
theorem seq_step {a b : MS} {D : DE} {sd : DSt} (h : ∀ N : DSt → Prop, N = b D → a { D with nx := N } sd) : mSeq a b D sd := h _ rfl
end DL
namespace DL
open PySem PySem.Spec PyProof.Rows L2
/-- the value is these data, as it stands in the module -/
def cstOk (K : PySem.W.Frag) : Nat → Value → PyData → Bool
  | _ + 1, .none, .none => true
  | _ + 1, .bool b, .bool c => b == c
  | _ + 1, .int i _, .int j => i == j
  | _ + 1, .str x _, .str y => x == y
  | n + 1, .ref a, .tuple ds => match K.lookup a with
    | some o => (o.cls == .type "tuple" && o.dict.isNone) && (match o.data with
      | .seq its _ => its.size ≤ 100000 && (its.toList.length == ds.length && (its.toList.zip ds).all fun p => cstOk K n p.1 p.2)
      | _ => false)
    | none => false
  | _, _, _ => false
theorem cst_tup {K : PySem.W.Frag} {n : Nat} {a : Addr} {ds : List PyData} (h : cstOk K (n + 1) (.ref a) (.tuple ds) = true) : ∃ (o : Obj) (its : Array Value) (k : Nat), K.lookup a = some o ∧ o.cls = .type "tuple" ∧ o.dict = none ∧ o.data = .seq its k ∧ its.size ≤ 100000 ∧ its.toList.length = ds.length ∧ ((its.toList.zip ds).all fun p => cstOk K n p.1 p.2) = true := by
  unfold cstOk at h
  split at h
  · rename_i o ho
    rw [Bool.and_eq_true, Bool.and_eq_true] at h
    obtain ⟨⟨h1, h3⟩, h2⟩ := h
    have h1 : o.cls = .type "tuple" := by simpa using h1
    have h3 : o.dict = none := by simpa using h3
    split at h2
    · rename_i its k hd
      simp only [Bool.and_eq_true, decide_eq_true_eq, beq_iff_eq] at h2
      exact ⟨o, its, k, ho, h1, h3, hd, h2.1, h2.2.1, h2.2.2⟩
    · cases h2
  · cases h
theorem cst_rp {K : PySem.W.Frag} {F : Hp} : ∀ (n : Nat) (u : Value) (d : PyData), cstOk K n u d = true → ∃ v, RelV v u ∧ Rp K F v d
  | 0, _, _, h => by simp [cstOk] at h
  | n + 1, u, d, h => by
    cases u with
    | none =>
      cases d with
      | none => exact ⟨.non, rfl, .non⟩
      | _ => cases h
    | bool b =>
      cases d with
      | bool c =>
        have e : b = c := by simpa [cstOk] using h
        subst e
        exact ⟨.bl b, rfl, .bl b⟩
      | _ => cases h
    | int i t =>
      cases d with
      | int j =>
        have e : i = j := by simpa [cstOk] using h
        subst e
        exact ⟨.int i, ⟨t, rfl⟩, .int i⟩
      | _ => cases h
    | str x t =>
      cases d with
      | str y =>
        have e : x = y := by simpa [cstOk] using h
        subst e
        exact ⟨.str x, ⟨t, rfl⟩, .str x⟩
      | _ => cases h
    | ref a =>
      cases d with
      | tuple ds =>
        obtain ⟨o, its, k, ho, h1, h3, hd, hs, hl, ha⟩ := cst_tup h
        have main : ∀ (us : List Value) (ds : List PyData), us.length = ds.length → ((us.zip ds).all fun p => cstOk K n p.1 p.2) = true → ∃ vs, Vals vs us ∧ RpA K F vs ds := by
          intro us
          induction us with
          | nil =>
            intro ds hl _
            cases ds with
            | nil => exact ⟨[], .nil, .nil⟩
            | cons _ _ => cases hl
          | cons u us ih =>
            intro ds hl ha
            cases ds with
            | nil => cases hl
            | cons d ds =>
              simp only [List.zip_cons_cons, List.all_cons, Bool.and_eq_true] at ha
              obtain ⟨v, r1, r2⟩ := cst_rp n u d ha.1
              obtain ⟨vs, q1, q2⟩ := ih ds (by simpa using hl) ha.2
              exact ⟨v :: vs, .cons r1 q1, .cons r2 q2⟩
        obtain ⟨vs, q1, q2⟩ := main _ _ hl ha
        exact ⟨.ref a, rfl, .tup (.inr ⟨o, its, k, ho, h1, hd, line_of hs, q1⟩) q2⟩
      | _ => cases h
    | _ => cases h
theorem relV_ref {v : V} {a : Addr} (r : RelV v (.ref a)) : v = .ref a := by
  have e := r.abs
  cases v <;> simp_all [absV]
theorem cst_ref {K : PySem.W.Frag} {n : Nat} {a : Addr} {d : PyData} (h : cstOk K n (.ref a) d = true) (F : Hp) : Rp K F (.ref a) d := by
  obtain ⟨v, r, q⟩ := cst_rp (F := F) n _ d h
  rw [relV_ref r] at q
  exact q
section
variable {K : PySem.W.Frag} {X : Cx} {C : Ct}
/-- a module's tuple -/
theorem pd_cst {x : Str} {d : PyData} {pos : Pos} (h : ∃ a, X.mg x = some (.ref a) ∧ cstOk X.K 4 (.ref a) d = true) (hg : Gl X x := by rfl) (hd : (x == ("__debug__" : Str)) = false := by decide) : PE X (.Name x pos) (tD X.K C (mC d)) := by
  obtain ⟨a, h1, h2⟩ := h
  exact pd_glob (v := .ref a) h1 rfl (cst_ref h2) hg hd
def mIdxC (xs : List PyData) (mb : ME) : ME := fun sd Q => mb sd fun b s2 => ∃ r, opIdx xs b = some r ∧ Q r s2
def rIndexT (K : PySem.W.Frag) : V → List V → Hp → VK → Prop := fun x xs H Q => ∃ (a : Addr) (ys : List V) (y : V) (j : Nat) (z : V), x = V.ref a ∧ xs = [y] ∧ SqT K H a ys ∧ flatV y = true ∧ ys.all flatV = true ∧ ys[j]? = some z ∧ eqV z y = true ∧
  (∀ (m : Nat) (z' : V), m < j → ys[m]? = some z' → eqV z' y = false) ∧ Q (.int (j : Nat)) H
theorem mt_indexT : MtR X "tuple.index" (rIndexT X.K) := by
  intro pins s σ H x xs v us Q I rx rxs h
  obtain ⟨a, ys, y, j, z, rfl, rfl, hs, fy, fys, hz, hzj, hno, q⟩ := h
  cases rx
  cases rxs with
  | cons ry rt =>
    rename_i uy ut
    cases rt
    obtain ⟨its, rv, ⟨⟨cls, dd, data, sl⟩, ho, hc, n, hd⟩, hlen⟩ := I.tuple hs
    simp only at hc hd
    subst hc hd
    obtain ⟨u, hu, ru⟩ := rv.get hz
    obtain ⟨hjl, hje⟩ := List.getElem?_eq_some_iff.mp hu
    have hvl := rv.length
    have hj : j < its.toArray.size := by simpa using hjl
    refine call_meets PySem.F.slot_tuple_index ⟨_, ho, rfl⟩ PySem.F.entry_tuple_index (PySem.F.args_tuple_index_2 _ _)
      (TI.tuple_indexAt a its.toArray n dd sl uy (eqU y) j hj ?_ ?_) ⟨ho, fun u' hu' => mem_eqAt ry fy rv fys u' (by simpa using hu'), ⟨.int (j : Nat), H, I.tok _, ⟨_, rfl⟩, q⟩⟩
    · have e1 : its.toArray[j] = u := by simpa using hje
      rw [e1, eqU_of ru (flat_at fys hz)]
      exact hzj
    · intro m hm hmj
      have hml : m < its.length := by simpa using hm
      have hmy : m < ys.length := by omega
      have hy' : ys[m]? = some ys[m] := List.getElem?_eq_getElem hmy
      obtain ⟨u2, hu2, ru2⟩ := rv.get hy'
      obtain ⟨_, hme⟩ := List.getElem?_eq_some_iff.mp hu2
      have e1 : its.toArray[m] = u2 := by simpa using hme
      rw [e1, eqU_of ru2 (flat_at fys hy')]
      exact hno m _ hmj hy'
variable {e : Expr} {p apos cpos : Pos} {mb : ME}
theorem pd_idxC {x : Str} {ds : List PyData} (h : ∃ a, X.mg x = some (.ref a) ∧ cstOk X.K 4 (.ref a) (.tuple ds) = true) (he : PE X e (tD X.K C mb)) (t : ∀ a, X.mg x = some (.ref a) → PE X (.Call (.Attribute (.Name x p) "index" apos) [e] [] cpos) (tBM X.K "tuple" (rIndexT X.K) (tC (.ref a)) (tCons (tD X.K C mb) tNil))) : PE X (.Call (.Attribute (.Name x p) "index" apos) [e] [] cpos) (tD X.K C (mIdxC ds mb)) := by
  obtain ⟨a, h1, h2⟩ := h
  refine pe_imp (t a h1) ?_
  rintro σ H Q ⟨F, sd, Qd, R, h, k⟩
  obtain ⟨o, its, n, ho, hc, hdn, hd, hs, hl, ha⟩ := cst_tup h2
  refine ⟨.inr (.inl ⟨rfl, o, ho, hc, hdn⟩), F, sd, _, R, h, fun y H2 F2 b sd2 R2 S2 ry hh => ?_⟩
  obtain ⟨z, e, q⟩ := hh
  have rp := cst_ref h2 F2
  cases rp with
  | tup hp ra =>
    unfold opIdx at e
    split at e
    · rename_i hc
      rw [Bool.and_eq_true] at hc
      obtain ⟨n, hn, rfl⟩ := Option.map_eq_some_iff.mp e
      obtain ⟨z, z1, z2, z3⟩ := first_rp ry hc.1 ra hc.2 hn
      exact ⟨_, _, y, n, z, rfl, rfl, same_t R2.ext hp, flatV_rp ry hc.1, flats_rp ra hc.2, z1, z2, z3, k _ H2 F2 _ sd2 R2 S2 (.int _) q⟩
    · cases e
end
end DL
namespace DL
open PySem PySem.Spec PyProof.Rows L2
def miEnumT (ma : MA) : MI := fun sd Q => ma sd fun ds s1 => ∃ xs, ds = [.tuple xs] ∧ Q (enumL 0 xs) s1
end DL
namespace PySem
open Sem (wp)
set_option maxHeartbeats 1000000 in
theorem dl_enumerate_newB {v : Value} {o : Obj} {H : Heap → Prop} (B : Begins v o H) :
    Meets (Builtin.«enumerate.__new__» ⟨[.type "enumerate", v], []⟩) (fun _ R s => H s.heap ∧
      R (.ok (.ret (.ref (s.heap.push o).objs.size))) { s with heap := (s.heap.push o).push { cls := .type "enumerate", data := .fields #[.none, .bool false, .ref s.heap.objs.size, rawInt 0, .none, .none] } }) :=
  .of_wp fun prog w A R s h => by
    obtain ⟨hp, g, d, tk, os⟩ := s; obtain ⟨h1, h⟩ := h
    have hsub := sub_enumerate
    have q1 : ∀ {A' : Around} {E : Value → Shared → Prop} {Q : Value → Shared → Prop}, Q (.ref hp.objs.size) ⟨hp.push o, g, d, tk, os⟩ → wpAny (model prog w) A' (pyIter v) Q E ⟨hp, g, d, tk, os⟩ :=
      fun q => B.iter prog w _ _ ⟨hp, g, d, tk, os⟩ _ h1 q
    wp_walk using q1
    refine wpAny_stack_any fun st => wpAny_pure ?_
    split
    · rename_i c _ _ _ _ _
      cases (c == Value.type "enumerate")
      · wp_walk using q1
        exact ⟨_, rfl, h⟩
      · wp_walk using q1
        exact ⟨_, rfl, h⟩
    · wp_walk using q1
      exact ⟨_, rfl, h⟩
section
variable {prog : Program} {w : World} {A : Around} {E : Value → Shared → Prop} {s : Shared}
theorem dl_call_enumerate {v : Value} {o : Obj} {H : Heap → Prop} {Q : Value → Shared → Prop} (B : Begins v o H) (h1 : H s.heap)
    (h : ∀ h', IsEnum h' (s.heap.objs.size + 1) s.heap.objs.size 0 .none → h'.get? s.heap.objs.size = some o → h'.objs.size = s.heap.objs.size + 2 →
      (∀ b o, s.heap.get? b = some o → h'.get? b = some o) → Q (.ref (s.heap.objs.size + 1)) { s with heap := h' }) :
    wpAny (model prog w) A (call (.type "enumerate") [v]) Q E s := by
  refine callType_new F.called_enumerate (by decide) (F.typeCall_enumerate_1 _) (F.newCall_enumerate_1 _) (fun obj => F.args_object_init_2 obj _) F.entry_enumerate_new
    (dl_enumerate_newB B) ⟨h1, ?_⟩
  have hz : (s.heap.push o).objs.size = s.heap.objs.size + 1 := Heap.size_push ..
  show _ ∧ _
  rw [hz]
  have he : IsEnum ((s.heap.push o).push { cls := .type "enumerate", data := .fields #[.none, .bool false, .ref s.heap.objs.size, rawInt 0, .none, .none] }) (s.heap.objs.size + 1) s.heap.objs.size 0 .none := by
    have := Heap.get?_push_size (s.heap.push o) (o := { cls := .type "enumerate", data := .fields #[.none, .bool false, .ref s.heap.objs.size, rawInt 0, .none, .none] }) rfl
    rw [hz] at this; exact this
  refine ⟨⟨_, he, rfl⟩, h _ he (Heap.get?_push_of_some _ (Heap.get?_push_size _ B.free)) (by rw [Heap.size_push, hz]) fun b o x => Heap.get?_push_of_some _ (Heap.get?_push_of_some _ x)⟩
end
end PySem
namespace DL
open PySem PySem.Spec PyProof.Rows L2
/-- the tuple at a as it stands at each turn, each item in a new pair -/
def IteT (K : PySem.W.Frag) (a : Addr) : It :=
  ⟨fun i H => ∃ (xs : List V) (x : V), SqT K H a xs ∧ xs[i]? = some x, fun i H v H' => ∃ T x, v = .ref T ∧ H T = none ∧ H' = upd H T (.tup [.int (i : Nat), x]) ∧ ∀ xs, SqT K H a xs → xs[i]? = some x, fun i H => ∃ xs : List V, SqT K H a xs ∧ xs.length = i⟩
theorem turn_enumT {P : Program} {w : World} {K : PySem.W.Frag} {elts : List Expr} {kk : Nat} {tpos : Pos} (a e it : Addr) :
    Turn P w K (.Tuple elts kk tpos) (IteT K a) [e, it] e (fun i h => (∃ old, IsEnum h e it ((i : Nat) : Int) old) ∧ h.IsTupleIter it a i ∧ e ≠ it ∧ e ≠ a ∧ a ≠ it) where
  mem := by simp
  obj := fun i h st b hb => by
    obtain ⟨⟨old, he⟩, ⟨o, ho, hc, hd⟩, _⟩ := st
    have e' : b = e ∨ b = it := by simpa using hb
    rcases e' with z | z
    · rw [z]; exact ⟨_, he, fun v q => nomatch q⟩
    · rw [z]; exact ⟨o, ho, fun v q => by rw [hd] at q; cases q⟩
  keep := fun i h h' st k => let ⟨⟨old, he⟩, hi, hne⟩ := st; ⟨⟨old, k e (by simp) _ he⟩, hi.at fun o q => k it (by simp) o q, hne⟩
  item := by
    intro X hP hw hK hc i pins s σ H E I hf st hg
    subst hP hw hK
    obtain ⟨⟨old, he⟩, hit, hne, hea, hai⟩ := st
    obtain ⟨xs, x, hq, hx⟩ := hg
    obtain ⟨its, rv, p, hz⟩ := I.tuple hq
    obtain ⟨u, hu, ru⟩ := rv.get hx
    obtain ⟨hul, hue⟩ := List.getElem?_eq_some_iff.mp hu
    have hel : e < s.heap.objs.size := Heap.lt_size he
    have hil : it < s.heap.objs.size := by obtain ⟨_, q, _⟩ := hit; exact Heap.lt_size q
    have D := Draws.tuple (prog := X.prog) (w := X.w) (A := X.A.in1) (show X.A.in1.handled = none from I.ok.hd hc) it a hai its.toArray
    refine wpAny_pyNext_enum_itemC D he ⟨hit, p⟩ (by simpa using hul) hne (by simp [hne, hea]) fun x' h' tk hP ho hs' hT hsz hk => ?_
    obtain ⟨hit', p'⟩ := hs'
    have ex : x' = u := by
      have h1 : its[i]? = some x' := by simpa using hP
      rw [hu] at h1
      exact (Option.some.inj h1).symm
    subst ex
    refine ⟨_, rfl, wpAny_letOwnedTupleGo_enum (s := { s with heap := h', toks := tk + 1 }) ho fun h'' he' sb => ?_⟩
    have hT2 : h''.get? s.heap.objs.size = some { cls := .type "tuple", data := .seq #[.int i tk, x'] } := (sb.2 _ (Nat.ne_of_gt hel)).trans hT
    have new : ObjOk X.prog X.w (upd H s.heap.objs.size (.tup [.int (i : Nat), x])) h'' s.heap.objs.size (.tup [.int (i : Nat), x]) :=
      ⟨by show 2 ≤ sizeLine; decide, [.int i tk, x'], .cons ⟨_, rfl⟩ (.cons ru .nil), ⟨_, hT2, rfl, _, rfl⟩⟩
    have I1 : L2.Inv X pins σ (upd H s.heap.objs.size (.tup [.int (i : Nat), x])) { s with heap := h'', toks := tk + 1 } :=
      I.turnedNew (ch := [e, it]) (fun b ob hb q => (sb.2 b (fun z => hb (by simp [z]))).trans (hk b ob (fun z => hb (by simp [z])) (fun z => hb (by simp [z])) q)) hf (Nat.le_refl _) new
    refine ⟨.ref s.heap.objs.size, _, I1, rfl, ⟨_, x, rfl, I.hok.fresh (Nat.le_refl _), rfl, fun ys hy => by rw [I.tuple_inj hy hq]; exact hx⟩, ⟨⟨x', ?_⟩, hit'.at fun o q => (sb.2 it (Ne.symm hne)).trans q, hne, hea, hai⟩, fun b hb => ?_⟩
    · have e1 : ((i + 1 : Nat) : Int) = (i : Int) + 1 := by omega
      rw [e1]; exact he'
    · have hb' : b < s.heap.objs.size := by
        have e' : b = e ∨ b = it := by simpa using hb
        rcases e' with z | z
        · rw [z]; exact hel
        · rw [z]; exact hil
      rw [upd_ne (Nat.ne_of_lt hb')]
      exact (hf b hb).1
  done := by
    intro X hP hw hK hc i pins s σ H E I hf st hg
    subst hP hw hK
    obtain ⟨⟨old, he⟩, hit, hne, hea, hai⟩ := st
    obtain ⟨xs, hq, hx⟩ := hg
    obtain ⟨its, rv, p, hz⟩ := I.tuple hq
    obtain ⟨f0, f1, f2, f3, f4, f5⟩ := hf it (by simp)
    have hl := rv.length
    have ei : i = its.toArray.size := by simp; omega
    have D := Draws.tuple (prog := X.prog) (w := X.w) (A := X.A.in1) (show X.A.in1.handled = none from I.ok.hd hc) it a hai its.toArray
    refine wpAny_pyNext_enum_endD D he ⟨by rw [← ei]; exact hit, p⟩ fun h' eb => ⟨rfl, I.turned (t' := s.toks) (fun b o hb q => eb b o hb q) f0 f1 f3 f4 f5⟩
  self := fun A i s Q E st h => let ⟨⟨_, he⟩, _⟩ := st; wpAny_pyIter_enum he h
theorem walk_enumT {K : PySem.W.Frag} {a : Addr} {xs : List V} : Walk (IteT K a) xs.length (fun H => SqT K H a xs) (YPair (fun i => some (.int (i : Nat))) (fun i => xs[i]?)) := by
  refine ⟨fun i _ hi q => ⟨xs, xs[i], q, by simp [hi]⟩, fun _ q => ⟨xs, q, rfl⟩, fun i H v H' _ q y => ?_⟩
  obtain ⟨T, x, h1, h2, h3, h4⟩ := y
  exact ⟨T, _, x, h1, h2, h3, rfl, h4 xs q⟩
section
variable {X : Cx} {C : Ct}
def iEnumT (K : PySem.W.Frag) (ta : TA) : TI := fun σ H R => ta σ H fun vs H1 => ∃ a xs, vs = [.ref a] ∧ SqT K H1 a xs ∧ R (IteT K a) H1
theorem pi_enumT {e : Expr} {ta : TA} {p pos tpos : Pos} {elts : List Expr} {kk : Nat} (hg : Gl X "enumerate") (hm : X.mg "enumerate" = none) (ha : PA X [e] ta) (hs : starEach [e] X.env = [(false, eval e X.env)] := by rfl) :
    PI X (.Tuple elts kk tpos) (.Call (.Name "enumerate" p) [e] [] pos) (iEnumT X.K ta) := by
  refine ⟨fun pins s σ H R I h => ?_⟩
  refine Call_ (ld_blt I hg hm boot_enumerate (PyProof.Rows.callWith_type1 (thn (ha.run pos pins s σ H _ I h) fun us s1 ⟨vs, H1, I1, r1, q1⟩ => ?_) hs rfl))
  obtain ⟨a, xs, ex, hq, q⟩ := q1
  subst ex
  cases r1 with
  | cons r rr =>
    cases rr
    cases r
    obtain ⟨its, rv, p', hz⟩ := I1.tuple hq
    have hal : a < s1.heap.objs.size := by obtain ⟨_, q, _⟩ := p'; exact Heap.lt_size q
    refine dl_call_enumerate (begins_tuple a its.toArray) p' fun h' he hit hsz hk => wpAny_pyIter_enum he ?_
    have I2 : L2.Inv X pins σ H1 { s1 with heap := h' } := I1.kept (t' := s1.toks) hk
    refine ⟨s1.heap.objs.size + 1, [s1.heap.objs.size + 1, s1.heap.objs.size], _, _, H1, rfl, I2, turn_enumT a (s1.heap.objs.size + 1) s1.heap.objs.size, ⟨⟨.none, he⟩, ⟨_, hit, rfl, rfl⟩, Nat.succ_ne_self _, fun e => absurd hal (by rw [← e]; exact Nat.not_lt.mpr (Nat.le_succ _)), fun e => absurd hal (by rw [e]; exact Nat.lt_irrefl _)⟩, fun b hb => ?_, q⟩
    have e' : b = s1.heap.objs.size + 1 ∨ b = s1.heap.objs.size := by simpa using hb
    have hle : s1.heap.objs.size ≤ b := by
      rcases e' with z | z
      · rw [z]; exact Nat.le_add_right _ _
      · rw [z]; exact Nat.le_refl _
    exact I1.fpOk hle (I1.hok.fresh hle)
theorem pdi_enumT {elts : List Expr} {kk : Nat} {tpos : Pos} {e : Expr} {p pos : Pos} {m : MA} (t : PI X (.Tuple elts kk tpos) (.Call (.Name "enumerate" p) [e] [] pos) (iEnumT X.K (tDA X.K C m))) :
    PI X (.Tuple elts kk tpos) (.Call (.Name "enumerate" p) [e] [] pos) (tDI X.K C (miEnumT m)) := pi_imp t (by
  rintro σ H R0 ⟨F, sd, Qd, R, h, k⟩
  refine ⟨F, sd, _, R, h, fun vs H1 F1 ds sd1 R1 S1 rs q => ?_⟩
  obtain ⟨xs, rfl, q⟩ := q
  obtain ⟨x, rfl, r⟩ := rpA1 rs
  cases r with
  | @tup a ys _ h2 r2 =>
    refine ⟨_, _, rfl, same_t R1.ext h2, k _ H1 F1 _ sd1 R1 S1 ?_ q⟩
    have hl : (enumL 0 xs).length = ys.length := by
      rw [r2.length]
      have : ∀ (l : List PyData) n, (enumL n l).length = l.length := fun l => by
        induction l with
        | nil => intro _; rfl
        | cons d l ih => intro n; simp [enumL, ih]
      exact this xs 0
    refine ⟨fun H => SqT X.K H a ys, YPair (fun i => some (.int (i : Nat))) (fun i => ys[i]?), by rw [hl]; exact walk_enumT, fun H e => same_t e h2, fun i H x H' F' hi e1 e2 y => ?_⟩
    obtain ⟨T, x1, x2, rfl, hT, hH, y1, y2⟩ := y
    cases y1
    obtain ⟨d, hd, rd⟩ := rpA_at r2 y2
    obtain ⟨F2, al, rr⟩ := pair_al hT e2 hH (.int (i : Int)) (rd.mono e1)
    refine ⟨F2, _, al, ?_, rr⟩
    rw [enumL_get, hd]
    simp)
end
end DL
namespace DL
open PySem PySem.Spec PyProof.Rows L2
end DL
namespace DL
open PySem PySem.Spec PyProof.Rows L2
section
variable {K : PySem.W.Frag} {X : Cx} {C : Ct}
/-- one turn's beginning, the slots vb of σb wiped -/
structure LcG (K : PySem.W.Frag) (C : Ct) (σ : L2.St) (s1 : DSt) (F1 H1 : Hp) (σb : L2.St) (vb : List Nat) (Dl : Addr) (F' H' : Hp) (s : DSt) (acc : List PyData) : Prop where
  R : Rs K C F' H' (wipe σb vb) (swipe s vb)
  fr : Same F1 F'
  kp : ∀ a o, H1 a = some o → ¬ Owned σ s1 a → H' a = some o
  ow : ∀ a, Owned (wipe σb vb) (swipe s vb) a → Owned σ s1 a
  nw : ∀ a o, F' a = some o → F1 a = some o ∨ H1 a = none ∨ Owned σ s1 a
  st : ∀ a, H' a = none → H1 a = none
  dl : ∃ vacc, H' Dl = some (.lst vacc) ∧ RpA K F' vacc acc
  df : F' Dl = none
/-- the new list grows by an item -/
theorem LcG.push {σ σb : L2.St} {s1 s : DSt} {F1 H1 F' H' : Hp} {vb : List Nat} {Dl : Addr} {acc : List PyData} {vacc : List V} {y : V} {dy : PyData} (hD : H1 Dl = none) (L : LcG K C σ s1 F1 H1 σb vb Dl F' H' s acc) (no : ¬ Owned (wipe σb vb) (swipe s vb) Dl) (h0 : C.H0 Dl = none)
    (e1 : H' Dl = some (.lst vacc)) (e2 : RpA K F' vacc acc) (ry : Rp K F' y dy) : LcG K C σ s1 F1 H1 σb vb Dl F' (upd H' Dl (.lst (vacc ++ [y]))) s (acc ++ [dy]) := by
  refine ⟨L.R.updH L.df no h0, L.fr, fun a o e n => ?_, L.ow, L.nw, fun a e => ?_, ⟨_, upd_same, e2.snoc ry⟩, L.df⟩
  · have : a ≠ Dl := fun z => by subst z; rw [hD] at e; cases e
    rw [upd_ne this]; exact L.kp a o e n
  · by_cases z : a = Dl
    · subst z; exact hD
    · rw [upd_ne z] at e; exact L.st a e
variable {elt tg iter tg1 iter1 : Expr} {ifs ifs1 : List Expr} {scope : Scope} {pos : Pos} {mi mi1 : MI} {mg mg1 : MG} {mt mt1 : MT} {me : ME} {vs vs1 : List Nat}
end
end DL
namespace DL
open PySem PySem.Spec PyProof.Rows L2
/-- min(a list of ints), not empty -/
def bMinL : List PyData → Option PyData
  | [.list xs] => match ints? xs with
    | some (n :: ns) => some (.int (ns.foldl min n))
    | _ => none
  | _ => none
theorem foldl_min : ∀ (ns : List Int) (n : Int), (ns.foldl min n ∈ n :: ns) ∧ ∀ a ∈ n :: ns, ns.foldl min n ≤ a
  | [], n => ⟨by simp, fun a ha => by simp at ha; subst ha; exact Int.le_refl _⟩
  | m :: ns, n => by
    obtain ⟨h1, h2⟩ := foldl_min ns (min n m)
    rw [List.foldl_cons]
    refine ⟨?_, fun a ha => ?_⟩
    · rcases List.mem_cons.mp h1 with h | h
      · rw [h]
        by_cases c : n ≤ m
        · rw [Int.min_eq_left c]; simp
        · rw [Int.min_eq_right (by omega)]; simp
      · simp [h]
    · have h0 := h2 (min n m) (by simp)
      rcases List.mem_cons.mp ha with rfl | ha
      · exact Int.le_trans h0 (Int.min_le_left _ _)
      · rcases List.mem_cons.mp ha with rfl | ha
        · exact Int.le_trans h0 (Int.min_le_right _ _)
        · exact h2 a (by simp [ha])
theorem rc_minL {K : PySem.W.Frag} : RLC K (rMin K) bMinL := by
  intro F H xs as z Q e _ rx h k
  unfold bMinL at h
  split at h
  · obtain ⟨x, rfl, r⟩ := rpA1 rx
    cases r with
    | lst h1 r1 =>
      split at h
      · rename_i n ns hn
        cases h
        rw [ints_rp r1 hn] at h1
        refine ⟨_, n :: ns, rfl, .inl (.inl (e _ _ h1)), by simp, fun m hm hle => ?_⟩
        obtain ⟨f1, f2⟩ := foldl_min ns n
        have : m = ns.foldl min n := by
          have a1 := hle _ f1
          have a2 := f2 _ hm
          omega
        rw [this]
        exact k _ F H .id (.int _)
      · cases h
  · cases h
end DL
namespace DL
open PySem PySem.Spec PyProof.Rows L2
end DL
namespace DL
open PySem PySem.Spec PyProof.Rows L2
/-- a op b op' c op'' d -/
def tChain3 (r r' r'' : R2) (ta tb tc td : TE) : TE := fun σ H Q => ta σ H fun x H1 => tb σ H1 fun y H2 => r x y H2 fun z H3 => ∃ k, z = .bl k ∧
  (if k = true then tc σ H3 fun w H4 => r' y w H4 fun z2 H5 => ∃ k2, z2 = .bl k2 ∧ (if k2 = true then td σ H5 fun u H6 => r'' w u H6 Q else Q (.bl false) H5) else Q (.bl false) H3)
def mChain3 (f g h : PyData → PyData → Option PyData) (ma mb mc md : ME) : ME := fun sd Q => ma sd fun a s1 => mb s1 fun b s2 => ∃ c, f a b = some (.bool c) ∧
  if c = true then mc s2 fun d s3 => ∃ c2, g b d = some (.bool c2) ∧ if c2 = true then md s3 fun e s4 => ∃ r, h d e = some r ∧ Q r s4 else Q (.bool false) s3 else Q (.bool false) s2
section
variable {K : PySem.W.Frag} {X : Cx} {C : Ct}
theorem pe_chain3 {op op' op'' : CmpOp} {r r' r'' : R2} {a b c d : Expr} {ta tb tc td : TE} {pos : Pos} (ho : OpR X (compareOp op) r) (ho' : OpR X (compareOp op') r') (ho'' : OpR X (compareOp op'') r'') (ha : PE X a ta) (hb : PE X b tb) (hc : PE X c tc) (hd : PE X d td)
    (hm : lastMarks [op, op', op''] [b, c, d] = false := by with_unfolding_all rfl) : PE X (.Compare a [op, op', op''] [b, c, d] pos) (tChain3 r r' r'' ta tb tc td) := by
  refine ⟨fun pins s σ H Q I h => ?_⟩
  refine Compare_chain (thn (ha.run pins s σ H _ I h) fun v s1 ⟨x, H1, I1, r1, q1⟩ => chain_link (thn (hb.run pins s1 σ H1 _ I1 q1) fun u s2 ⟨y, H2, I2, r2, q2⟩ =>
    thn (ho pins s2 σ H2 x y v u _ I2 r1 r2 q2) fun d0 s3 ⟨z, H3, I3, r3, k, e, q3⟩ => ?_)) hm
  subst e
  cases r3
  refine wpAny_truthy_bool ?_
  cases k with
  | false => exact ite_ff ⟨.bl false, H3, I3, rfl, q3⟩
  | true =>
    refine ite_tt (chain_link (thn (hc.run pins s3 σ H3 _ I3 q3) fun w' s4 ⟨z', H4, I4, r4, q4⟩ => thn (ho' pins s4 σ H4 y z' u w' _ I4 r2 r4 q4) fun d1 s5 ⟨z2, H5, I5, r5, k2, e2, q5⟩ => ?_))
    subst e2
    cases r5
    refine wpAny_truthy_bool ?_
    cases k2 with
    | false => exact ite_ff ⟨.bl false, H5, I5, rfl, q5⟩
    | true => exact ite_tt (chain_last (thn (hd.run pins s5 σ H5 _ I5 q5) fun w2 s6 ⟨z3, H6, I6, r6, q6⟩ => ho'' pins s6 σ H6 z' z3 w' w2 Q I6 r4 r6 q6))
theorem pd_chain3 {op op' op''} {r r' r'' : R2} {f g f3 : PyData → PyData → Option PyData} {a b c d : Expr} {ma mb mc md : ME} {pos : Pos} (ho : OpR X (compareOp op) r) (ho' : OpR X (compareOp op') r') (ho'' : OpR X (compareOp op'') r'') (L : RL2 X.K r f) (L' : RL2 X.K r' g) (L'' : RL2 X.K r'' f3)
    (ha : PE X a (tD X.K C ma)) (hb : PE X b (tD X.K C mb)) (hc : PE X c (tD X.K C mc)) (hd : PE X d (tD X.K C md)) (hm : lastMarks [op, op', op''] [b, c, d] = false := by with_unfolding_all rfl) :
    PE X (.Compare a [op, op', op''] [b, c, d] pos) (tD X.K C (mChain3 f g f3 ma mb mc md)) := pe_imp (pe_chain3 ho ho' ho'' ha hb hc hd hm) (by
  rintro σ H Q ⟨F, sd, Qd, R, h, k⟩
  refine ⟨F, sd, _, R, h, fun x H1 F1 a sd1 R1 S1 rx h1 => ⟨F1, sd1, _, R1, h1, fun y H2 F2 b sd2 R2 S2 ry h2 => ?_⟩⟩
  obtain ⟨cc, e, q⟩ := h2
  refine L F2 H2 x y a b (.bool cc) _ R2.ext (fun p => R2.free) (rx.mono S2.fr) ry e fun v F' H' al rz => ?_
  cases rz
  refine ⟨cc, rfl, ?_⟩
  have S' := (S1.trans S2).trans (.al R2 al)
  cases cc with
  | false => exact k (.bl false) H' F' _ sd2 (R2.al al) S' (.bl false) q
  | true =>
    refine ⟨F', sd2, _, R2.al al, q, fun w H3 F3 d sd3 R3 S3 rw_ h3 => ?_⟩
    obtain ⟨cc2, e2, q2⟩ := h3
    refine L' F3 H3 y w b d (.bool cc2) _ R3.ext (fun p => R3.free) (ry.mono ((Stp.al R2 al).fr.trans S3.fr)) rw_ e2 fun v F4 H4 al2 rz2 => ?_
    cases rz2
    refine ⟨cc2, rfl, ?_⟩
    have S3' := (S'.trans S3).trans (.al R3 al2)
    cases cc2 with
    | false => exact k (.bl false) H4 F4 _ sd3 (R3.al al2) S3' (.bl false) q2
    | true =>
      refine ⟨F4, sd3, _, R3.al al2, q2, fun w2 H5 F5 d2 sd5 R5 S5 rw2 h5 => ?_⟩
      obtain ⟨z3, e3, q3⟩ := h5
      exact L'' F5 H5 w w2 d d2 z3 _ R5.ext (fun p => R5.free) (rw_.mono ((Stp.al R3 al2).fr.trans S5.fr)) rw2 e3 fun v F6 H6 al3 rz3 => k v H6 F6 z3 sd5 (R5.al al3) ((S3'.trans S5).trans (.al R5 al3)) rz3 q3)
end
end DL
namespace DL
open PySem PySem.Spec PyProof.Rows L2
end DL
namespace DL
open PySem PySem.Spec PyProof.Rows L2
/-- xs[e] of a list that nobody else holds, which stays so -/
def mIxOwn (i : Nat) (me : ME) : ME := fun sd Q => (∃ ds, sget sd i = .own ds) ∧ me sd fun j s1 => ∃ ds n d, sget s1 i = .own ds ∧ j = .int n ∧ atI ds n = some d ∧ Q d s1
section
variable {X : Cx} {C : Ct}
theorem pd_ixOwn {i : Nat} {mb : ME} {y : Str} {p2 pos : Pos} {b : Expr} (hy : PE X (.Name y p2) (tVar i)) (hb : PE X b (tD X.K C mb)) (hs : PlainIx b := by exact fun _ _ => rfl) :
    PE X (.Subscript (.Name y p2) b pos) (tD X.K C (mIxOwn i mb)) := pe_imp (pe_ix ix_seq hy hb hs) (by
  rintro σ H Q ⟨F, sd, Qd, R, ⟨⟨ds0, h0⟩, h⟩, k⟩
  have hi := R.slot i
  rw [h0] at hi
  obtain ⟨p, vs0, e1, _⟩ := hi
  refine ⟨.ref p, gv_some.mp e1, F, sd, _, R, h, fun v H1 F1 j sd1 R1 S1 rj q => ?_⟩
  obtain ⟨ds, n, d, hs1, rfl, hat, q⟩ := q
  have hi1 := R1.slot i
  rw [hs1] at hi1
  obtain ⟨p', vs, z1, z2, z3, z4, rs⟩ := hi1
  rw [e1] at z1; cases z1
  cases rj
  obtain ⟨w, e2, r⟩ := atI_rpA rs hat
  exact .inl ⟨_, _, _, w, rfl, rfl, .inl (.inl z2), e2, k w H1 F1 d sd1 R1 S1 r q⟩)
end
end DL
namespace DL
open PySem PySem.Spec PyProof.Rows L2
end DL
namespace DL
open PySem PySem.Spec PyProof.Rows L2
end DL
namespace DL
open PySem PySem.Spec PyProof.Rows L2
end DL
namespace DL
open PySem PySem.Spec PyProof.Rows L2
end DL
namespace DL
open PySem PySem.Spec PyProof.Rows L2
end DL
namespace DL
open PySem PySem.Spec PyProof.Rows L2
theorem RoomG.u65 {k : Nat} {A : Around} (h : RoomG k A) : A.units + 65 < cLine := by have := h.r.un; omega
def opInD : PyData → PyData → Option PyData
  | a, .list ds => if (SeqAt.shaped a && SeqAt.shaped (.list ds)) = true then some (.bool (ds.any fun z => PyData.eqv z a)) else none
  | _, _ => none
theorem rl_inD {K : PySem.W.Frag} : RL2 K (rInD K) opInD := by
  intro F H x y a b z Q e _ rx ry h k
  unfold opInD at h
  split at h
  · split at h
    · rename_i hs
      cases h
      rw [Bool.and_eq_true] at hs
      exact ⟨a, _, rx.dp e (SeqAt.canLay_of_shaped hs.1), ry.dp e (SeqAt.canLay_of_shaped hs.2), hs.1, hs.2, k _ F H .id (.bl _)⟩
    · cases h
  · cases h
/-- a pair of numbers in a list of such -/
theorem shaped_pair {a b : Int} : SeqAt.shaped (.tuple [.int a, .int b]) = true := by
  unfold SeqAt.shaped
  simp [PyData.canLay0, PyData.canLayAll0, PyData.depth, PyData.depthAll]
def prP (u : Int × Int) : PyData := .tuple [.int u.1, .int u.2]
theorem lay_prs : ∀ l : List (Int × Int), PyData.canLayAll0 (l.map prP) = true ∧ PyData.depthAll (l.map prP) ≤ 2
  | [] => ⟨rfl, by simp [PyData.depthAll]⟩
  | u :: l => by
    obtain ⟨a, b⟩ := lay_prs l
    refine ⟨by simp [prP, PyData.canLayAll0, PyData.canLay0, a], ?_⟩
    simp only [List.map_cons, prP, PyData.depthAll, PyData.depth]
    omega
theorem any_prs {w : Int × Int} : ∀ l : List (Int × Int), ((l.map prP).any fun z => PyData.eqv z (prP w)) = decide (w ∈ l)
  | [] => by simp
  | u :: l => by
    rw [List.map_cons, List.any_cons, any_prs l]
    have e : PyData.eqv (prP u) (prP w) = decide (w = u) := by
      unfold prP
      simp [PyData.eqv, PyData.eqvAll]
      by_cases h1 : u.1 = w.1 <;> by_cases h2 : u.2 = w.2
      · have : w = u := Prod.ext h1.symm h2.symm
        simp [h1, h2, this]
      · have : ¬ w = u := fun e => h2 (by rw [e])
        simp [h1, h2, this]
      · have : ¬ w = u := fun e => h1 (by rw [e])
        simp [h1, h2, this]
      · have : ¬ w = u := fun e => h1 (by rw [e])
        simp [h1, h2, this]
    rw [e]
    by_cases c : w = u
    · simp [c]
    · simp [c]
theorem opInD_pr {w : Int × Int} {l : List (Int × Int)} : opInD (prP w) (.list (l.map prP)) = some (.bool (decide (w ∈ l))) := by
  have h : SeqAt.shaped (.list (l.map prP)) = true := by
    obtain ⟨a, b⟩ := lay_prs l
    unfold SeqAt.shaped
    have : (PyData.list (l.map prP)).canLay0 = true := by simpa [PyData.canLay0] using a
    rw [this, decide_eq_true (by simp only [PyData.depth]; omega)]
    rfl
  show (if (SeqAt.shaped (prP w) && SeqAt.shaped (.list (l.map prP))) = true then some (PyData.bool ((l.map prP).any fun z => PyData.eqv z (prP w))) else none) = _
  rw [h, show SeqAt.shaped (prP w) = true from shaped_pair, Bool.and_self, if_pos rfl, any_prs]
end DL
namespace DL
open PySem PySem.Spec PyProof.Rows L2
end DL
namespace DL
open PySem PySem.Spec PyProof.Rows L2
end DL
namespace DL
open PySem PySem.Spec PyProof.Rows L2
theorem u1 {k : Nat} {A : Around} (h : RoomG k A) : A.units + 1 < cLine := by have := RoomG.u64 h; omega
end DL
namespace DL
open PySem PySem.Spec PyProof.Rows L2
/-- room for k calls, perhaps in a suite of except -/
structure RoomE (k : Nat) (A : Around) : Prop where
  dp : A.depth + 3 * k + 5 < recursionLimit
  un : A.units + 16 * k + 200 < cLine
  g : A.guards = some []
theorem RoomE.mono {j k : Nat} {A : Around} (h : RoomE k A) (hj : j ≤ k) : RoomE j A := ⟨by have := h.dp; omega, by have := h.un; omega, h.g⟩
theorem RoomE.deeper {k : Nat} {A : Around} (h : RoomE (k + 1) A) (env : Env) : RoomE k (A.deeper env) := ⟨by have := h.dp; show A.depth + 1 + _ + _ < _; omega, by have := h.un; show A.units + 3 + _ + _ < _; omega, h.g⟩
theorem RoomE.u64 {k : Nat} {A : Around} (h : RoomE k A) : A.units + 64 < cLine := by have := h.un; omega
end DL
namespace DL
open PySem PySem.Spec PyProof.Rows L2
end DL
namespace DL
open PySem PySem.Spec PyProof.Rows L2
end DL
namespace DL
open PySem PySem.Spec PyProof.Rows L2
theorem RoomG.make {k : Nat} {A : Around} (h : RoomG (k + 1) A) (C : Addr) (us : List Value) (kw : List (Str × Value)) : RoomG k (A.under (.builtin "type.__call__" { pos := .ref C :: us, kw := kw })) := ⟨h.r.make C us kw, by
  unfold Around.under
  dsimp only
  rw [h.g]
  rfl⟩
section
variable {X : Cx} {k : Nat} {f C : Addr} {fd : FuncData} {ps : List Str} {sp : Sp} {E : L2.St → XK}
theorem run_makeG {pins : List (Addr × Obj)} {σ : L2.St} {H : Hp} {s : Shared} {Q : VK} {us : List Value} {vs : List V} (M : Mk X.K C f) (F : FnG X.prog X.w X.K X.mg X.base k f fd ps sp) (hr : RoomG (k + 1) X.A) (hb : Binds X.K fd ps []) (hx : PassesAt (L2.CX X.prog X.w) X σ (E σ))
    (I : L2.Inv X pins σ H s) (r : Vals vs us) (h : ∀ x dx, H x = none → H dx = none → dx ≠ x → sp (.ref x :: vs) (upd (upd H dx (.own x)) x (.ins C dx [])) (fun v H2 => v = .non ∧ Q (.ref x) H2) (E σ)) :
    wpAny (model X.prog X.w) X.A (call (.ref C) us) (EP X pins σ Q) X.xe s := by
  have I1 := I.made (C := C)
  have f1 := I.hok.fresh (a := s.heap.objs.size) (Nat.le_refl _)
  have f2 := I.hok.fresh (a := s.heap.objs.size + 1) (Nat.le_succ _)
  have hs := h (s.heap.objs.size + 1) s.heap.objs.size f2 f1 (Nat.ne_of_lt (Nat.lt_succ_self _))
  have rr : Vals (V.ref (s.heap.objs.size + 1) :: vs) (Value.ref (s.heap.objs.size + 1) :: us) := .cons rfl r
  have hl : ((Value.ref (s.heap.objs.size + 1) :: us) ++ []).length = ps.length := by rw [List.append_nil, ← rr.length]; exact F.len _ _ _ _ hs
  have b := hb _ (Value.ref (s.heap.objs.size + 1) :: us) I1.kIn hl
  rw [List.append_nil] at b
  refine wpAny_call (make_map I.kIn M.makes M.init (by have := M.fn; simpa [PySem.W.isFn] using this) (codeAny_mono (F.run (hr.make C us []) (I1.env0.make C us []) b rr hs) fun r s' hq => ?_))
  cases r with
  | error e => exact hx pins _ _ e s' I1 hq
  | ok fl =>
    cases fl with
    | ret u =>
      have q := I1.after hq
      obtain ⟨v, H2, I2, rv, hv, hq2⟩ := q
      subst hv
      cases rv
      exact ⟨rfl, .ref _, H2, I2, rfl, hq2⟩
    | next => exact hq
    | brk => exact hq
    | cont => exact hq
/-- C(e, ..) of an own class with __init__ -/
def tMakeG (C : Addr) (sp : Sp) (E : L2.St → XK) (t : TA) : TE := fun σ H Q => t σ H fun vs H1 => ∀ x dx, H1 x = none → H1 dx = none → dx ≠ x → sp (.ref x :: vs) (upd (upd H1 dx (.own x)) x (.ins C dx [])) (fun v H2 => v = .non ∧ Q (.ref x) H2) (E σ)
theorem pe_makeG {x : Str} {p pos : Pos} {e : Expr} {es : List Expr} {t : TA} (M : Mk X.K C f) (F : FnG X.prog X.w X.K X.mg X.base k f fd ps sp) (hr : RoomG (k + 1) X.A) (hg : Gl X x) (hm : X.mg x = some (.ref C)) (hb : Binds X.K fd ps []) (hx : ∀ σ, PassesAt (L2.CX X.prog X.w) X σ (E σ))
    (ha : PA X (e :: es) t) (hdb : (x == ("__debug__" : Str)) = false) (he : starEach (e :: es) X.env = (false, eval e X.env) :: starEach es X.env) (hpl : (backTo pos (starEach es X.env)).any (·.1) = false) :
    PE X (.Call (.Name x p) (e :: es) [] pos) (tMakeG C sp E t) :=
  ⟨fun pins s σ H Q I h => wpAny_Call_Name_kw (ld_glob I hg hm (PySem.W.callWith_K (h₀ := X.base) I.ok.mod.kin M.kp (thn (ha.run pos pins s σ H _ I h) fun us s1 hh => by
    obtain ⟨vs, H1, I1, r, q⟩ := hh
    exact ⟨I1.kIn, run_makeG M F hr hb (hx σ) I1 r q⟩) he hpl) hdb)⟩
theorem ins_inst {P : Program} {w : World} {H : Hp} {h : Heap} {a dx : Addr} {fs : List (Str × V)} (hok : HOk P w H h) (e : H a = some (.ins C dx fs)) : ∃ ox od, PySem.W.InstAt h a ox C od := by
  obtain ⟨mA, o, -⟩ := ins_get hok e
  have n := o.ns
  unfold Heap.Ns1 at n
  obtain ⟨o2, es, ep, h2, -⟩ := n
  exact ⟨_, some o2, o.obj, rfl, rfl, h2⟩
end
theorem RpF.get {K : PySem.W.Frag} {F : Hp} {n : Str} {d : PyData} : ∀ {fs : List (Str × V)} {es : List PyData}, RpF K F fs es → fget n es = some d → ∃ v, fs.lookup n = some v ∧ Rp K F v d
  | _, _, .nil, h => by cases h
  | _, _, .cons (n := m) (v := v) (fs := fs) (d := d') (es := es) a r, h => by
    have h : (if n = m then some d' else fget n es) = some d := h
    by_cases e : n = m
    · rw [if_pos e] at h
      cases h
      exact ⟨v, by simp [List.lookup, e], a⟩
    · rw [if_neg e] at h
      obtain ⟨w, h1, h2⟩ := RpF.get r h
      have : (n == m) = false := beq_false_of_ne e
      exact ⟨w, by simp only [List.lookup, this]; exact h1, h2⟩
theorem RpF.put {K : PySem.W.Frag} {F : Hp} {n : Str} {v : V} {d : PyData} (q : Rp K F v d) : ∀ {fs : List (Str × V)} {es : List PyData}, RpF K F fs es → RpF K F (putF n v fs) (fput n d es)
  | _, _, .nil => .cons q .nil
  | _, _, .cons (n := m) (v := v') (fs := fs) (d := d') (es := es) a r => by
    show RpF K F (if m = n then (m, v) :: fs else (m, v') :: putF n v fs) (if m = n then .tuple [.str m, d] :: es else .tuple [.str m, d'] :: fput n d es)
    by_cases e : m = n
    · rw [if_pos e, if_pos e]; exact .cons q r
    · rw [if_neg e, if_neg e]; exact .cons a (RpF.put q r)
theorem RpF.length {K : PySem.W.Frag} {F : Hp} : ∀ {fs : List (Str × V)} {es : List PyData}, RpF K F fs es → fs.length = es.length
  | _, _, .nil => rfl
  | _, _, .cons _ r => by simp [RpF.length r]
/-- e.n, e a frozen instance of the class c -/
def opAttr (c n : Str) : PyData → Option PyData
  | .dict [(.none, .tuple (.str c' :: es))] => if c' = c then fget n es else none
  | _ => none
/-- x.n = e, x the instance in slot i that nobody else holds -/
def mSetF (i : Nat) (c n : Str) (me : ME) : MS := fun D sd => me sd fun d s1 => ∃ es, sget s1 i = .ins c es ∧ es.length < 900 ∧ D.nx (sset s1 i (.ins c (fput n d es)))
theorem rp_obj {K : PySem.W.Frag} {F : Hp} {x : V} {c : Str} {es : List PyData} (r : Rp K F x (objD c es)) : ∃ a Cc dx fs, x = .ref a ∧ F a = some (.ins Cc dx fs) ∧ ObjC K c Cc ∧ RpF K F fs es := by
  cases r with
  | dct _ rd => exact (rpD_key rd rfl).elim
  | ins h o r => exact ⟨_, _, _, _, rfl, h, o, r⟩
theorem opAttr_inv {c n : Str} {d z : PyData} (h : opAttr c n d = some z) : ∃ es, d = objD c es ∧ fget n es = some z := by
  unfold opAttr at h
  split at h
  · split at h
    · rename_i c' es e
      subst e
      exact ⟨es, rfl, h⟩
    · cases h
  · cases h
section
variable {X : Cx} {C : Ct}
theorem pd_attr {c n : Str} {e : Expr} {me : ME} {pos : Pos} (na : ∀ Cc, ObjC X.K c Cc → NoAttr X.K Cc n) (he : PE X e (tD X.K C me)) (hb : attributeBase e n X.env (eval e X.env) = eval e X.env := by rfl) : PE X (.Attribute e n pos) (tD X.K C (mOp1 (opAttr c n) me)) :=
  pe_imp (pe_fld he hb) (by
  rintro σ H Q ⟨F, sd, Qd, R, h, k⟩
  refine ⟨F, sd, _, R, h, fun x H1 F1 d sd1 R1 S1 rx h1 => ?_⟩
  obtain ⟨z, ez, q⟩ := h1
  obtain ⟨es, rfl, hg⟩ := opAttr_inv ez
  obtain ⟨a, Cc, dx, fs, rfl, hF, oc, rf⟩ := rp_obj rx
  obtain ⟨v, hl, rv⟩ := rf.get hg
  exact ⟨a, Cc, dx, fs, v, rfl, R1.ext _ _ hF, oc.cl, na Cc oc, hl, k v H1 F1 z sd1 R1 S1 rv q⟩)
theorem Rs.setIns {K : PySem.W.Frag} {F H : Hp} {σ : L2.St} {sd : DSt} (R : Rs K C F H σ sd) {i : Nat} {c : Str} {es es' : List PyData} {p Cc dx : Addr} {fs fs' : List (Str × V)} (h : sget sd i = .ins c es) (e : gv σ i = some (.ref p)) (hp : H p = some (.ins Cc dx fs)) (oc : ObjC K c Cc) (r : RpF K F fs' es') :
    Rs K C F (upd H p (.ins Cc dx fs')) σ (sset sd i (.ins c es')) := by
  have hi := R.slot i
  rw [h] at hi
  obtain ⟨p', Cc', dx', fs2, e1, e2, e3, e4, oc', r2⟩ := hi
  rw [e] at e1; cases e1
  have hl : i < sd.length := R.lt_of_own (by rw [h]; intro z; cases z)
  refine ⟨by rw [sset_length]; exact R.len, R.grow, fun a o z => ?_, R.new, fun a o z n => ?_, fun a z => ?_, fun j => ?_, fun j k q hjk o1 o2 z1 => ?_⟩
  · by_cases q : a = p
    · subst q; rw [e3] at z; cases z
    · rw [upd_ne q]; exact R.ext a o z
  · by_cases q : a = p
    · subst q
      rcases e4 with e4 | e4
      · exact absurd e4.2 n
      · rw [e4.2] at z; cases z
    · rw [upd_ne q]; exact R.keep a o z n
  · by_cases q : a = p
    · subst q; rw [upd_same] at z; cases z
    · rw [upd_ne q] at z; exact R.still a z
  · by_cases hj : j = i
    · subst hj
      rw [sget_sset hl]
      exact ⟨p, Cc, dx, fs', e, upd_same, e3, e4, oc, r⟩
    · rw [sget_sset_ne hj]
      refine (R.slot j).grow (Same.refl _) fun q x o eq eh en => ?_
      have : q ≠ p := fun z => by
        subst z
        exact R.sep i j q (Ne.symm hj) (by rw [h]; rfl) o e eq
      rw [upd_ne this]; exact ⟨eh, en⟩
  · have sw : ∀ m, isOwn (sget (sset sd i (.ins c es')) m) = true → isOwn (sget sd m) = true := fun m o => by
      by_cases hm : m = i
      · subst hm; rw [h]; rfl
      · rwa [sget_sset_ne hm] at o
    exact R.sep j k q hjk (sw j o1) (sw k o2) z1
theorem pds_setF {c n : Str} {i : Nat} {o value : Expr} {pos pos' : Pos} {me : ME} (na : ∀ Cc, ObjC X.K c Cc → NoAttr X.K Cc n) (ho : PE X o (tVar i)) (hv : PE X value (tD X.K C me)) (hs : swapsWith value (some (.Attribute o n pos')) pos.line X.env = pure false := by rfl) :
    PS X (.Assign [.Attribute o n pos'] value pos) (tDS X.K C (mSetF i c n me)) := ps_imp (ps_fld ho hv hs) (by
  rintro D σ H ⟨F, sd, Dd, R, E, h⟩
  refine ⟨F, sd, _, R, h, fun v H1 F1 d sd1 R1 S1 rv hh => ?_⟩
  obtain ⟨es, hs, hl, q⟩ := hh
  have a := R1.slot i
  rw [hs] at a
  obtain ⟨p, Cc, dx, fs, e1, e2, e3, e4, oc, rf⟩ := a
  refine ⟨.ref p, gv_some.mp e1, p, Cc, dx, fs, rfl, e2, oc.cl, na Cc oc, by rw [rf.length]; omega, ?_⟩
  exact E.nx F1 _ σ _ S1.fr (R1.setIns hs e1 e2 oc (rf.put rv)) q)
end
abbrev OSpec := List PyData → List PyData → (S → List PyData → Prop) → (String → List PyData → Prop) → Prop
structure PostO (K : PySem.W.Frag) (c : Str) (p : Addr) (F H F' H' : Hp) (es' : List PyData) : Prop where
  fr : Same F F'
  ext : Same F' H'
  kp : ∀ a o, a ≠ p → H a = some o → H' a = some o
  nw : ∀ a o, F' a = some o → F a = some o ∨ H a = none
  ob : ∃ Cc dx fs, H' p = some (.ins Cc dx fs) ∧ F' p = none ∧ ObjC K c Cc ∧ RpF K F' fs es'
def spO (K : PySem.W.Frag) (CN : String → Option Addr) (c : Str) (spec : OSpec) : Sp := fun vs H Q E => ∃ F p ws Cc dx fs es ds Qd Ed, vs = .ref p :: ws ∧ Same F H ∧ F p = none ∧ H p = some (.ins Cc dx fs) ∧ ObjC K c Cc ∧ RpF K F fs es ∧ RpA K F ws ds ∧ spec es ds Qd Ed ∧
  (∀ v H' F' r es', PostO K c p F H F' H' es' → ResOk K F' H H' v r → Qd r es' → Q v H') ∧ ∀ cn a H' F' es', CN cn = some a → PostO K c p F H F' H' es' → Ed cn es' → E (.ref a) none H'
def slotsO (N : Nat) (c : Str) (es ds : List PyData) : DSt := .ins c es :: slots0 (N - 1) ds
def endO (c : Str) (Q : S → List PyData → Prop) : DE := { nx := fun sd => ∃ es, sget sd 0 = .ins c es ∧ Q (.va .none) es, rt := fun r sd => ∃ es, sget sd 0 = .ins c es ∧ Q r es }
section
variable {P : Program} {w : World} {K : PySem.W.Frag} {mg : Str → Option Value} {base : Heap} {CN : String → Option Addr}
theorem rs_startO {F H : Hp} {N : List Str} {c : Str} {p Cc dx : Addr} {fs : List (Str × V)} {vs : List V} {es ds : List PyData} (e : Same F H) (hF : F p = none) (hp : H p = some (.ins Cc dx fs)) (oc : ObjC K c Cc) (rf : RpF K F fs es) (r : RpA K F vs ds) (hl : ds.length + 1 ≤ N.length) :
    Rs K ⟨F, H, fun q => q = p, true⟩ F H (L2.start N (.ref p :: vs)) (slotsO N.length c es ds) where
  len := by unfold L2.start slotsO slots0; simp [r.length]; omega
  grow := Same.refl _
  ext := e
  new := fun a o h => .inl h
  keep := fun a o h _ => h
  still := fun a h => h
  slot := fun i => by
    cases i with
    | zero => exact ⟨p, Cc, dx, fs, rfl, hp, hF, .inl ⟨rfl, rfl⟩, oc, rf⟩
    | succ i =>
      show SlotOk K _ F H _ (sget (slots0 (N.length - 1) ds) i)
      rcases sget_va (s := sget (slots0 (N.length - 1) ds) i) rfl with ⟨d, h1, h2⟩ | h
      · rw [h2]
        obtain ⟨v, e1, rv⟩ := r.get h1
        exact ⟨v, start_gv (i := i + 1) (by simpa using e1), rv⟩
      · rw [h]; trivial
  sep := fun i j q hij o1 o2 => by
    have z : ∀ k, isOwn (sget (slotsO N.length c es ds) k) = true → k = 0 := fun k o => by
      cases k with
      | zero => rfl
      | succ k =>
        have o : isOwn (sget (slots0 (N.length - 1) ds) k) = true := o
        rcases sget_va (s := sget (slots0 (N.length - 1) ds) k) rfl with ⟨d, h1, h2⟩ | h
        · rw [h2] at o; cases o
        · rw [h] at o; cases o
    exact absurd ((z i o1).trans (z j o2).symm) hij
theorem fun_okO {x qual c : Str} {st : Stmt} {f : Addr} {fd : FuncData} {N ps : List Str} {k : Nat} {spec : OSpec} {m : WD → MS} (F : Fun K x qual st f fd) (S : FnScope N ps (defScope st)) (hN : ps.length ≤ N.length) (len : ∀ es ds Q E, spec es ds Q E → ds.length + 1 = ps.length)
    (hbody : ∀ (cdv : Value) (A : Around) (outer : List Env) (s : Shared) (H : Hp) (E : XK) (C : Ct) (W : WD), RoomG k (A.deeper (envOfC qual (defScope st) s.heap.objs.size f cdv)) →
      Takes (cxD P w K mg base N qual (defScope st) f cdv A outer s H E) (wD K C CN W) → PSs (cxD P w K mg base N qual (defScope st) f cdv A outer s H E) (defBody st) (tDS K C (m W)))
    (rd : ∀ es ds Q E, spec es ds Q E → m (fun cn sd => ∃ es', sget sd 0 = .ins c es' ∧ E cn es') (endO c Q) (slotsO N.length c es ds)) : FnG P w K mg base (k + 1) f fd ps (spO K CN c spec) := by
  refine fun_okG F S (fun vs H Q E h => ?_) (fun cdv A outer s H vs Q E hr h => ?_)
  · obtain ⟨F0, p, ws, Cc, dx, fs, es, ds, Qd, Ed, rfl, _, _, _, _, _, r, hs, _⟩ := h
    have := len _ _ _ _ hs
    have := r.length
    simp; omega
  · obtain ⟨F0, p, ws, Cc, dx, fs, es, ds, Qd, Ed, rfl, e, hF, hp, oc, rf, r, hs, hq, he⟩ := h
    have R0 := rs_startO (N := N) e hF hp oc rf r (by rw [len _ _ _ _ hs]; exact hN)
    have post : ∀ {F1 H1 : Hp} {σ : L2.St} {sd : DSt} {es' : List PyData}, Rs K ⟨F0, H, fun q => q = p, true⟩ F1 H1 σ sd → sget sd 0 = .ins c es' → PostO K c p F0 H F1 H1 es' := fun {F1 H1 σ sd es'} R h0 => by
      have hs0 := R.slot 0
      rw [h0] at hs0
      obtain ⟨p', Cc', dx', fs', _, z2, z3, z4, z5, z6⟩ := hs0
      refine ⟨R.grow, R.ext, fun a o za z => R.keep a o z za, R.new, ?_⟩
      rcases z4 with z4 | z4
      · have : p' = p := z4.2
        subst this
        exact ⟨Cc', dx', fs', z2, z3, z5, z6⟩
      · cases z4.1
    refine ⟨_, hbody cdv A outer s H E ⟨F0, H, fun q => q = p, true⟩ (fun cn sd => ∃ es', sget sd 0 = .ins c es' ∧ Ed cn es') hr (takes_cxD fun cls d σ H' hw => ?_), F0, _, endO c Qd, R0, ⟨fun F1 H1 σ sd _ R q => ?_, fun F1 H1 σ sd v r _ R rv own q => ?_, fun _ _ _ _ _ _ z => z.elim, fun _ _ _ _ _ _ z => z.elim⟩, rd es ds Qd Ed hs⟩
    · obtain ⟨cn, a, F1, sd, hc, rfl, rfl, R, es', h0, q⟩ := hw
      exact he cn a H' F1 es' hc (post R h0) q
    · obtain ⟨es', h0, q⟩ := q
      exact hq .non H1 F1 (.va .none) es' (post R h0) .non q
    · obtain ⟨es', h0, q⟩ := q
      refine hq v H1 F1 r es' (post R h0) ?_ q
      cases r with
      | no => trivial
      | va d => obtain ⟨v', e1, q⟩ := rv; cases e1; exact q
      | own ds' => obtain ⟨p, vs', e1, h1, h2, h3, h4⟩ := rv; cases e1; exact ⟨p, vs', rfl, h1, h2, own rfl p rfl, h4⟩
      | scr ns => obtain ⟨p, e1, h1⟩ := rv; cases e1; exact ⟨p, rfl, h1⟩
      | exc a => exact Option.some.inj rv
      | ins c es => obtain ⟨p, Cc, dx, fs, e1, h1, h2, h3, oc, h4⟩ := rv; cases e1; exact ⟨p, Cc, dx, fs, rfl, h1, h2, own rfl p rfl, oc, h4⟩
      | well n => obtain ⟨p, a, b, c, e1, h1, h2, h3, h4⟩ := rv; cases e1; exact ⟨p, a, b, c, rfl, h1, h2, own rfl p rfl, h4⟩
end
structure CalI (P : Program) (w : World) (K : PySem.W.Frag) (mg : Str → Option Value) (base : Heap) (CN : String → Option Addr) (k : Nat) (c : Str) (spec : OSpec) : Prop where
  ex : ∃ f fd ps Cc, FnG P w K mg base k f fd ps (spO K CN c spec) ∧ mg c = some (.ref Cc) ∧ ObjC K c Cc ∧ Mk K Cc f ∧ Binds K fd ps []
def mMake (c : Str) (spec : OSpec) (W : WD) (ma : MA) : ME := fun sd Q => ma sd fun ds s1 => spec [] ds (fun r es => r = .va .none ∧ Q (objD c es) s1) (fun cn _ => W cn s1)
section
variable {X : Cx} {C : Ct} {CN : String → Option Addr}
theorem Rs.freezeI {K : PySem.W.Frag} {F H : Hp} {σ : L2.St} {sd : DSt} {p Cc dx : Addr} {c : Str} {fs : List (Str × V)} {es : List PyData} (R : Rs K C F H σ sd) (h : H p = some (.ins Cc dx fs)) (hF : F p = none) (h0 : C.H0 p = none) (ho : ¬ Owned σ sd p) (oc : ObjC K c Cc) (r : RpF K F fs es) :
    Rs K C (upd F p (.ins Cc dx fs)) H σ sd ∧ Rp K (upd F p (.ins Cc dx fs)) (.ref p) (objD c es) := by
  have sF : Same F (upd F p (.ins Cc dx fs)) := same_new hF
  refine ⟨⟨R.len, R.grow.trans sF, fun a x e => ?_, fun a x e => ?_, R.keep, R.still, fun i => ?_, R.sep⟩, .ins upd_same oc (r.mono sF)⟩
  · by_cases z : a = p
    · subst z; rw [upd_same] at e; cases e; exact h
    · rw [upd_ne z] at e; exact R.ext a x e
  · by_cases z : a = p
    · subst z; exact .inr h0
    · rw [upd_ne z] at e; exact R.new a x e
  · refine (R.slot i).grow sF fun q x o e eh en => ⟨eh, ?_⟩
    have : q ≠ p := fun z => by subst z; exact ho ⟨i, o, e⟩
    rw [upd_ne this]; exact en
theorem td_make {K : PySem.W.Frag} {c : Str} {spec : OSpec} {W : WD} {ma : MA} {Cc : Addr} (oc : ObjC K c Cc) : ∀ σ H Q, tD K C (mMake c spec W ma) σ H Q → tMakeG Cc (spO K CN c spec) (WE (wD K C CN W)) (tDA K C ma) σ H Q := by
  rintro σ H Q ⟨F, sd, Qd, R, h, k⟩
  refine ⟨F, sd, _, R, h, fun vs H1 F1 ds sd1 R1 S1 rs h1 => fun x dx hx hdx hne => ?_⟩
  have sm : Same H1 (upd (upd H1 dx (.own x)) x (.ins Cc dx [])) := fun a o e => by
    rw [upd_ne (ne_of_none e hx), upd_ne (ne_of_none e hdx)]; exact e
  have po : ∀ {H' F' : Hp} {es' : List PyData}, PostO K c x F1 (upd (upd H1 dx (.own x)) x (.ins Cc dx [])) F' H' es' → Post K F1 H1 F' H' := fun {H' F' es'} P =>
    ⟨P.fr, P.ext, fun a o e => P.kp a o (ne_of_none e hx) (sm a o e), fun a o e => by
      rcases P.nw a o e with z | z
      · exact .inl z
      · refine .inr ?_
        cases hh : H1 a with
        | none => rfl
        | some o' => rw [sm a o' hh] at z; cases z⟩
  refine ⟨F1, x, vs, Cc, dx, [], [], ds, _, _, rfl, fun a o e => sm a o (R1.ext a o e), R1.free hx, upd_same, oc, .nil, rs, h1, fun v H' F' r es' P ro q => ?_, fun cn a H' F' es' hc P q => ?_⟩
  · obtain ⟨rfl, q⟩ := q
    obtain ⟨Cc', dx', fs', e1, e2, oc', rf⟩ := P.ob
    obtain ⟨R2, S2⟩ := R1.post (po P)
    cases ro
    refine ⟨rfl, ?_⟩
    obtain ⟨R3, rp⟩ := R2.freezeI e1 e2 (R1.still x hx) (fun z => (R1.fresh hx).1 z) oc' rf
    exact k (.ref x) H' _ _ sd1 R3 ((S1.trans S2).freezeD e2 (S1.st x hx)) rp q
  · exact ⟨cn, a, F', sd1, hc, rfl, rfl, (R1.post (po P)).1, q⟩
theorem pd_make {c : Str} {spec : OSpec} {W : WD} {ma : MA} {p pos : Pos} {e : Expr} {es : List Expr} {k j : Nat} (cl : CalI X.prog X.w X.K X.mg X.base CN k c spec) (hr : RoomG j X.A) (hk : k + 1 ≤ j) (tk : Takes X (wD X.K C CN W)) (ha : PA X (e :: es) (tDA X.K C ma)) (hg : Gl X c := by rfl)
    (hdb : (c == ("__debug__" : Str)) = false := by decide) (he : starEach (e :: es) X.env = (false, eval e X.env) :: starEach es X.env := by rfl) (hpl : (backTo pos (starEach es X.env)).any (·.1) = false := by rfl) :
    PE X (.Call (.Name c p) (e :: es) [] pos) (tD X.K C (mMake c spec W ma)) := by
  obtain ⟨f, fd, ps, Cc, F, hm, oc, M, hb⟩ := cl.ex
  exact pe_imp (pe_makeG M F (hr.mono hk) hg hm hb (passAt tk) ha hdb he hpl) (td_make oc)
end
structure CalM (P : Program) (w : World) (K : PySem.W.Frag) (mg : Str → Option Value) (base : Heap) (CN : String → Option Addr) (k : Nat) (c dn : Str) (spec : PSpec) : Prop where
  ex : ∃ f fd ps Cc, FnG P w K mg base k f fd ps (spP K CN spec) ∧ ObjC K c Cc ∧ PySem.W.findIn K (.ref Cc) dn = some (some (.ref f)) ∧ PySem.W.isFn K (.ref f) = true ∧ Binds K fd ps []
/-- a in b, b an instance of the class c -/
def mInM (c : Str) (spec : PSpec) (ma mb : ME) : ME := fun sd Q => ma sd fun a s1 => mb s1 fun b s2 => (∃ es, b = objD c es) ∧ spec [b, a] (fun r => ∃ t, r = .va (.bool t) ∧ Q (.bool t) s2) fun _ => False
section
variable {X : Cx} {C : Ct} {CN : String → Option Addr} {k : Nat} {f Cc : Addr} {fd : FuncData} {ps : List Str} {sp : Sp}
/-- x in y by the def of y's class -/
def rInO (C : Addr) (sp : Sp) : R2 := fun x y H Q => ∃ b dy gs, y = .ref b ∧ H b = some (.ins C dy gs) ∧ sp [y, x] H (fun v H2 => ∃ t, v = .bl t ∧ Q (.bl t) H2) fun _ _ _ => False
theorem op_inO (hf : PySem.W.findIn X.K (.ref Cc) "__contains__" = some (some (.ref f))) (hfn : PySem.W.isFn X.K (.ref f) = true) (F : FnG X.prog X.w X.K X.mg X.base k f fd ps sp) (hb : Binds X.K fd ps []) (hr : RoomG k X.A) : OpR X (compareOp .In) (rInO Cc sp) := by
  intro pins s σ H x y v u Q I rx ry h
  obtain ⟨b, dy, gs, rfl, h1, q⟩ := h
  cases (show u = Value.ref b from ry)
  obtain ⟨m, fr⟩ := I.fr
  obtain ⟨ox, od, J⟩ := ins_inst I.hok h1
  refine PySem.W.in_K fr I.ok.mod.kin J hf hfn ?_
  refine wpAny_mono (wp_callG (E := fun _ _ _ _ => False) F hr hb (fun pins H s e s' _ z => ?_) I (vs := [V.ref b, x]) (.cons (show L2.RelV (V.ref b) (.ref b) from rfl) (.cons rx .nil)) q) (fun v s' hq => ?_) fun _ _ z => z
  · obtain ⟨_, _, _, _, _, _, _, _, _, _, _, _, z⟩ := z
    exact z.elim
  · obtain ⟨z, H2, I2, rz, t, rfl, hq⟩ := hq
    cases (show v = Value.bool t from rz)
    exact wpAny_truthy_bool ⟨.bl t, H2, I2, rfl, hq⟩
theorem pd_inM {c : Str} {spec : PSpec} {ma mb : ME} {a b : Expr} {pos : Pos} {j : Nat} (cl : CalM X.prog X.w X.K X.mg X.base CN k c "__contains__" spec) (hr : RoomG j X.A) (hk : k ≤ j) (ha : PE X a (tD X.K C ma)) (hb : PE X b (tD X.K C mb)) (hm : behindInMarks .In b = false) :
    PE X (.Compare a [.In] [b] pos) (tD X.K C (mInM c spec ma mb)) := by
  obtain ⟨f, fd, ps, Cc, F, oc, hf, hfn, hbi⟩ := cl.ex
  refine pe_imp (pe_cmpR (op_inO hf hfn F hbi (hr.mono hk)) ha hb hm) ?_
  rintro σ H Q ⟨F0, sd, Qd, R, h, kk⟩
  refine ⟨F0, sd, _, R, h, fun x H1 F1 d sd1 R1 S1 rx h1 => ⟨F1, sd1, _, R1, h1, fun y H2 F2 e sd2 R2 S2 ry h2 => ?_⟩⟩
  obtain ⟨⟨es2, rfl⟩, hs⟩ := h2
  have rx := rx.mono S2.fr
  obtain ⟨a2, C2, d2, f2, rfl, h2, o2, r2⟩ := rp_obj ry
  cases o2.uniq oc
  refine ⟨a2, d2, f2, rfl, R2.ext _ _ h2, F2, _, _, _, R2.ext, .cons ry (.cons rx .nil), hs, fun v H' F' r P ro q => ?_, fun _ _ _ _ _ _ z => z⟩
  obtain ⟨t, rfl, q⟩ := q
  obtain ⟨R3, S3⟩ := R2.post P
  cases ro
  exact ⟨t, rfl, kk (.bl t) H' F' _ sd2 R3 ((S1.trans S2).trans S3) (.bl t) q⟩
end
end DL
namespace LW
open PySem PySem.Spec PyProof.Rows L2 DL
def topS (i : Nat) : Stmt := PySem.Challenge.pw_cushionshots_k69_whole_spots_boxes_and_h.main.body.getD i (.Pass ⟨0, 0, 0, 0⟩)
def inS : Stmt → Nat → Stmt
  | .ClassDef _ _ _ b _ _ _ _ _ _ _, j => b.getD j (.Pass ⟨0, 0, 0, 0⟩)
  | s, _ => s
abbrev s_is_whole : Stmt := topS 14
theorem sc_is_whole : FnScope ["value"] ["value"] (defScope s_is_whole) := ⟨rfl, rfl, rfl, by decide +kernel, rfl, by decide +kernel, by decide +kernel⟩
abbrev s_are_whole : Stmt := topS 15
theorem sc_are_whole : FnScope ["value", "many", "item"] ["value", "many"] (defScope s_are_whole) := ⟨rfl, rfl, rfl, by decide +kernel, rfl, by decide +kernel, by decide +kernel⟩
abbrev s_fraction_of : Stmt := topS 16
theorem sc_fraction_of : FnScope ["top", "bottom", "common"] ["top", "bottom"] (defScope s_fraction_of) := ⟨rfl, rfl, rfl, by decide +kernel, rfl, by decide +kernel, by decide +kernel⟩
abbrev s_earliest : Stmt := topS 17
theorem sc_earliest : FnScope ["times", "best", "time"] ["times"] (defScope s_earliest) := ⟨rfl, rfl, rfl, by decide +kernel, rfl, by decide +kernel, by decide +kernel⟩
abbrev s__line_of : Stmt := topS 19
theorem sc__line_of : FnScope ["side", "start", "speed"] ["side", "start", "speed"] (defScope s__line_of) := ⟨rfl, rfl, rfl, by decide +kernel, rfl, by decide +kernel, by decide +kernel⟩
abbrev s_lines_of : Stmt := topS 18
theorem sc_lines_of : FnScope ["table", "shot", "width", "height", "x", "y", "p", "q"] ["table", "shot"] (defScope s_lines_of) := ⟨rfl, rfl, rfl, by decide +kernel, rfl, by decide +kernel, by decide +kernel⟩
abbrev s_mark_from : Stmt := topS 20
theorem sc_mark_from : FnScope ["number", "rest", "step"] ["number", "rest", "step"] (defScope s_mark_from) := ⟨rfl, rfl, rfl, by decide +kernel, rfl, by decide +kernel, by decide +kernel⟩
abbrev s_mark_time : Stmt := topS 21
theorem sc_mark_time : FnScope ["line", "mark", "_", "start", "speed"] ["line", "mark"] (defScope s_mark_time) := ⟨rfl, rfl, rfl, by decide +kernel, rfl, by decide +kernel, by decide +kernel⟩
abbrev s_marks_passed : Stmt := topS 22
theorem sc_marks_passed : FnScope ["line", "first", "step", "time", "_", "start", "speed", "top", "bottom", "reached"] ["line", "first", "step", "time"] (defScope s_marks_passed) := ⟨rfl, rfl, rfl, by decide +kernel, rfl, by decide +kernel, by decide +kernel⟩
abbrev s_other_at_marks : Stmt := topS 23
theorem sc_other_at_marks : FnScope ["line", "first", "step", "other", "_", "start", "speed", "other_start", "other_speed"] ["line", "first", "step", "other"] (defScope s_other_at_marks) := ⟨rfl, rfl, rfl, by decide +kernel, rfl, by decide +kernel, by decide +kernel⟩
abbrev s_spans : Stmt := topS 24
theorem sc_spans : FnScope ["low", "high", "side"] ["low", "high", "side"] (defScope s_spans) := ⟨rfl, rfl, rfl, by decide +kernel, rfl, by decide +kernel, by decide +kernel⟩
abbrev s__first_out : Stmt := topS 27
theorem sc__first_out : FnScope ["lower", "upper", "grow", "begin", "bottom", "top_grow", "top_begin", "found"] ["lower", "upper"] (defScope s__first_out) := ⟨rfl, rfl, rfl, by decide +kernel, rfl, by decide +kernel, by decide +kernel⟩
abbrev s_first_between : Stmt := topS 26
theorem sc_first_between : FnScope ["lower", "upper", "exchanged", "grow", "begin", "bottom", "top_grow", "top_begin", "top_bottom", "least", "many", "rise"] ["lower", "upper"] (defScope s_first_between) := ⟨rfl, rfl, rfl, by decide +kernel, rfl, by decide +kernel, by decide +kernel⟩
abbrev s_first_within : Stmt := topS 25
theorem sc_first_within : FnScope ["grow", "begin", "circle", "low", "high"] ["grow", "begin", "circle", "low", "high"] (defScope s_first_within) := ⟨rfl, rfl, rfl, by decide +kernel, rfl, by decide +kernel, by decide +kernel⟩
abbrev s_is_table : Stmt := topS 29
theorem sc_is_table : FnScope ["value"] ["value"] (defScope s_is_table) := ⟨rfl, rfl, rfl, by decide +kernel, rfl, by decide +kernel, by decide +kernel⟩
abbrev s_check_table : Stmt := topS 38
theorem sc_check_table : FnScope ["table"] ["table"] (defScope s_check_table) := ⟨rfl, rfl, rfl, by decide +kernel, rfl, by decide +kernel, by decide +kernel⟩
abbrev s_is_any_shot : Stmt := topS 37
theorem sc_is_any_shot : FnScope ["value"] ["value"] (defScope s_is_any_shot) := ⟨rfl, rfl, rfl, by decide +kernel, rfl, by decide +kernel, by decide +kernel⟩
abbrev s_is_shot : Stmt := topS 30
theorem sc_is_shot : FnScope ["table", "value"] ["table", "value"] (defScope s_is_shot) := ⟨rfl, rfl, rfl, by decide +kernel, rfl, by decide +kernel, by decide +kernel⟩
abbrev s_is_fraction : Stmt := topS 31
theorem sc_is_fraction : FnScope ["value"] ["value"] (defScope s_is_fraction) := ⟨rfl, rfl, rfl, by decide +kernel, rfl, by decide +kernel, by decide +kernel⟩
abbrev s_check_shot : Stmt := topS 39
theorem sc_check_shot : FnScope ["table", "shot"] ["table", "shot"] (defScope s_check_shot) := ⟨rfl, rfl, rfl, by decide +kernel, rfl, by decide +kernel, by decide +kernel⟩
abbrev s_check_time : Stmt := topS 40
theorem sc_check_time : FnScope ["time"] ["time"] (defScope s_check_time) := ⟨rfl, rfl, rfl, by decide +kernel, rfl, by decide +kernel, by decide +kernel⟩
abbrev s__check_all : Stmt := topS 41
theorem sc__check_all : FnScope ["table", "shot", "time"] ["table", "shot", "time"] (defScope s__check_all) := ⟨rfl, rfl, rfl, by decide +kernel, rfl, by decide +kernel, by decide +kernel⟩
abbrev s__fold : Stmt := topS 42
theorem sc__fold : FnScope ["side", "number", "top", "bottom", "rest"] ["side", "number"] (defScope s__fold) := ⟨rfl, rfl, rfl, by decide +kernel, rfl, by decide +kernel, by decide +kernel⟩
abbrev s__place : Stmt := topS 43
theorem sc__place : FnScope ["table", "shot", "time", "top", "bottom", "side", "start", "speed"] ["table", "shot", "time"] (defScope s__place) := ⟨rfl, rfl, rfl, by decide +kernel, rfl, by decide +kernel, by decide +kernel⟩
abbrev s_place_at : Stmt := topS 32
theorem sc_place_at : FnScope ["table", "shot", "time"] ["table", "shot", "time"] (defScope s_place_at) := ⟨rfl, rfl, rfl, by decide +kernel, rfl, by decide +kernel, by decide +kernel⟩
abbrev s__line_way : Stmt := topS 45
theorem sc__line_way : FnScope ["line", "time", "side", "start", "speed", "top", "bottom", "part"] ["line", "time"] (defScope s__line_way) := ⟨rfl, rfl, rfl, by decide +kernel, rfl, by decide +kernel, by decide +kernel⟩
abbrev s__way : Stmt := topS 44
theorem sc__way : FnScope ["table", "shot", "time", "line"] ["table", "shot", "time"] (defScope s__way) := ⟨rfl, rfl, rfl, by decide +kernel, rfl, by decide +kernel, by decide +kernel⟩
abbrev s_shot_at : Stmt := topS 33
theorem sc_shot_at : FnScope ["table", "shot", "time", "x", "x_bottom", "y", "y_bottom", "p", "q"] ["table", "shot", "time"] (defScope s_shot_at) := ⟨rfl, rfl, rfl, by decide +kernel, rfl, by decide +kernel, by decide +kernel⟩
abbrev s_turned : Stmt := topS 34
theorem sc_turned : FnScope ["shot", "x", "y", "p", "q"] ["shot"] (defScope s_turned) := ⟨rfl, rfl, rfl, by decide +kernel, rfl, by decide +kernel, by decide +kernel⟩
abbrev s_scaled : Stmt := topS 35
theorem sc_scaled : FnScope ["table", "shot", "many", "width", "height", "x", "y", "p", "q"] ["table", "shot", "many"] (defScope s_scaled) := ⟨rfl, rfl, rfl, by decide +kernel, rfl, by decide +kernel, by decide +kernel⟩
abbrev s_crossed : Stmt := topS 36
theorem sc_crossed : FnScope ["table", "shot", "width", "height", "x", "y", "p", "q"] ["table", "shot"] (defScope s_crossed) := ⟨rfl, rfl, rfl, by decide +kernel, rfl, by decide +kernel, by decide +kernel⟩
abbrev s__count : Stmt := topS 55
theorem sc__count : FnScope ["marks", "time", "passed", "line", "first", "step"] ["marks", "time"] (defScope s__count) := ⟨rfl, rfl, rfl, by decide +kernel, rfl, by decide +kernel, by decide +kernel⟩
abbrev s_side_marks : Stmt := topS 52
theorem sc_side_marks : FnScope ["line", "side", "start", "_"] ["line"] (defScope s_side_marks) := ⟨rfl, rfl, rfl, by decide +kernel, rfl, by decide +kernel, by decide +kernel⟩
abbrev s_corner_marks : Stmt := topS 53
theorem sc_corner_marks : FnScope ["lines", "line", "other", "_", "first", "step", "grow", "begin", "circle", "index"] ["lines"] (defScope s_corner_marks) := ⟨rfl, rfl, rfl, by decide +kernel, rfl, by decide +kernel, by decide +kernel⟩
abbrev s__hit_marks : Stmt := topS 54
theorem sc__hit_marks : FnScope ["lines", "line"] ["lines"] (defScope s__hit_marks) := ⟨rfl, rfl, rfl, by decide +kernel, rfl, by decide +kernel, by decide +kernel⟩
abbrev s_count_hits : Stmt := topS 48
theorem sc_count_hits : FnScope ["table", "shot", "time"] ["table", "shot", "time"] (defScope s_count_hits) := ⟨rfl, rfl, rfl, by decide +kernel, rfl, by decide +kernel, by decide +kernel⟩
abbrev s__time_of_count : Stmt := topS 56
theorem sc__time_of_count : FnScope ["marks", "line", "many", "_", "first", "step", "low", "high", "middle"] ["marks", "line", "many"] (defScope s__time_of_count) := ⟨rfl, rfl, rfl, by decide +kernel, rfl, by decide +kernel, by decide +kernel⟩
abbrev s__word : Stmt := topS 57
theorem sc__word : FnScope ["lines", "time", "top", "bottom", "word", "at", "side", "start", "speed", "number"] ["lines", "time"] (defScope s__word) := ⟨rfl, rfl, rfl, by decide +kernel, rfl, by decide +kernel, by decide +kernel⟩
abbrev s_nth_hit : Stmt := topS 49
theorem sc_nth_hit : FnScope ["table", "shot", "index", "lines", "marks", "time", "line"] ["table", "shot", "index"] (defScope s_nth_hit) := ⟨rfl, rfl, rfl, by decide +kernel, rfl, by decide +kernel, by decide +kernel⟩
abbrev s_is_cushion : Stmt := topS 50
theorem sc_is_cushion : FnScope ["value"] ["value"] (defScope s_is_cushion) := ⟨rfl, rfl, rfl, by decide +kernel, rfl, by decide +kernel, by decide +kernel⟩
abbrev s_cushion_marks : Stmt := topS 51
theorem sc_cushion_marks : FnScope ["lines", "cushion", "at", "line", "side", "start", "_"] ["lines", "cushion"] (defScope s_cushion_marks) := ⟨rfl, rfl, rfl, by decide +kernel, rfl, by decide +kernel, by decide +kernel⟩
abbrev s__question : Stmt := topS 69
theorem sc__question : FnScope ["line", "first", "other", "low", "high", "side", "_", "speed", "grow", "begin", "circle", "least", "most"] ["line", "first", "other", "low", "high"] (defScope s__question) := ⟨rfl, rfl, rfl, by decide +kernel, rfl, by decide +kernel, by decide +kernel⟩
abbrev s__first_time : Stmt := topS 68
theorem sc__first_time : FnScope ["line", "first", "other", "low", "high", "grow", "begin", "circle", "ranges", "found", "indexes", "least", "greatest", "index"] ["line", "first", "other", "low", "high"] (defScope s__first_time) := ⟨rfl, rfl, rfl, by decide +kernel, rfl, by decide +kernel, by decide +kernel⟩
abbrev s__entry_times : Stmt := topS 66
theorem sc__entry_times : FnScope ["line", "least", "greatest", "other", "low", "high", "side", "start", "_", "marks", "begin", "mark"] ["line", "least", "greatest", "other", "low", "high"] (defScope s__entry_times) := ⟨rfl, rfl, rfl, by decide +kernel, rfl, by decide +kernel, by decide +kernel⟩
abbrev s__first_inside : Stmt := topS 65
theorem sc__first_inside : FnScope ["table", "shot", "box", "x", "y", "_", "left", "right", "low", "high", "across", "along"] ["table", "shot", "box"] (defScope s__first_inside) := ⟨rfl, rfl, rfl, by decide +kernel, rfl, by decide +kernel, by decide +kernel⟩
abbrev s_is_spot : Stmt := topS 62
theorem sc_is_spot : FnScope ["table", "value"] ["table", "value"] (defScope s_is_spot) := ⟨rfl, rfl, rfl, by decide +kernel, rfl, by decide +kernel, by decide +kernel⟩
abbrev s_first_at : Stmt := topS 59
theorem sc_first_at : FnScope ["table", "shot", "spot", "x", "y"] ["table", "shot", "spot"] (defScope s_first_at) := ⟨rfl, rfl, rfl, by decide +kernel, rfl, by decide +kernel, by decide +kernel⟩
abbrev s__is_box : Stmt := topS 64
theorem sc__is_box : FnScope ["table", "value", "left", "right", "low", "high"] ["table", "value"] (defScope s__is_box) := ⟨rfl, rfl, rfl, by decide +kernel, rfl, by decide +kernel, by decide +kernel⟩
abbrev s_first_in_box : Stmt := topS 60
theorem sc_first_in_box : FnScope ["table", "shot", "box"] ["table", "shot", "box"] (defScope s_first_in_box) := ⟨rfl, rfl, rfl, by decide +kernel, rfl, by decide +kernel, by decide +kernel⟩
abbrev s__stretch_time : Stmt := topS 67
theorem sc__stretch_time : FnScope ["lines", "stretch", "cushion", "low", "high", "line", "first", "other"] ["lines", "stretch"] (defScope s__stretch_time) := ⟨rfl, rfl, rfl, by decide +kernel, rfl, by decide +kernel, by decide +kernel⟩
abbrev s_is_stretch : Stmt := topS 63
theorem sc_is_stretch : FnScope ["table", "value", "cushion", "low", "high", "width", "height"] ["table", "value"] (defScope s_is_stretch) := ⟨rfl, rfl, rfl, by decide +kernel, rfl, by decide +kernel, by decide +kernel⟩
abbrev s_first_in_stretch : Stmt := topS 61
theorem sc_first_in_stretch : FnScope ["table", "shot", "stretch", "time"] ["table", "shot", "stretch"] (defScope s_first_in_stretch) := ⟨rfl, rfl, rfl, by decide +kernel, rfl, by decide +kernel, by decide +kernel⟩
abbrev s_corner_hit : Stmt := topS 80
theorem sc_corner_hit : FnScope ["table", "shot", "marks", "line", "first", "_"] ["table", "shot"] (defScope s_corner_hit) := ⟨rfl, rfl, rfl, by decide +kernel, rfl, by decide +kernel, by decide +kernel⟩
abbrev s__law_well : Stmt := topS 82
theorem sc__law_well : FnScope ["script", "at", "cell"] ["script", "at"] (defScope s__law_well) := ⟨rfl, rfl, rfl, by decide +kernel, rfl, by decide +kernel, by decide +kernel⟩
abbrev s__law_draw : Stmt := topS 83
theorem sc__law_draw : FnScope ["well", "most", "digit", "blend"] ["well", "most"] (defScope s__law_draw) := ⟨rfl, rfl, rfl, by decide +kernel, rfl, by decide +kernel, by decide +kernel⟩
abbrev s__law_desk : Stmt := topS 84
theorem sc__law_desk : FnScope ["well", "most", "wide", "tall"] ["well", "most"] (defScope s__law_desk) := ⟨rfl, rfl, rfl, by decide +kernel, rfl, by decide +kernel, by decide +kernel⟩
abbrev s__law_roll : Stmt := topS 85
theorem sc__law_roll : FnScope ["well", "desk", "most", "x", "y", "p", "q"] ["well", "desk", "most"] (defScope s__law_roll) := ⟨rfl, rfl, rfl, by decide +kernel, rfl, by decide +kernel, by decide +kernel⟩
abbrev s__law_low : Stmt := topS 86
theorem sc__law_low : FnScope ["top", "bottom", "a", "b"] ["top", "bottom"] (defScope s__law_low) := ⟨rfl, rfl, rfl, by decide +kernel, rfl, by decide +kernel, by decide +kernel⟩
abbrev s__law_edges : Stmt := topS 87
theorem sc__law_edges : FnScope ["well", "desk", "found", "edge", "low", "wide"] ["well", "desk"] (defScope s__law_edges) := ⟨rfl, rfl, rfl, by decide +kernel, rfl, by decide +kernel, by decide +kernel⟩
abbrev s__law_within : Stmt := topS 88
theorem sc__law_within : FnScope ["place", "room", "mark", "low", "high"] ["place", "room"] (defScope s__law_within) := ⟨rfl, rfl, rfl, by decide +kernel, rfl, by decide +kernel, by decide +kernel⟩
abbrev s__law_less : Stmt := topS 89
theorem sc__law_less : FnScope ["one", "two"] ["one", "two"] (defScope s__law_less) := ⟨rfl, rfl, rfl, by decide +kernel, rfl, by decide +kernel, by decide +kernel⟩
abbrev s_Ball_contains : Stmt := inS (topS 78) 7
theorem sc_Ball_contains : FnScope ["self", "x"] ["self", "x"] (defScope s_Ball_contains) := ⟨rfl, rfl, rfl, by decide +kernel, rfl, by decide +kernel, by decide +kernel⟩
abbrev s_Ball_init : Stmt := inS (topS 78) 0
theorem sc_Ball_init : FnScope ["self", "table", "shot"] ["self", "table", "shot"] (defScope s_Ball_init) := ⟨rfl, rfl, rfl, by decide +kernel, rfl, by decide +kernel, by decide +kernel⟩
abbrev s__law_spot_right : Stmt := topS 90
theorem sc__law_spot_right : FnScope ["well", "desk", "put", "ticks", "mate", "goal", "found"] ["well", "desk", "put"] (defScope s__law_spot_right) := ⟨rfl, rfl, rfl, by decide +kernel, rfl, by decide +kernel, by decide +kernel⟩
abbrev s__law_box_right : Stmt := topS 91
theorem sc__law_box_right : FnScope ["well", "desk", "put", "room", "ticks", "found", "inner", "k", "low", "later", "other_desk", "other_put", "large", "far", "mark"] ["well", "desk", "put"] (defScope s__law_box_right) := ⟨rfl, rfl, rfl, by decide +kernel, rfl, by decide +kernel, by decide +kernel⟩
abbrev s__law_strips_right : Stmt := topS 92
theorem sc__law_strips_right : FnScope ["well", "desk", "put", "wide", "tall", "lows", "highs", "edge", "letter", "axis", "at", "room", "is_in", "found", "due", "corners_here", "times", "first", "goal", "one"] ["well", "desk", "put"] (defScope s__law_strips_right) := ⟨rfl, rfl, rfl, by decide +kernel, rfl, by decide +kernel, by decide +kernel⟩
abbrev s_law : Stmt := topS 93
theorem sc_law : FnScope ["script", "at", "well", "size", "most", "desk", "put"] ["script"] (defScope s_law) := ⟨rfl, rfl, rfl, by decide +kernel, rfl, by decide +kernel, by decide +kernel⟩
structure G (K : PySem.W.Frag) (mg : Str → Option Value) (CN : String → Option Addr) : Prop where
  b_abs : mg "abs" = none
  b_all : mg "all" = none
  b_bool : mg "bool" = none
  b_enumerate : mg "enumerate" = none
  b_gcd : mg "gcd" = some (.builtin "math.gcd")
  b_int : mg "int" = none
  b_isinstance : mg "isinstance" = none
  b_len : mg "len" = none
  b_max : mg "max" = none
  b_min : mg "min" = none
  b_range : mg "range" = none
  b_reversed : mg "reversed" = none
  b_str : mg "str" = none
  b_sum : mg "sum" = none
  b_tuple : mg "tuple" = none
  gl_CUSHIONS : ∃ a, mg "CUSHIONS" = some (.ref a) ∧ cstOk K 4 (.ref a) (.tuple [(.str "W"), (.str "E"), (.str "S"), (.str "N")]) = true
  x_InvalidBox : ∃ c, CN "InvalidBox" = some c ∧ ExcCls K mg "InvalidBox" c
  x_InvalidIndex : ∃ c, CN "InvalidIndex" = some c ∧ ExcCls K mg "InvalidIndex" c
  x_InvalidNumber : ∃ c, CN "InvalidNumber" = some c ∧ ExcCls K mg "InvalidNumber" c
  x_InvalidShot : ∃ c, CN "InvalidShot" = some c ∧ ExcCls K mg "InvalidShot" c
  x_InvalidSpot : ∃ c, CN "InvalidSpot" = some c ∧ ExcCls K mg "InvalidSpot" c
  x_InvalidStretch : ∃ c, CN "InvalidStretch" = some c ∧ ExcCls K mg "InvalidStretch" c
  x_InvalidTable : ∃ c, CN "InvalidTable" = some c ∧ ExcCls K mg "InvalidTable" c
  x_InvalidTime : ∃ c, CN "InvalidTime" = some c ∧ ExcCls K mg "InvalidTime" c
  sf_Ball : ∀ Cc, ObjC K "Ball" Cc → PySem.W.selfFirst K Cc = true
  na_Ball__shot : ∀ Cc, ObjC K "Ball" Cc → NoAttr K Cc "_shot"
  na_Ball__table : ∀ Cc, ObjC K "Ball" Cc → NoAttr K Cc "_table"
section
variable {P : Program} {w : World} {K : PySem.W.Frag} {mg : Str → Option Value} {base : Heap} {CN : String → Option Addr}
theorem ok_draw {f : Addr} {fd : FuncData} (F : Fun K "_law_draw" "_law_draw" s__law_draw f fd) (mi : mg "int" = none) : FnG P w K mg base 1 f fd ["well", "most"] (spW K dDraw) := by
  refine fun_okG F sc__law_draw (fun vs H Q E h => ?_) (fun cdv A outer s H vs Q E hr h => ⟨_, pss_cons (ps_if (pt_cmpR op_gt (pe_ix ix_list (pv 0) pe_int (fun _ _ => rfl)) pe_int (nomark _))
        (pss_cons (ps_set (i := 2) sc__law_draw.nd rfl (.inl rfl) (pe_op op_mod (pe_callTy cr_int (by rfl) mi (by decide +kernel) (pa_cons (pe_ix ix_list (pv 0) pe_int (fun _ _ => rfl)) pa_nil)) (pv 1)))
        (pss_cons (ps_asg (pe_op op_fdivW (pe_ix ix_list (pv 0) pe_int (fun _ _ => rfl)) (pv 1)) (pg_sub (pv 0) pe_int set_list))
        (pss_one (ps_ret (pv 2))))) pss_nil)
      (pss_cons (ps_asg (pe_op op_add (pe_ix ix_list (pv 0) pe_int (fun _ _ => rfl)) pe_int) (pg_sub (pv 0) pe_int set_list))
      (pss_cons (ps_set (i := 3) sc__law_draw.nd rfl (.inl rfl) (pe_op op_mod (pe_op op_powW (pe_callTy cr_int (by rfl) mi (by decide +kernel) (pa_cons (pe_op op_add (pe_ix ix_list (pv 0) pe_int (fun _ _ => rfl)) (pe_op op_mulW pe_int (pe_ix ix_list (pv 0) pe_int (fun _ _ => rfl)))) pa_nil)) pe_int) (pe_op op_add (pe_op op_powW pe_int pe_int) pe_int)))
      (pss_cons (ps_set (i := 3) sc__law_draw.nd rfl (.inl rfl) (pe_op op_mod (pe_op op_powW (pe_callTy cr_int (by rfl) mi (by decide +kernel) (pa_cons (pe_op op_add (pv 3) (pe_op op_mulW pe_int (pe_ix ix_list (pv 0) pe_int (fun _ _ => rfl)))) pa_nil)) pe_int) (pe_op op_add (pe_op op_powW pe_int pe_int) pe_int)))
      (pss_one (ps_ret (pe_op op_mod (pe_callTy cr_int (by rfl) mi (by decide +kernel) (pa_cons (pe_op op_fdivW (pv 3) pe_int) pa_nil)) (pv 1))))))), ?_⟩)
  · obtain ⟨F0, p, ws, n, a, b, c, ds, Qd, rfl, _, _, _, _, r, ⟨m, rfl, _⟩, _⟩ := h
    obtain ⟨x, rfl, _⟩ := rpA1 r
    rfl
  · obtain ⟨F0, p, ws, n, a, b, c, ds, Qd, rfl, e, hF, hp, hw, r, ⟨m, rfl, h1, h2, h3, h4⟩, hq⟩ := h
    obtain ⟨x, rfl, rx⟩ := rpA1 r
    cases rx
    have ne : ∀ q o, F0 q = some o → q ≠ p := fun q o z y => by subst y; rw [hF] at z; cases z
    have fin : ∀ (a' b' c' r : Int), WellOk (n - 1) a' b' c' → 0 ≤ r → r < m → ∀ H', (∀ q, q ≠ p → H' q = H q) → H' p = some (.lst [.int a', .int b', .int c']) → Q (.int r) H' := fun a' b' c' r ok r0 r1 H' hn hs =>
      hq (.int r) H' F0 (.va (.int r)) (n - 1) ⟨Same.refl _, fun q o z => (hn q (ne q o z)).trans (e q o z), fun q o z y => (hn q z).trans y, fun q o z => .inl z, a', b', c', hs, ok⟩ (.int r) (h4 r r0 r1)
    have hL : SqL K H p [.int a, .int b, .int c] := .inl (.inl hp)
    refine ⟨.ref p, rfl, p, _, 0, .int a, rfl, rfl, hL, rfl, a, 0, rfl, rfl, decide (0 < a), rfl, ?_⟩
    refine ite2 (fun ha => ?_) (fun ha => ?_)
    · have ha : 0 < a := of_decide_eq_true ha
      refine ⟨.ref p, rfl, p, _, 0, .int a, rfl, rfl, hL, rfl, a, rfl, .int m, rfl, a, m, rfl, rfl, by show (0 : Int) < m; omega, ?_⟩
      refine ⟨.ref p, rfl, p, _, 0, .int a, rfl, rfl, hL, rfl, .int m, rfl, a, m, rfl, rfl, ⟨by show (0 : Int) < m; omega, h3⟩, ?_⟩
      refine ⟨.ref p, rfl, p, _, 0, 0, rfl, rfl, hp, rfl, ?_⟩
      refine ⟨.int (a % m), rfl, ?_⟩
      refine fin (a / m) b c (a % m) ?_ (Int.emod_nonneg _ (by omega)) (Int.emod_lt_of_pos _ (by omega)) _ (fun q hq => upd_ne hq) upd_same
      refine ⟨Int.ediv_nonneg hw.a0 (by omega), ?_, hw.b0, hw.b1, hw.c0, by have := hw.c1; omega⟩
      refine Nat.lt_of_le_of_lt ?_ hw.a1
      have h5 : a / m ≤ a := Int.ediv_le_self m hw.a0
      have h6 : 0 ≤ a / m := Int.ediv_nonneg hw.a0 (by omega)
      omega
    · refine ⟨.ref p, rfl, p, _, 2, .int c, rfl, rfl, hL, rfl, c, 1, rfl, rfl, ?_⟩
      refine ⟨.ref p, rfl, p, _, 2, 2, rfl, rfl, hp, rfl, ?_⟩
      have hL2 : SqL K (upd H p (.lst [.int a, .int b, .int (c + 1)])) p [.int a, .int b, .int (c + 1)] := .inl (.inl upd_same)
      have c0 := hw.c0
      have c1 := hw.c1
      have b0 := hw.b0
      have b1 := hw.b1
      have big : ∀ z : Int, 0 ≤ z → z < 2 ^ 200 → z.natAbs < 2 ^ 10000 := fun z z0 z1 => by
        have : z.natAbs < 2 ^ 200 := by omega
        exact Nat.lt_of_lt_of_le this (Nat.pow_le_pow_right (by decide) (by decide))
      have lg : ∀ z : Int, 0 ≤ z → z < 2 ^ 200 → z.natAbs.log2 < 400 := fun z z0 z1 => by
        by_cases hz : z.natAbs = 0
        · rw [hz]; decide
        · refine (Nat.log2_lt hz).mpr ?_
          have : z.natAbs < 2 ^ 200 := by omega
          exact Nat.lt_of_lt_of_le this (Nat.pow_le_pow_right (by decide) (by decide))
      refine ⟨.ref p, rfl, p, _, 1, .int b, rfl, rfl, hL2, rfl, .ref p, rfl, p, _, 2, .int (c + 1), rfl, rfl, hL2, rfl, _, _, rfl, rfl, ?_, _, _, rfl, rfl, _, rfl, _, _, rfl, rfl, ⟨by decide, by decide, ?_⟩, _, _, rfl, rfl, ⟨by decide, by decide, big 10 (by decide) (by decide)⟩, _, _, rfl, rfl, _, _, rfl, rfl, ?_, ?_⟩
      · show (961748941 : Int).natAbs.log2 + (c + 1).natAbs.log2 < 1000000
        have q1 : (961748941 : Int).natAbs.log2 = 29 := by decide +kernel
        have q2 := lg (c + 1) (by omega) (by omega)
        rw [q1]; omega
      · exact big _ (by omega) (by omega)
      · show (0 : Int) < 10 ^ Int.toNat 41 + 109
        decide +kernel
      · have y0 : 0 ≤ (b + 961748941 * (c + 1)) ^ Int.toNat 3 % (10 ^ Int.toNat 41 + 109) := Int.emod_nonneg _ (by decide +kernel)
        have y1 : (b + 961748941 * (c + 1)) ^ Int.toNat 3 % (10 ^ Int.toNat 41 + 109) < 2 ^ 150 := Int.lt_trans (Int.emod_lt_of_pos _ (by decide +kernel)) (by decide +kernel)
        show gName 3 (.int ((b + 961748941 * (c + 1)) ^ Int.toNat 3 % (10 ^ Int.toNat 41 + 109))) _ _ _
        generalize (b + 961748941 * (c + 1)) ^ Int.toNat 3 % (10 ^ Int.toNat 41 + 109) = y at y0 y1 ⊢
        refine ⟨.int y, rfl, .ref p, rfl, p, _, 2, .int (c + 1), rfl, rfl, hL2, rfl, _, _, rfl, rfl, ?_, _, _, rfl, rfl, _, rfl, _, _, rfl, rfl, ⟨by decide, by decide, ?_⟩, _, _, rfl, rfl, ⟨by decide, by decide, ?_⟩, _, _, rfl, rfl, _, _, rfl, rfl, ?_, ?_⟩
        · show (217645199 : Int).natAbs.log2 + (c + 1).natAbs.log2 < 1000000
          have q1 : (217645199 : Int).natAbs.log2 = 27 := by decide +kernel
          have q2 := lg (c + 1) (by omega) (by omega)
          rw [q1]; omega
        · exact big _ (by omega) (by omega)
        · show (10 : Int).natAbs < 2 ^ 10000
          exact big 10 (by decide) (by decide)
        · show (0 : Int) < 10 ^ Int.toNat 39 + 3
          decide +kernel
        · show gName 3 (.int ((y + 217645199 * (c + 1)) ^ Int.toNat 3 % (10 ^ Int.toNat 39 + 3))) _ _ _
          generalize (y + 217645199 * (c + 1)) ^ Int.toNat 3 % (10 ^ Int.toNat 39 + 3) = z
          refine ⟨.int z, rfl, _, _, rfl, rfl, ⟨by decide, by decide +kernel⟩, _, rfl, .int m, rfl, _, _, rfl, rfl, by show (0 : Int) < m; omega, ?_⟩
          exact fin a b (c + 1) _ ⟨hw.a0, hw.a1, b0, b1, by omega, by omega⟩ (Int.emod_nonneg _ (by omega)) (Int.emod_lt_of_pos _ (by omega)) _ (fun q hq => upd_ne hq) upd_same
theorem ok_well {f : Addr} {fd : FuncData} (F : Fun K "_law_well" "_law_well" s__law_well f fd) (mi : mg "int" = none) (ml : mg "len" = none) (mm : mg "max" = none) (ma : mg "abs" = none) : FnG P w K mg base 1 f fd ["script", "at"] (spWell K) := by
  refine fun_okG F sc__law_well (fun vs H Q E h => ?_) (fun cdv A outer s H vs Q E hr h => ⟨_, pss_cons (ps_set (i := 2) sc__law_well.nd rfl (.inl rfl) (pe_ifExp (pt_cmpR op_lt (pv 1) (pe_callB call_len_seq (by rfl) ml (by decide +kernel) (pa_cons (pv 0) pa_nil)) (nomark _)) (pe_ix ix_list (pv 0) (pv 1) (fun _ _ => rfl)) pe_int))
      (pss_one (ps_ret (pe_lst (pa_cons (pe_callB (call_max2 rfl) (by rfl) mm (by decide +kernel) (pa_cons pe_int (pa_cons (pe_op op_sub (pe_callB call_abs (by rfl) ma (by decide +kernel) (pa_cons (pv 2) pa_nil)) (pe_op op_powW pe_int pe_int)) pa_nil)))
        (pa_cons (pe_op op_add (pe_op op_add (pe_op op_mulW (pe_op op_mod (pe_callTy cr_int (by rfl) mi (by decide +kernel) (pa_cons (pv 2) pa_nil)) (pe_op op_add (pe_op op_powW pe_int pe_int) pe_int)) pe_int) (pe_op op_mulW pe_int (pv 1))) pe_int) (pa_cons pe_int pa_nil)))))), ?_⟩)
  · obtain ⟨a, ns, k, rfl, _⟩ := h
    rfl
  · obtain ⟨a, ns, k, rfl, hS, hl, hb, k0, k1, q⟩ := h
    have lg : ∀ z : Int, 0 ≤ z → z < 2 ^ 200 → z.natAbs.log2 < 400 := fun z z0 z1 => by
      by_cases hz : z.natAbs = 0
      · rw [hz]; decide
      · refine (Nat.log2_lt hz).mpr ?_
        have : z.natAbs < 2 ^ 200 := by omega
        exact Nat.lt_of_lt_of_le this (Nat.pow_le_pow_right (by decide) (by decide))
    have wide : ∀ {z : Int}, Builtin.Int.intBits z ≤ 1048576 → z.natAbs < 2 ^ 1100000 := fun {z} hz => by
      unfold Builtin.Int.intBits at hz
      by_cases h0 : z.natAbs = 0
      · rw [h0]; exact Nat.pow_pos (by decide)
      · have h00 : (z == 0) = false := by
          have : z ≠ 0 := by omega
          simpa using this
        rw [h00] at hz
        have h1 : z.natAbs.log2 + 1 ≤ 1048576 := hz
        have := (Nat.log2_lt h0 (k := 1048576)).mp (by omega)
        exact Nat.lt_of_lt_of_le this (Nat.pow_le_pow_right (by decide) (by decide))
    have big10 : (10 : Int).natAbs < 2 ^ 10000 := Nat.lt_of_lt_of_le (show (10 : Int).natAbs < 2 ^ 200 by decide +kernel) (Nat.pow_le_pow_right (by decide) (by decide))
    refine ⟨.int k, rfl, .ref a, rfl, a, _, rfl, .inl hS, k, (ns.length : Int), rfl, by simp, decide (k < ns.length), rfl, ?_⟩
    refine ite2 (fun hk => ?_) (fun hk => ?_)
    · have hk : k < ns.length := of_decide_eq_true hk
      have hb2 := hb (ns[k.toNat]'(by omega)) (List.getElem_mem _)
      have hg : (ns.map V.int)[k.toNat]? = some (.int (ns[k.toNat]'(by omega))) := by
        rw [List.getElem?_map, List.getElem?_eq_getElem (by omega)]
        rfl
      generalize ns[k.toNat]'(by omega) = z at hb2 hg
      have hz := hb2
      refine ⟨.ref a, rfl, .int k, rfl, a, _, k, .int z, rfl, rfl, hS, ?_, ?_⟩
      · have e := atI_nat hg
        rwa [Int.toNat_of_nonneg k0] at e
      refine ⟨.int z, rfl, z, rfl, _, _, rfl, rfl, ⟨by decide, by decide, big10⟩, _, _, rfl, rfl, _, _, rfl, ?_⟩
      refine ⟨.int z, rfl, z, rfl, _, _, rfl, rfl, ⟨by decide, by decide, big10⟩, _, _, rfl, rfl, _, _, rfl, rfl, by show (0 : Int) < 10 ^ Int.toNat 37 + 151; decide +kernel, _, _, rfl, rfl, ?_, .int k, rfl, _, _, rfl, rfl, ?_, _, _, rfl, rfl, _, _, rfl, rfl, by show 3 ≤ sizeLine; decide, fun p hp => ?_⟩
      · show (z % (10 ^ Int.toNat 37 + 151)).natAbs.log2 + (103 : Int).natAbs.log2 < 1000000
        have q1 : (103 : Int).natAbs.log2 = 6 := by decide +kernel
        have q2 := lg (z % (10 ^ Int.toNat 37 + 151)) (Int.emod_nonneg _ (by decide +kernel)) (Int.lt_trans (Int.emod_lt_of_pos _ (by decide +kernel)) (by decide +kernel))
        rw [q1]; omega
      · show (71 : Int).natAbs.log2 + k.natAbs.log2 < 1000000
        have q1 : (71 : Int).natAbs.log2 = 6 := by decide +kernel
        have q2 := lg k k0 (by omega)
        rw [q1]; omega
      · refine q _ p _ _ _ (fun b o e => (upd_ne (ne_of_none e hp)).trans e) hp upd_same ?_
        have m0 : 0 ≤ z % (10 ^ Int.toNat 37 + 151) := Int.emod_nonneg _ (by decide +kernel)
        have m1 : z % (10 ^ Int.toNat 37 + 151) < 2 ^ 130 := Int.lt_trans (Int.emod_lt_of_pos _ (by decide +kernel)) (by decide +kernel)
        have e18 : (10 : Int) ^ Int.toNat 18 = 1000000000000000000 := by decide +kernel
        refine ⟨?_, ?_, ?_, ?_, by decide, by decide⟩
        · split <;> omega
        · refine Nat.lt_of_le_of_lt ?_ (wide hz)
          rw [e18]
          split <;> split at * <;> omega
        · omega
        · omega
    · have hz : Builtin.Int.intBits 0 ≤ 1048576 := by decide
      show gName 2 (.int 0) _ _ _
      refine ⟨.int 0, rfl, (0 : Int), rfl, _, _, rfl, rfl, ⟨by decide, by decide, big10⟩, _, _, rfl, rfl, _, _, rfl, ?_⟩
      refine ⟨.int 0, rfl, (0 : Int), rfl, _, _, rfl, rfl, ⟨by decide, by decide, big10⟩, _, _, rfl, rfl, _, _, rfl, rfl, by show (0 : Int) < 10 ^ Int.toNat 37 + 151; decide +kernel, _, _, rfl, rfl, ?_, .int k, rfl, _, _, rfl, rfl, ?_, _, _, rfl, rfl, _, _, rfl, rfl, by show 3 ≤ sizeLine; decide, fun p hp => ?_⟩
      · show ((0 : Int) % (10 ^ Int.toNat 37 + 151)).natAbs.log2 + (103 : Int).natAbs.log2 < 1000000
        have q1 : (103 : Int).natAbs.log2 = 6 := by decide +kernel
        have q2 := lg ((0 : Int) % (10 ^ Int.toNat 37 + 151)) (Int.emod_nonneg _ (by decide +kernel)) (Int.lt_trans (Int.emod_lt_of_pos _ (by decide +kernel)) (by decide +kernel))
        rw [q1]; omega
      · show (71 : Int).natAbs.log2 + k.natAbs.log2 < 1000000
        have q1 : (71 : Int).natAbs.log2 = 6 := by decide +kernel
        have q2 := lg k k0 (by omega)
        rw [q1]; omega
      · refine q _ p _ _ _ (fun b o e => (upd_ne (ne_of_none e hp)).trans e) hp upd_same ?_
        have m0 : 0 ≤ (0 : Int) % (10 ^ Int.toNat 37 + 151) := Int.emod_nonneg _ (by decide +kernel)
        have m1 : (0 : Int) % (10 ^ Int.toNat 37 + 151) < 2 ^ 130 := Int.lt_trans (Int.emod_lt_of_pos _ (by decide +kernel)) (by decide +kernel)
        have e18 : (10 : Int) ^ Int.toNat 18 = 1000000000000000000 := by decide +kernel
        refine ⟨?_, ?_, ?_, ?_, by decide, by decide⟩
        · split <;> omega
        · refine Nat.lt_of_le_of_lt ?_ (wide hz)
          rw [e18]
          split <;> split at * <;> omega
        · omega
        · omega
end
def fracD (t b : Int) : PyData := .tuple [.int (t / (Nat.gcd t.natAbs b.natAbs : Nat)), .int (b / (Nat.gcd t.natAbs b.natAbs : Nat))]
theorem gcd_pos {t b : Int} (h : 1 ≤ b) : (0 : Int) < (Nat.gcd t.natAbs b.natAbs : Nat) := by
  have := Nat.gcd_pos_of_pos_right t.natAbs (show 0 < b.natAbs by omega)
  omega
theorem sz_gcd {t b : Int} {k : Nat} (h : 1 ≤ b) (hb : sz k b) : sz k (Nat.gcd t.natAbs b.natAbs : Nat) := by
  refine sz_le hb ?_
  rw [Int.natAbs_natCast]
  exact Nat.gcd_le_right _ (by omega)
theorem div_gcd_pos {t b : Int} (h : 1 ≤ b) : 1 ≤ b / (Nat.gcd t.natAbs b.natAbs : Nat) := by
  have g0 := gcd_pos (t := t) h
  have hd : ((Nat.gcd t.natAbs b.natAbs : Nat) : Int) ∣ b := by
    have := Nat.gcd_dvd_right t.natAbs b.natAbs
    exact Int.ofNat_dvd_left.mpr this
  have := Int.ediv_pos_of_pos_of_dvd (show 0 < b by omega) (by omega) hd
  omega
def lineA (v a : Int) : Int := if v < 0 then -a else a
def lineV (v : Int) : Int := if v < 0 then -v else v
theorem gcd_dvd_l (t m : Int) : ((Nat.gcd t.natAbs m.natAbs : Nat) : Int) ∣ t := Int.ofNat_dvd_left.mpr (Nat.gcd_dvd_left _ _)
theorem gcd_dvd_r (t m : Int) : ((Nat.gcd t.natAbs m.natAbs : Nat) : Int) ∣ m := Int.ofNat_dvd_left.mpr (Nat.gcd_dvd_right _ _)
theorem low_facts {t m : Int} (hm : 1 ≤ m) : (t / (Nat.gcd t.natAbs m.natAbs : Nat)) * m = t * (m / (Nat.gcd t.natAbs m.natAbs : Nat)) ∧ 1 ≤ m / (Nat.gcd t.natAbs m.natAbs : Nat) ∧ Nat.gcd (t / (Nat.gcd t.natAbs m.natAbs : Nat)).natAbs (m / (Nat.gcd t.natAbs m.natAbs : Nat)).natAbs = 1 := by
  have g0 := gcd_pos (t := t) hm
  have e1 := Int.ediv_mul_cancel (gcd_dvd_l t m)
  have e2 := Int.ediv_mul_cancel (gcd_dvd_r t m)
  refine ⟨?_, div_gcd_pos hm, ?_⟩
  · generalize t / (Nat.gcd t.natAbs m.natAbs : Nat) = T at *
    generalize m / (Nat.gcd t.natAbs m.natAbs : Nat) = B at *
    generalize ((Nat.gcd t.natAbs m.natAbs : Nat) : Int) = g at *
    rw [← e1, ← e2]
    simp only [Int.mul_assoc, Int.mul_comm, Int.mul_left_comm]
  · have n1 : (t / (Nat.gcd t.natAbs m.natAbs : Nat)).natAbs = t.natAbs / Nat.gcd t.natAbs m.natAbs := by
      rw [Int.natAbs_ediv_of_dvd (gcd_dvd_l t m), Int.natAbs_natCast]
    have n2 : (m / (Nat.gcd t.natAbs m.natAbs : Nat)).natAbs = m.natAbs / Nat.gcd t.natAbs m.natAbs := by
      rw [Int.natAbs_ediv_of_dvd (gcd_dvd_r t m), Int.natAbs_natCast]
    rw [n1, n2]
    exact Nat.gcd_div_gcd_div_gcd_of_pos_right (show 0 < m.natAbs by omega)
theorem low_unique {X B r b : Int} (hB : 1 ≤ B) (hb : 1 ≤ b) (hc : Nat.gcd r.natAbs b.natAbs = 1) (e : r * B = X * b) : fracD X B = .tuple [.int r, .int b] := by
  have hd : b.natAbs ∣ B.natAbs := by
    have h1 : b.natAbs ∣ r.natAbs * B.natAbs := by
      rw [← Int.natAbs_mul, e, Int.natAbs_mul]
      exact Nat.dvd_mul_left _ _
    refine Nat.Coprime.dvd_of_dvd_mul_left (k := b.natAbs) (m := r.natAbs) (n := B.natAbs) ?_ h1
    rw [Nat.Coprime, Nat.gcd_comm]
    exact hc
  obtain ⟨c, hcB⟩ := Int.natAbs_dvd_natAbs.mp hd
  have hc0 : 0 < c := by
    by_cases h : 0 < c
    · exact h
    · have : b * c ≤ b * 0 := Int.mul_le_mul_of_nonneg_left (by omega) (by omega)
      omega
  have eX : X = r * c := by
    rw [hcB] at e
    have e2 : (r * c) * b = X * b := by rw [← e]; simp only [Int.mul_assoc, Int.mul_comm, Int.mul_left_comm]
    exact (Int.eq_of_mul_eq_mul_right (by omega) e2).symm
  have hg : Nat.gcd X.natAbs B.natAbs = c.natAbs := by
    rw [eX, hcB, Int.natAbs_mul, Int.natAbs_mul, Nat.gcd_mul_right, hc, Nat.one_mul]
  have ec : ((c.natAbs : Nat) : Int) = c := by omega
  unfold fracD
  rw [hg, ec, eX, hcB, Int.mul_ediv_cancel _ (by omega), Int.mul_ediv_cancel _ (by omega)]
def foldI (s t b : Int) : Int := if t % (2 * s * b) ≤ s * b then t % (2 * s * b) else 2 * s * b - t % (2 * s * b)
theorem pos_of_mul {c x : Int} (hc : 0 < c) (h : 0 < c * x) : 0 < x := by
  by_cases k : 0 < x
  · exact k
  · have : c * x ≤ c * 0 := Int.mul_le_mul_of_nonneg_left (by omega) (by omega)
    omega
theorem nonneg_of_mul {c x : Int} (hc : 0 < c) (h : 0 ≤ c * x) : 0 ≤ x := by
  by_cases k : 0 ≤ x
  · exact k
  · have : c * x ≤ c * (-1) := Int.mul_le_mul_of_nonneg_left (by omega) (by omega)
    omega
theorem fracD_ratio {t1 b1 t2 b2 : Int} (h1 : 1 ≤ b1) (h2 : 1 ≤ b2) (e : t1 * b2 = t2 * b1) : fracD t1 b1 = fracD t2 b2 := by
  obtain ⟨e2, p2, c2⟩ := low_facts (t := t2) h2
  have q : fracD t2 b2 = .tuple [.int (t2 / (Nat.gcd t2.natAbs b2.natAbs : Nat)), .int (b2 / (Nat.gcd t2.natAbs b2.natAbs : Nat))] := rfl
  rw [q]
  refine low_unique h1 p2 c2 ?_
  refine Int.eq_of_mul_eq_mul_right (show b2 ≠ 0 by omega) ?_
  generalize t2 / (Nat.gcd t2.natAbs b2.natAbs : Nat) = r at *
  generalize b2 / (Nat.gcd t2.natAbs b2.natAbs : Nat) = d at *
  grind
def lowP (t b : Int) : Int × Int := (t / (Nat.gcd t.natAbs b.natAbs : Nat), b / (Nat.gcd t.natAbs b.natAbs : Nat))
theorem lowP_of {t b n m : Int} (h : fracD t b = .tuple [.int n, .int m]) : lowP t b = (n, m) := by
  unfold fracD at h
  simp only [PyData.tuple.injEq, List.cons.injEq, PyData.int.injEq, and_true] at h
  unfold lowP
  rw [h.1, h.2]
theorem opEq_tt {a b c e : Int} : opEq (.tuple [.int a, .int b]) (.tuple [.int c, .int e]) = some (.bool (decide (a = c) && decide (b = e))) := by
  unfold opEq SeqAt.shaped
  simp [PyData.canLay0, PyData.canLayAll0, PyData.depth, PyData.depthAll, PyData.eqv, PyData.eqvAll]
  by_cases h : a = c <;> by_cases h2 : b = e <;> simp [h, h2]
theorem opEq_nt {c e : Int} : opEq .none (.tuple [.int c, .int e]) = some (.bool false) := by
  unfold opEq SeqAt.shaped
  simp [PyData.canLay0, PyData.canLayAll0, PyData.depth, PyData.depthAll, PyData.eqv, PyData.eqvAll]
theorem fracD_one (x : Int) : fracD x 1 = .tuple [.int x, .int 1] := by
  unfold fracD
  have : Nat.gcd x.natAbs (1 : Int).natAbs = 1 := Nat.gcd_one_right _
  rw [this]
  simp
theorem opAdd_s {x y : Str} (h : x.length + y.length ≤ 100000) : opAdd (.str x) (.str y) = some (.str (x ++ y)) := if_pos h
theorem lowP_D (t b : Int) : fracD t b = .tuple [.int (lowP t b).1, .int (lowP t b).2] := rfl
theorem sz_lowP {t b : Int} {k l : Nat} (hb : 1 ≤ b) (zt : sz k t) (zb : sz l b) : sz k (lowP t b).1 ∧ sz l (lowP t b).2 := ⟨sz_div zt (gcd_pos hb), sz_div zb (gcd_pos hb)⟩
def passed (a v f st t u : Int) : Int := if a + v * t / u < f then 0 else (a + v * t / u - f) / st + 1
structure Mk where
  s : Int
  a : Int
  v : Int
  f : Int
  st : Int
def Mk.d (m : Mk) : PyData := .tuple [.tuple [.int m.s, .int m.a, .int m.v], .int m.f, .int m.st]
def Mk.pa (m : Mk) (t u : Int) : Int := passed m.a m.v m.f m.st t u
def Mk.ok (m : Mk) : Prop := 1 ≤ m.st ∧ sz 8000 m.v ∧ sz 8000 m.st
theorem lowP_ratio {t1 b1 t2 b2 : Int} (h1 : 1 ≤ b1) (h2 : 1 ≤ b2) (e : t1 * b2 = t2 * b1) : lowP t1 b1 = lowP t2 b2 := by
  have h := fracD_ratio h1 h2 e
  have h' : fracD t1 b1 = .tuple [.int (lowP t2 b2).1, .int (lowP t2 b2).2] := h
  exact (lowP_of h').trans rfl
theorem lowP_facts {t b : Int} (h : 1 ≤ b) : (lowP t b).1 * b = t * (lowP t b).2 ∧ 1 ≤ (lowP t b).2 ∧ Nat.gcd (lowP t b).1.natAbs (lowP t b).2.natAbs = 1 := low_facts h
theorem str_nil (x : Str) : x ++ ("" : Str) = x := by
  obtain ⟨⟨l⟩⟩ := x
  have e : (Str.ofString "").cps = #[] := by decide +kernel
  show Str.mk _ = _
  rw [e]
  simp
/-- sizes of a table or a fraction, of a shot -/
def szH (k : Nat) : PyData → Prop
  | .tuple [.int a, .int b] => sz k a ∧ sz k b
  | .tuple [.int a, .int b, .int c, .int d] => sz k a ∧ sz k b ∧ sz k c ∧ sz k d
  | _ => True
theorem lineV_nonneg (v : Int) : 0 ≤ lineV v := by unfold lineV; split <;> omega
def minI : List Int → Option Int
  | [] => none
  | n :: ns => some (ns.foldl min n)
def kSome : PyData → Option PyData
  | .none => none
  | d => some d
def oT : Option (Int × Int) → PyData
  | none => .none
  | some t => .tuple [.int t.1, .int t.2]
def szO (k : Nat) (o : Option (Int × Int)) : Prop := ∀ t, o = some t → sz k t.1 ∧ sz k t.2
theorem fold_eq {s T1 T2 m : Int} (hs : 1 ≤ s) (hm : 1 ≤ m) (h : T2 % (2 * s * m) = T1 % (2 * s * m) ∨ T2 % (2 * s * m) = (-T1) % (2 * s * m)) : foldI s T2 m = foldI s T1 m := by
  have M0 : 0 < 2 * s * m := Int.mul_pos (by omega) (by omega)
  have e : 2 * s * m = 2 * (s * m) := Int.mul_assoc _ _ _
  unfold foldI
  rw [e] at M0 h ⊢
  have a0 := Int.emod_nonneg T1 (show 2 * (s * m) ≠ 0 by omega)
  have a1 := Int.emod_lt_of_pos T1 M0
  rcases h with h | h
  · rw [h]
  · by_cases hz : T1 % (2 * (s * m)) = 0
    · have : (-T1) % (2 * (s * m)) = 0 := Int.emod_eq_zero_of_dvd (Int.dvd_neg.mpr (Int.dvd_of_emod_eq_zero hz))
      rw [h, this, hz]
    · have h2 : (-T1) % (2 * (s * m)) = 2 * (s * m) - T1 % (2 * (s * m)) := by
        have e1 := Int.emod_add_mul_ediv T1 (2 * (s * m))
        rw [show -T1 = (2 * (s * m) - T1 % (2 * (s * m))) + (2 * (s * m)) * (-(T1 / (2 * (s * m))) - 1) by
          rw [Int.mul_sub, Int.mul_neg]; omega]
        rw [Int.add_mul_emod_self_left]
        exact Int.emod_eq_of_lt (by omega) (by omega)
      rw [h, h2]
      generalize T1 % (2 * (s * m)) = r at *
      generalize s * m = u at *
      by_cases c : r ≤ u
      · rw [if_pos c]
        by_cases c2 : 2 * u - r ≤ u
        · rw [if_pos c2]; omega
        · rw [if_neg c2]; omega
      · rw [if_neg c, if_pos (by omega)]
end LW
namespace LW
open PySem PySem.Spec PyProof.Rows L2 DL
def m_is_whole (W : WD) : MS :=
  mRet (mrOf (mAnd (mOp1 (bIsi [.kInt]) (mVar 0)) (mNot (mOp1 (bIsi [.kBool]) (mVar 0)))))
def isInt : PyData → Bool
  | .int _ => true
  | _ => false
def D_is_whole : PSpec := fun ds Q _ => ∃ d, ds = [d] ∧ Q (.va (.bool (isInt d)))
theorem len_is_whole : ∀ ds Q E, D_is_whole ds Q E → ds.length = 1 := by
  rintro _ Q E ⟨d, rfl, _⟩
  rfl
theorem rd_is_whole : ∀ ds Q E, D_is_whole ds Q E → m_is_whole (fun c _ => E c) (endP Q) (slots0 1 ds) := by
  rintro _ Q E ⟨d, rfl, q⟩
  unfold m_is_whole
  walk_at "rdm"
  cases d <;> simpa [isK, isInt] using q
section
variable {P : Program} {w : World} {K : PySem.W.Frag} {mg : Str → Option Value} {base : Heap} {CN : String → Option Addr}
theorem ok_is_whole {f : Addr} {fd : FuncData} (F : Fun K "is_whole" "is_whole" s_is_whole f fd) (g : G K mg CN)  : FnG P w K mg base 1 f fd ["value"] (spP K CN D_is_whole) := by
  have sc := sc_is_whole
  exact fun_okP (m := m_is_whole) F sc (by decide) len_is_whole (fun cdv A outer s H E C W hw hr tk =>
    (pds_one (pds_ret (pdr_of (pd_and (pd_isi1 .kInt g.b_isinstance g.b_int (dv 0)) (pd_one (pd_not (pd_isi1 .kBool g.b_isinstance g.b_bool (dv 0))))))))) rd_is_whole
end
def m_are_whole (W : WD) : MS :=
  mRet (mrOf (mAnd (mOp1 (bIsi [.kTup]) (mVar 0)) (mAnd (mOp2 opEq (mCallB bLen (mCons (mVar 0) (mNil))) (mVar 1)) (mCallB bAll (mCons (mLc (miSeq (mVar 0)) (mgName 2) (mTYes) (mCall D_is_whole wF (mCons (mVar 2) (mNil))) [2]) (mNil))))))
def areW (d : PyData) (m : Int) : Bool := match d with
  | .tuple xs => decide ((xs.length : Int) = m) && xs.all isInt
  | _ => false
def D_are_whole : PSpec := fun ds Q _ => ∃ d m, ds = [d, .int m] ∧ m ≤ 100 ∧ Q (.va (.bool (areW d m)))
theorem len_are_whole : ∀ ds Q E, D_are_whole ds Q E → ds.length = 2 := by
  rintro _ Q E ⟨d, m, rfl, _⟩
  rfl
theorem rd_are_whole : ∀ ds Q E, D_are_whole ds Q E → m_are_whole (fun c _ => E c) (endP Q) (slots0 3 ds) := by
  rintro _ Q E ⟨d, m, rfl, hm, q⟩
  unfold m_are_whole
  walk_at "rdm"
  cases d with
  | tuple xs =>
    walk_at "rdm"
    by_cases h : (xs.length : Int) = m
    · rw [if_pos (by simp [h])]
      refine ⟨_, rfl, rfl, ?_⟩
      refine lcL_run (fun s => ∃ x, s = [.va (.tuple xs), .va (.int m), x]) (fun d => some (.bool (isInt d))) xs ?_ _ [] ⟨_, rfl⟩ (by simp; omega) ?_
      · rintro d hd s ⟨x, rfl⟩ Y N hY hN
        simp only [swipe, sset, sget]
        exact ⟨d, rfl, _, rfl, hY _ _ rfl ⟨_, rfl⟩⟩
      · rintro s ⟨x, rfl⟩
        simp only [bAll, List.nil_append]
        rw [fm_some, bools_map]
        refine ⟨_, rfl, ?_⟩
        have e : (xs.map isInt).all id = xs.all isInt := by rw [List.all_map]; rfl
        show Q (S.va (.bool ((xs.map isInt).all id)))
        rw [e]
        simpa [areW, h] using q
    · rw [if_neg (by simp [h])]
      simpa [areW, h] using q
  | _ => simpa [areW, isK] using q
theorem isInt_inv {d : PyData} (h : isInt d = true) : ∃ a, d = .int a := by
  cases d <;> first | exact ⟨_, rfl⟩ | cases h
theorem areW2 {d : PyData} (h : areW d 2 = true) : ∃ a b, d = .tuple [.int a, .int b] := by
  cases d with
  | tuple xs =>
    simp only [areW, Bool.and_eq_true, decide_eq_true_eq] at h
    obtain ⟨h1, h2⟩ := h
    match xs, h1, h2 with
    | [x, y], h1, h2 =>
      simp only [List.all_cons, List.all_nil, Bool.and_true, Bool.and_eq_true] at h2
      obtain ⟨a, rfl⟩ := isInt_inv h2.1
      obtain ⟨b, rfl⟩ := isInt_inv h2.2
      exact ⟨_, _, rfl⟩
    | [], h, _ => simp at h
    | [x], h, _ => simp at h
    | x :: y :: z :: r, h, _ => simp at h; omega
  | _ => simp [areW] at h
theorem areW4 {d : PyData} (h : areW d 4 = true) : ∃ a b c e, d = .tuple [.int a, .int b, .int c, .int e] := by
  cases d with
  | tuple xs =>
    simp only [areW, Bool.and_eq_true, decide_eq_true_eq] at h
    obtain ⟨h1, h2⟩ := h
    match xs, h1, h2 with
    | [x, y, z, w], h1, h2 =>
      simp only [List.all_cons, List.all_nil, Bool.and_true, Bool.and_eq_true] at h2
      obtain ⟨a, rfl⟩ := isInt_inv h2.1
      obtain ⟨b, rfl⟩ := isInt_inv h2.2.1
      obtain ⟨c, rfl⟩ := isInt_inv h2.2.2.1
      obtain ⟨e, rfl⟩ := isInt_inv h2.2.2.2
      exact ⟨_, _, _, _, rfl⟩
    | [], h, _ => simp at h
    | [x], h, _ => simp at h
    | [x, y], h, _ => simp at h
    | [x, y, z], h, _ => simp at h
    | x :: y :: z :: u :: v :: r, h, _ => simp at h; omega
  | _ => simp [areW] at h
section
variable {P : Program} {w : World} {K : PySem.W.Frag} {mg : Str → Option Value} {base : Heap} {CN : String → Option Addr}
theorem ok_are_whole {f : Addr} {fd : FuncData} (F : Fun K "are_whole" "are_whole" s_are_whole f fd) (g : G K mg CN) (c_is_whole : CalP P w K mg base CN 1 "is_whole" D_is_whole) : FnG P w K mg base 2 f fd ["value", "many"] (spP K CN D_are_whole) := by
  have sc := sc_are_whole
  exact fun_okP (m := m_are_whole) F sc (by decide) len_are_whole (fun cdv A outer s H E C W hw hr tk =>
    (pds_one (pds_ret (pdr_of (pd_and (pd_isi1 .kTup g.b_isinstance g.b_tuple (dv 0)) (pd_and (pd_cmp (or_eqD (RoomG.u64 hr)) rl_eq (pd_callB cr_len rc_len g.b_len (by decide +kernel) (pda_cons (dv 0) pda_nil)) (dv 1) (nomark _)) (pd_one (pd_callB (cr_all rfl) rc_all g.b_all (by decide +kernel) (pda_cons (pd_lc (pe_lc (own := [("item", 2)]) rfl sc.nd (pdi_seq (dv 0)) (blkOk_by (N := ["value", "many", "item"]) (sc := (defScope s_are_whole)) (by decide +kernel)) (fun _ _ _ _ _ => (dgv 2 (vs := [2]) sc.nd)) (fun _ _ _ _ _ => pdts_nil) (fun _ _ _ _ _ => (pd_call c_is_whole hr (by decide) takesF (pda_cons (dv 2) pda_nil))))) pda_nil))))))))) rd_are_whole
end
def m_fraction_of (W : WD) : MS :=
  mSeq (mAsg (mCallB bGcd (mCons (mVar 0) (mCons (mVar 1) (mNil)))) (mgName 2))
  (mRet (mrOf (mTup (mCons (mOp2 opFdiv (mVar 0) (mVar 2)) (mCons (mOp2 opFdiv (mVar 1) (mVar 2)) (mNil))))))
def D_fraction_of : PSpec := fun ds Q _ => ∃ t b, ds = [.int t, .int b] ∧ 1 ≤ b ∧ sz 8000 b ∧ Q (.va (fracD t b))
theorem len_fraction_of : ∀ ds Q E, D_fraction_of ds Q E → ds.length = 2 := by
  rintro _ Q E ⟨t, b, rfl, _⟩
  rfl
theorem rd_fraction_of : ∀ ds Q E, D_fraction_of ds Q E → m_fraction_of (fun c _ => E c) (endP Q) (slots0 3 ds) := by
  rintro _ Q E ⟨t, b, rfl, hb, hs, q⟩
  unfold m_fraction_of
  walk_at "rdm"
  have g := sz_gcd (t := t) hb hs
  have g0 := gcd_pos (t := t) hb
  exact ⟨_, by rw [← opFdiv_i]; exact opFdiv_ok g0 g (by decide), _, by rw [← opFdiv_i]; exact opFdiv_ok g0 g (by decide), q⟩
section
variable {P : Program} {w : World} {K : PySem.W.Frag} {mg : Str → Option Value} {base : Heap} {CN : String → Option Addr}
theorem ok_fraction_of {f : Addr} {fd : FuncData} (F : Fun K "fraction_of" "fraction_of" s_fraction_of f fd) (g : G K mg CN)  : FnG P w K mg base 1 f fd ["top", "bottom"] (spP K CN D_fraction_of) := by
  have sc := sc_fraction_of
  exact fun_okP (m := m_fraction_of) F sc (by decide) len_fraction_of (fun cdv A outer s H E C W hw hr tk =>
    (pds_cons (pds_asg (ps_asg (pd_gcd g.b_gcd (pda_cons (dv 0) (pda_cons (dv 1) pda_nil))) (dg 2 sc.nd)))
    (pds_one (pds_ret (pdr_of (pd_tup (pda_cons (pd_op op_fdivW rl_fdiv (dv 0) (dv 2)) (pda_cons (pd_op op_fdivW rl_fdiv (dv 1) (dv 2)) pda_nil)))))))) rd_fraction_of
end
def m_earliest (W : WD) : MS :=
  mSeq (mAsg (mC .none) (mgName 1))
  (mSeq (mFor (miSeq (mVar 0)) (mgName 2) (mSeq (mIf (mT (mOp2 opIsN2 (mVar 2) (mC .none))) (mCont) (mNext))
  (mIf (mTOr (mT (mOp2 opIsN2 (mVar 1) (mC .none))) (mT (mOp2 opLt (mOp2 opMul (mOp2 opIx (mVar 2) (mC (.int 0))) (mOp2 opIx (mVar 1) (mC (.int 1)))) (mOp2 opMul (mOp2 opIx (mVar 1) (mC (.int 0))) (mOp2 opIx (mVar 2) (mC (.int 1))))))) (mAsg (mVar 2) (mgName 1)) (mNext))))
  (mRet (mrOf (mVar 1))))
def earlier (b : Option (Int × Int)) : Option (Int × Int) → Option (Int × Int)
  | none => b
  | some t => match b with
    | none => some t
    | some b => if t.1 * b.2 < b.1 * t.2 then some t else some b
def earlG : Option (Int × Int) → List (Option (Int × Int)) → Option (Int × Int)
  | b, [] => b
  | b, o :: l => earlG (earlier b o) l
/-- the first of the least times, none if there is no time -/
def earl (l : List (Option (Int × Int))) : Option (Int × Int) := earlG none l
theorem earlG_mem : ∀ (l : List (Option (Int × Int))) (b : Option (Int × Int)) (t : Int × Int), earlG b l = some t → b = some t ∨ some t ∈ l
  | [], b, t, h => .inl h
  | o :: l, b, t, h => by
    rcases earlG_mem l _ t h with h | h
    · unfold earlier at h
      split at h
      · exact .inl h
      · split at h
        · right; rw [h]; simp
        · split at h
          · right; rw [h]; simp
          · exact .inl h
    · exact .inr (List.mem_cons_of_mem _ h)
theorem frac_trans {a b c : Int × Int} (ha : 1 ≤ a.2) (hb : 1 ≤ b.2) (hc : 1 ≤ c.2) (h1 : a.1 * b.2 ≤ b.1 * a.2) (h2 : b.1 * c.2 ≤ c.1 * b.2) : a.1 * c.2 ≤ c.1 * a.2 := by
  refine Int.le_of_mul_le_mul_left (a := b.2) ?_ (by omega)
  have e1 : b.2 * (a.1 * c.2) = (a.1 * b.2) * c.2 := by simp only [Int.mul_assoc, Int.mul_comm, Int.mul_left_comm]
  have e2 : (a.1 * b.2) * c.2 ≤ (b.1 * a.2) * c.2 := Int.mul_le_mul_of_nonneg_right h1 (by omega)
  have e3 : (b.1 * a.2) * c.2 = (b.1 * c.2) * a.2 := by simp only [Int.mul_assoc, Int.mul_comm, Int.mul_left_comm]
  have e4 : (b.1 * c.2) * a.2 ≤ (c.1 * b.2) * a.2 := Int.mul_le_mul_of_nonneg_right h2 (by omega)
  have e5 : (c.1 * b.2) * a.2 = b.2 * (c.1 * a.2) := by simp only [Int.mul_assoc, Int.mul_comm, Int.mul_left_comm]
  omega
theorem earlG_le : ∀ (l : List (Option (Int × Int))) (b : Option (Int × Int)), (∀ t, b = some t ∨ some t ∈ l → 1 ≤ t.2) → ∀ t, b = some t ∨ some t ∈ l → ∃ r, earlG b l = some r ∧ r.1 * t.2 ≤ t.1 * r.2
  | [], b, _, t, h => by
    rcases h with h | h
    · exact ⟨t, h, Int.le_refl _⟩
    · cases h
  | o :: l, b, hp, t, h => by
    have hp' : ∀ t, earlier b o = some t ∨ some t ∈ l → 1 ≤ t.2 := by
      intro u hu
      rcases hu with hu | hu
      · have : b = some u ∨ some u = o := by
          unfold earlier at hu
          split at hu
          · exact .inl hu
          · split at hu
            · exact .inr hu.symm
            · split at hu
              · exact .inr hu.symm
              · exact .inl hu
        rcases this with z | z
        · exact hp u (.inl z)
        · exact hp u (.inr (by rw [z]; simp))
      · exact hp u (.inr (List.mem_cons_of_mem _ hu))
    have key : (∃ u, earlier b o = some u ∧ u.1 * t.2 ≤ t.1 * u.2) ∨ some t ∈ l := by
      rcases h with h | h
      · left
        subst h
        unfold earlier
        split
        · exact ⟨t, rfl, Int.le_refl _⟩
        · rename_i v
          show ∃ u, (if v.1 * t.2 < t.1 * v.2 then some v else some t) = some u ∧ _
          by_cases c : v.1 * t.2 < t.1 * v.2
          · rw [if_pos c]; exact ⟨v, rfl, by omega⟩
          · rw [if_neg c]; exact ⟨t, rfl, Int.le_refl _⟩
      · rcases List.mem_cons.mp h with h | h
        · left
          subst h
          unfold earlier
          cases b with
          | none => exact ⟨t, rfl, Int.le_refl _⟩
          | some v =>
            show ∃ u, (if t.1 * v.2 < v.1 * t.2 then some t else some v) = some u ∧ _
            by_cases c : t.1 * v.2 < v.1 * t.2
            · rw [if_pos c]; exact ⟨t, rfl, Int.le_refl _⟩
            · rw [if_neg c]; exact ⟨v, rfl, by omega⟩
        · exact .inr h
    rcases key with ⟨u, hu, le⟩ | h
    · obtain ⟨r, hr, le2⟩ := earlG_le l (earlier b o) hp' u (.inl hu)
      have rp : 1 ≤ r.2 := hp' r (earlG_mem l _ r hr)
      have up : 1 ≤ u.2 := hp' u (.inl hu)
      exact ⟨r, hr, frac_trans rp up (hp t h) le2 le⟩
    · obtain ⟨r, hr, le2⟩ := earlG_le l (earlier b o) hp' t (.inr h)
      exact ⟨r, hr, le2⟩
theorem earl_mem {l : List (Option (Int × Int))} {t : Int × Int} (h : earl l = some t) : some t ∈ l := by
  rcases earlG_mem l none t h with h | h
  · cases h
  · exact h
theorem earl_le {l : List (Option (Int × Int))} (hp : ∀ t, some t ∈ l → 1 ≤ t.2) {t : Int × Int} (h : some t ∈ l) : ∃ r, earl l = some r ∧ r.1 * t.2 ≤ t.1 * r.2 :=
  earlG_le l none (fun t h => hp t (h.resolve_left (by simp))) t (.inr h)
def D_earliest : PSpec := fun ds Q _ => ∃ ts : List (Option (Int × Int)), ds = [.list (ts.map oT)] ∧ (∀ t, some t ∈ ts → sz 100000 t.1 ∧ sz 100000 t.2) ∧ Q (.va (oT (earl ts)))
theorem len_earliest : ∀ ds Q E, D_earliest ds Q E → ds.length = 1 := by
  rintro _ Q E ⟨ts, rfl, _⟩
  rfl
theorem rd_earliest : ∀ ds Q E, D_earliest ds Q E → m_earliest (fun c _ => E c) (endP Q) (slots0 3 ds) := by
  rintro _ Q E ⟨ts, rfl, zz, q⟩
  unfold m_earliest
  refine seq_step fun N hN => ?_
  walk_at "rdn"
  subst hN
  refine seq_step fun N hN => ?_
  walk_at "rdn"
  refine forL_run (fun r s => ∃ (l : List (Option (Int × Int))) (b : Option (Int × Int)) (x2 : S), r = l.map oT ∧ s = [.va (.list (ts.map oT)), .va (oT b), x2] ∧ earlG b l = earl ts ∧ (∀ t, b = some t ∨ some t ∈ l → sz 100000 t.1 ∧ sz 100000 t.2)) ?_ ?_ _ _ ⟨ts, none, _, rfl, rfl, rfl, fun t h => zz t (h.resolve_left (by simp))⟩
  · rintro d r s N' ⟨l, b, x2, hr, rfl, he, hz⟩ hN'
    cases l with
    | nil => cases hr
    | cons o l =>
      cases hr
      have go : earlG (earlier b o) l = earl ts := he
      have hz' : ∀ t, earlier b o = some t ∨ some t ∈ l → sz 100000 t.1 ∧ sz 100000 t.2 := by
        intro u hu
        rcases hu with hu | hu
        · unfold earlier at hu
          split at hu
          · exact hz u (.inl hu)
          · split at hu
            · exact hz u (.inr (by rw [hu]; simp))
            · split at hu
              · exact hz u (.inr (by rw [hu]; simp))
              · exact hz u (.inl hu)
        · exact hz u (.inr (List.mem_cons_of_mem _ hu))
      simp only [mgName, sset]
      cases o with
      | none =>
        refine seq_step fun N2 hN2 => ?_
        refine if_run true (fun Q h => by unfold oT; walk_at "rdn"; exact h) (fun _ => ?_) (fun hc => by cases hc)
        walk_at "rdn"
        exact hN' _ ⟨l, b, _, rfl, rfl, go, hz'⟩
      | some t =>
        refine seq_step fun N2 hN2 => ?_
        refine if_run false (fun Q h => by unfold oT; walk_at "rdn"; exact h) (fun hc => by cases hc) (fun _ => ?_)
        walk_at "rdn"
        subst hN2
        cases b with
        | none =>
          refine if_run true (fun Q h => by unfold oT; walk_at "rdn"; exact h) (fun _ => ?_) (fun hc => by cases hc)
          unfold oT
          walk_at "rdn"
          exact hN' _ ⟨l, some t, _, rfl, rfl, go, hz'⟩
        | some b =>
          obtain ⟨zt1, zt2⟩ := hz t (.inr (by simp))
          obtain ⟨zb1, zb2⟩ := hz b (.inl rfl)
          by_cases c : t.1 * b.2 < b.1 * t.2
          · refine if_run true (fun Q h => ?_) (fun _ => ?_) (fun hc => by cases hc)
            · unfold oT
              walk_at "rdn"
              refine ⟨_, opMul_ok zt1 zb2 (by decide), _, opMul_ok zb1 zt2 (by decide), _, rfl, _, rfl, ?_⟩
              show Q (decide (t.1 * b.2 < b.1 * t.2)) _
              rw [decide_eq_true c]
              exact h
            · unfold oT
              walk_at "rdn"
              refine hN' _ ⟨l, some t, _, rfl, rfl, ?_, ?_⟩
              · rw [← go]
                show _ = earlG (if t.1 * b.2 < b.1 * t.2 then some t else some b) l
                rw [if_pos c]
              · intro u hu
                refine hz' u ?_
                show (if t.1 * b.2 < b.1 * t.2 then some t else some b) = some u ∨ _
                rw [if_pos c]
                exact hu
          · refine if_run false (fun Q h => ?_) (fun hc => by cases hc) (fun _ => ?_)
            · unfold oT
              walk_at "rdn"
              refine ⟨_, opMul_ok zt1 zb2 (by decide), _, opMul_ok zb1 zt2 (by decide), _, rfl, _, rfl, ?_⟩
              show Q (decide (t.1 * b.2 < b.1 * t.2)) _
              rw [decide_eq_false c]
              exact h
            · walk_at "rdn"
              refine hN' _ ⟨l, some b, _, rfl, rfl, ?_, ?_⟩
              · rw [← go]
                show _ = earlG (if t.1 * b.2 < b.1 * t.2 then some t else some b) l
                rw [if_neg c]
              · intro u hu
                refine hz' u ?_
                show (if t.1 * b.2 < b.1 * t.2 then some t else some b) = some u ∨ _
                rw [if_neg c]
                exact hu
  · rintro s ⟨l, b, x2, hr, rfl, he, hz⟩
    cases l with
    | cons o l => cases hr
    | nil =>
      have go : b = earl ts := he
      subst hN
      walk_at "rdn"
      rw [go]
      exact q
section
variable {P : Program} {w : World} {K : PySem.W.Frag} {mg : Str → Option Value} {base : Heap} {CN : String → Option Addr}
theorem ok_earliest {f : Addr} {fd : FuncData} (F : Fun K "earliest" "earliest" s_earliest f fd) (g : G K mg CN)  : FnG P w K mg base 1 f fd ["times"] (spP K CN D_earliest) := by
  have sc := sc_earliest
  exact fun_okP (m := m_earliest) F sc (by decide) len_earliest (fun cdv A outer s H E C W hw hr tk =>
    (pds_cons (pds_asg (ps_asg pd_non (dg 1 sc.nd)))
    (pds_cons (pds_for (ps_for psw rfl (pdi_seq (dv 0)) (dg 2 sc.nd) (pds_cons (pds_if (pdt_cmp op_isN rl_isN (dv 2) pd_non (nomark _)) (pds_one pds_cont) pds_nil)
    (pds_one (pds_if (pdt_ofw (pdw_or (pdt_cmp op_isN rl_isN (dv 1) pd_non (nomark _)) (pdw_or1 (pdt_cmp op_lt rl_cmpI (pd_op or_mul rl_mul (pd_ix ix_seq rl_ix (dv 2) pd_int) (pd_ix ix_seq rl_ix (dv 1) pd_int)) (pd_op or_mul rl_mul (pd_ix ix_seq rl_ix (dv 1) pd_int) (pd_ix ix_seq rl_ix (dv 2) pd_int)) (nomark _))))) (pds_one (pds_asg (ps_asg (dv 2) (dg 1 sc.nd)))) pds_nil)))))
    (pds_one (pds_ret (pdr_of (dv 1))))))) rd_earliest
end
def m__line_of (W : WD) : MS :=
  mSeq (mIf (mT (mOp2 opLt (mVar 2) (mC (.int 0)))) (mRet (mrOf (mTup (mCons (mVar 0) (mCons (mOp1 opNeg (mVar 1)) (mCons (mOp1 opNeg (mVar 2)) (mNil))))))) (mNext))
  (mRet (mrOf (mTup (mCons (mVar 0) (mCons (mVar 1) (mCons (mVar 2) (mNil)))))))
def lineD (s a v : Int) : PyData := if v < 0 then .tuple [.int s, .int (-a), .int (-v)] else .tuple [.int s, .int a, .int v]
def D__line_of : PSpec := fun ds Q _ => ∃ s a v, ds = [.int s, .int a, .int v] ∧ Q (.va (lineD s a v))
theorem len__line_of : ∀ ds Q E, D__line_of ds Q E → ds.length = 3 := by
  rintro _ Q E ⟨s, a, v, rfl, _⟩
  rfl
theorem rd__line_of : ∀ ds Q E, D__line_of ds Q E → m__line_of (fun c _ => E c) (endP Q) (slots0 3 ds) := by
  rintro _ Q E ⟨s, a, v, rfl, q⟩
  unfold m__line_of
  walk_at "rdm"
  by_cases h : v < 0
  · rw [if_pos (decide_eq_true h)]
    rw [lineD, if_pos h] at q
    exact q
  · rw [if_neg (by simpa using h)]
    rw [lineD, if_neg h] at q
    exact q
theorem lineD_eq (s a v : Int) : lineD s a v = .tuple [.int s, .int (lineA v a), .int (lineV v)] := by
  unfold lineD lineA lineV
  by_cases h : v < 0
  · rw [if_pos h, if_pos h, if_pos h]
  · rw [if_neg h, if_neg h, if_neg h]
theorem sz_lineA {k : Nat} {v a : Int} (h : sz k a) : sz k (lineA v a) := by
  unfold lineA
  split
  · exact sz_neg h
  · exact h
theorem sz_lineV {k : Nat} {v : Int} (h : sz k v) : sz k (lineV v) := by
  unfold lineV
  split
  · exact sz_neg h
  · exact h
section
variable {P : Program} {w : World} {K : PySem.W.Frag} {mg : Str → Option Value} {base : Heap} {CN : String → Option Addr}
theorem ok__line_of {f : Addr} {fd : FuncData} (F : Fun K "_line_of" "_line_of" s__line_of f fd) (g : G K mg CN)  : FnG P w K mg base 1 f fd ["side", "start", "speed"] (spP K CN D__line_of) := by
  have sc := sc__line_of
  exact fun_okP (m := m__line_of) F sc (by decide) len__line_of (fun cdv A outer s H E C W hw hr tk =>
    (pds_cons (pds_if (pdt_cmp op_lt rl_cmpI (dv 2) pd_int (nomark _)) (pds_one (pds_ret (pdr_of (pd_tup (pda_cons (dv 0) (pda_cons (pd_un un_neg rl_neg (dv 1)) (pda_cons (pd_un un_neg rl_neg (dv 2)) pda_nil))))))) pds_nil)
    (pds_one (pds_ret (pdr_of (pd_tup (pda_cons (dv 0) (pda_cons (dv 1) (pda_cons (dv 2) pda_nil))))))))) rd__line_of
end
def m_lines_of (W : WD) : MS :=
  mSeq (mAsg (mVar 0) (mgTup 2 (mgCons (mgName 2) (mgCons (mgName 3) (mgNil)))))
  (mSeq (mAsg (mVar 1) (mgTup 4 (mgCons (mgName 4) (mgCons (mgName 5) (mgCons (mgName 6) (mgCons (mgName 7) (mgNil)))))))
  (mRet (mrOf (mTup (mCons (mCall D__line_of W (mCons (mVar 2) (mCons (mVar 4) (mCons (mVar 6) (mNil))))) (mCons (mCall D__line_of W (mCons (mVar 3) (mCons (mVar 5) (mCons (mVar 7) (mNil))))) (mNil)))))))
def D_lines_of : PSpec := fun ds Q _ => ∃ a b x y p q, ds = [.tuple [.int a, .int b], .tuple [.int x, .int y, .int p, .int q]] ∧ Q (.va (.tuple [lineD a x p, lineD b y q]))
theorem len_lines_of : ∀ ds Q E, D_lines_of ds Q E → ds.length = 2 := by
  rintro _ Q E ⟨a, b, x, y, p, q, rfl, _⟩
  rfl
theorem rd_lines_of : ∀ ds Q E, D_lines_of ds Q E → m_lines_of (fun c _ => E c) (endP Q) (slots0 8 ds) := by
  rintro _ Q E ⟨a, b, x, y, p, q, rfl, hq⟩
  unfold m_lines_of
  walk_at "rdm"
  exact ⟨_, rfl, rfl, _, _, rfl, _, _, rfl, rfl, _, rfl, rfl, _, _, rfl, _, _, rfl, _, _, rfl, _, _, rfl, rfl, _, _, _, rfl, _, rfl, _, _, _, rfl, _, rfl, hq⟩
section
variable {P : Program} {w : World} {K : PySem.W.Frag} {mg : Str → Option Value} {base : Heap} {CN : String → Option Addr}
theorem ok_lines_of {f : Addr} {fd : FuncData} (F : Fun K "lines_of" "lines_of" s_lines_of f fd) (g : G K mg CN) (c__line_of : CalP P w K mg base CN 1 "_line_of" D__line_of) : FnG P w K mg base 2 f fd ["table", "shot"] (spP K CN D_lines_of) := by
  have sc := sc_lines_of
  exact fun_okP (m := m_lines_of) F sc (by decide) len_lines_of (fun cdv A outer s H E C W hw hr tk =>
    (pds_cons (pds_asg (ps_asg (dv 0) (pdg_tup rfl (gcons (dg 2 sc.nd) (gcons (dg 3 sc.nd) pdgs_nil)))))
    (pds_cons (pds_asg (ps_asg (dv 1) (pdg_tup rfl (gcons (dg 4 sc.nd) (gcons (dg 5 sc.nd) (gcons (dg 6 sc.nd) (gcons (dg 7 sc.nd) pdgs_nil)))))))
    (pds_one (pds_ret (pdr_of (pd_tup (pda_cons (pd_call c__line_of hr (by decide) tk (pda_cons (dv 2) (pda_cons (dv 4) (pda_cons (dv 6) pda_nil)))) (pda_cons (pd_call c__line_of hr (by decide) tk (pda_cons (dv 3) (pda_cons (dv 5) (pda_cons (dv 7) pda_nil)))) pda_nil))))))))) rd_lines_of
end
def m_mark_from (W : WD) : MS :=
  mRet (mrOf (mOp2 opAdd (mVar 0) (mOp2 opMod (mOp2 opSub (mVar 1) (mVar 0)) (mVar 2))))
def D_mark_from : PSpec := fun ds Q _ => ∃ a r s, ds = [.int a, .int r, .int s] ∧ 1 ≤ s ∧ Q (.va (.int (a + (r - a) % s)))
theorem len_mark_from : ∀ ds Q E, D_mark_from ds Q E → ds.length = 3 := by
  rintro _ Q E ⟨a, r, s, rfl, _⟩
  rfl
theorem rd_mark_from : ∀ ds Q E, D_mark_from ds Q E → m_mark_from (fun c _ => E c) (endP Q) (slots0 3 ds) := by
  rintro _ Q E ⟨a, r, s, rfl, h, q⟩
  unfold m_mark_from
  walk_at "rdn"
  exact ⟨_, opMod_ok (by omega), _, rfl, q⟩
section
variable {P : Program} {w : World} {K : PySem.W.Frag} {mg : Str → Option Value} {base : Heap} {CN : String → Option Addr}
theorem ok_mark_from {f : Addr} {fd : FuncData} (F : Fun K "mark_from" "mark_from" s_mark_from f fd) (g : G K mg CN)  : FnG P w K mg base 1 f fd ["number", "rest", "step"] (spP K CN D_mark_from) := by
  have sc := sc_mark_from
  exact fun_okP (m := m_mark_from) F sc (by decide) len_mark_from (fun cdv A outer s H E C W hw hr tk =>
    (pds_one (pds_ret (pdr_of (pd_op or_add rl_add (dv 0) (pd_op op_mod rl_mod (pd_op op_sub rl_sub (dv 1) (dv 0)) (dv 2))))))) rd_mark_from
end
def m_mark_time (W : WD) : MS :=
  mSeq (mAsg (mVar 0) (mgTup 3 (mgCons (mgName 2) (mgCons (mgName 3) (mgCons (mgName 4) (mgNil))))))
  (mRet (mrOf (mCall D_fraction_of W (mCons (mOp2 opSub (mVar 1) (mVar 3)) (mCons (mVar 4) (mNil))))))
def D_mark_time : PSpec := fun ds Q _ => ∃ s a v m, ds = [.tuple [.int s, .int a, .int v], .int m] ∧ 1 ≤ v ∧ sz 8000 v ∧ Q (.va (fracD (m - a) v))
theorem len_mark_time : ∀ ds Q E, D_mark_time ds Q E → ds.length = 2 := by
  rintro _ Q E ⟨s, a, v, m, rfl, _⟩
  rfl
theorem rd_mark_time : ∀ ds Q E, D_mark_time ds Q E → m_mark_time (fun c _ => E c) (endP Q) (slots0 5 ds) := by
  rintro _ Q E ⟨s, a, v, m, rfl, h1, h2, q⟩
  unfold m_mark_time
  walk_at "rdn"
  exact ⟨_, _, rfl, h1, h2, _, rfl, q⟩
section
variable {P : Program} {w : World} {K : PySem.W.Frag} {mg : Str → Option Value} {base : Heap} {CN : String → Option Addr}
theorem ok_mark_time {f : Addr} {fd : FuncData} (F : Fun K "mark_time" "mark_time" s_mark_time f fd) (g : G K mg CN) (c_fraction_of : CalP P w K mg base CN 1 "fraction_of" D_fraction_of) : FnG P w K mg base 2 f fd ["line", "mark"] (spP K CN D_mark_time) := by
  have sc := sc_mark_time
  exact fun_okP (m := m_mark_time) F sc (by decide) len_mark_time (fun cdv A outer s H E C W hw hr tk =>
    (pds_cons (pds_asg (ps_asg (dv 0) (pdg_tup rfl (gcons (dg 2 sc.nd) (gcons (dg 3 sc.nd) (gcons (dg 4 sc.nd) pdgs_nil))))))
    (pds_one (pds_ret (pdr_of (pd_call c_fraction_of hr (by decide) tk (pda_cons (pd_op op_sub rl_sub (dv 1) (dv 3)) (pda_cons (dv 4) pda_nil)))))))) rd_mark_time
end
end LW
namespace LW
open PySem PySem.Spec PyProof.Rows L2 DL
def m_marks_passed (W : WD) : MS :=
  mSeq (mAsg (mVar 0) (mgTup 3 (mgCons (mgName 4) (mgCons (mgName 5) (mgCons (mgName 6) (mgNil))))))
  (mSeq (mAsg (mVar 3) (mgTup 2 (mgCons (mgName 7) (mgCons (mgName 8) (mgNil)))))
  (mSeq (mAsg (mOp2 opAdd (mVar 5) (mOp2 opFdiv (mOp2 opMul (mVar 6) (mVar 7)) (mVar 8))) (mgName 9))
  (mSeq (mIf (mT (mOp2 opLt (mVar 9) (mVar 1))) (mRet (mrOf (mC (.int 0)))) (mNext))
  (mRet (mrOf (mOp2 opAdd (mOp2 opFdiv (mOp2 opSub (mVar 9) (mVar 1)) (mVar 2)) (mC (.int 1))))))))
def D_marks_passed : PSpec := fun ds Q _ => ∃ s a v f st t u, ds = [.tuple [.int s, .int a, .int v], .int f, .int st, .tuple [.int t, .int u]] ∧ 1 ≤ st ∧ 1 ≤ u ∧ sz 8000 v ∧ sz 8000 t ∧ sz 8000 u ∧ sz 8000 st ∧ Q (.va (.int (passed a v f st t u)))
theorem len_marks_passed : ∀ ds Q E, D_marks_passed ds Q E → ds.length = 4 := by
  rintro _ Q E ⟨s, a, v, f, st, t, u, rfl, _⟩
  rfl
theorem rd_marks_passed : ∀ ds Q E, D_marks_passed ds Q E → m_marks_passed (fun c _ => E c) (endP Q) (slots0 10 ds) := by
  rintro _ Q E ⟨s, a, v, f, st, t, u, rfl, h1, h2, zv, zt, zu, zs, q⟩
  unfold m_marks_passed
  unfold passed at q
  walk_at "rdn"
  refine ⟨_, opMul_ok zv zt (by decide), _, opFdiv_ok (by omega) zu (by decide), _, rfl, _, rfl, _, rfl, ?_⟩
  by_cases c : a + v * t / u < f
  · rw [if_pos (decide_eq_true c)]
    rw [if_pos c] at q
    exact q
  · rw [if_neg (by simpa using c)]
    rw [if_neg c] at q
    exact ⟨_, rfl, _, opFdiv_ok (by omega) zs (by decide), _, rfl, q⟩
section
variable {P : Program} {w : World} {K : PySem.W.Frag} {mg : Str → Option Value} {base : Heap} {CN : String → Option Addr}
theorem ok_marks_passed {f : Addr} {fd : FuncData} (F : Fun K "marks_passed" "marks_passed" s_marks_passed f fd) (g : G K mg CN)  : FnG P w K mg base 1 f fd ["line", "first", "step", "time"] (spP K CN D_marks_passed) := by
  have sc := sc_marks_passed
  exact fun_okP (m := m_marks_passed) F sc (by decide) len_marks_passed (fun cdv A outer s H E C W hw hr tk =>
    (pds_cons (pds_asg (ps_asg (dv 0) (pdg_tup rfl (gcons (dg 4 sc.nd) (gcons (dg 5 sc.nd) (gcons (dg 6 sc.nd) pdgs_nil))))))
    (pds_cons (pds_asg (ps_asg (dv 3) (pdg_tup rfl (gcons (dg 7 sc.nd) (gcons (dg 8 sc.nd) pdgs_nil)))))
    (pds_cons (pds_asg (ps_asg (pd_op or_add rl_add (dv 5) (pd_op op_fdivW rl_fdiv (pd_op or_mul rl_mul (dv 6) (dv 7)) (dv 8))) (dg 9 sc.nd)))
    (pds_cons (pds_if (pdt_cmp op_lt rl_cmpI (dv 9) (dv 1) (nomark _)) (pds_one (pds_ret (pdr_of pd_int))) pds_nil)
    (pds_one (pds_ret (pdr_of (pd_op or_add rl_add (pd_op op_fdivW rl_fdiv (pd_op op_sub rl_sub (dv 9) (dv 1)) (dv 2)) pd_int))))))))) rd_marks_passed
end
def m_other_at_marks (W : WD) : MS :=
  mSeq (mAsg (mVar 0) (mgTup 3 (mgCons (mgName 4) (mgCons (mgName 5) (mgCons (mgName 6) (mgNil))))))
  (mSeq (mAsg (mVar 3) (mgTup 3 (mgCons (mgName 4) (mgCons (mgName 7) (mgCons (mgName 8) (mgNil))))))
  (mRet (mrOf (mTup (mCons (mOp2 opMul (mVar 8) (mVar 2)) (mCons (mOp2 opAdd (mOp2 opMul (mVar 7) (mVar 6)) (mOp2 opMul (mVar 8) (mOp2 opSub (mVar 1) (mVar 5)))) (mNil)))))))
def D_other_at_marks : PSpec := fun ds Q _ => ∃ s a v f st s' a' v', ds = [.tuple [.int s, .int a, .int v], .int f, .int st, .tuple [.int s', .int a', .int v']] ∧ sz 2000 a ∧ sz 2000 v ∧ sz 2000 f ∧ sz 2000 st ∧ sz 2000 a' ∧ sz 2000 v' ∧ Q (.va (.tuple [.int (v' * st), .int (a' * v + v' * (f - a))]))
theorem len_other_at_marks : ∀ ds Q E, D_other_at_marks ds Q E → ds.length = 4 := by
  rintro _ Q E ⟨s, a, v, f, st, s', a', v', rfl, _⟩
  rfl
theorem rd_other_at_marks : ∀ ds Q E, D_other_at_marks ds Q E → m_other_at_marks (fun c _ => E c) (endP Q) (slots0 9 ds) := by
  rintro _ Q E ⟨s, a, v, f, st, s', a', v', rfl, za, zv, zf, zst, za', zv', q⟩
  unfold m_other_at_marks
  walk_at "rdn"
  exact ⟨_, opMul_ok zv' zst (by decide), _, opMul_ok za' zv (by decide), _, opMul_ok zv' (sz_sub zf za) (by decide), _, rfl, q⟩
section
variable {P : Program} {w : World} {K : PySem.W.Frag} {mg : Str → Option Value} {base : Heap} {CN : String → Option Addr}
theorem ok_other_at_marks {f : Addr} {fd : FuncData} (F : Fun K "other_at_marks" "other_at_marks" s_other_at_marks f fd) (g : G K mg CN)  : FnG P w K mg base 1 f fd ["line", "first", "step", "other"] (spP K CN D_other_at_marks) := by
  have sc := sc_other_at_marks
  exact fun_okP (m := m_other_at_marks) F sc (by decide) len_other_at_marks (fun cdv A outer s H E C W hw hr tk =>
    (pds_cons (pds_asg (ps_asg (dv 0) (pdg_tup rfl (gcons (dg 4 sc.nd) (gcons (dg 5 sc.nd) (gcons (dg 6 sc.nd) pdgs_nil))))))
    (pds_cons (pds_asg (ps_asg (dv 3) (pdg_tup rfl (gcons (dg 4 sc.nd) (gcons (dg 7 sc.nd) (gcons (dg 8 sc.nd) pdgs_nil))))))
    (pds_one (pds_ret (pdr_of (pd_tup (pda_cons (pd_op or_mul rl_mul (dv 8) (dv 2)) (pda_cons (pd_op or_add rl_add (pd_op or_mul rl_mul (dv 7) (dv 6)) (pd_op or_mul rl_mul (dv 8) (pd_op op_sub rl_sub (dv 1) (dv 5)))) pda_nil))))))))) rd_other_at_marks
end
end LW
namespace LW
open PySem PySem.Spec PyProof.Rows L2 DL
/-- a number folds to what lies from l to h -/
def InR (s l h z m : Int) : Prop := l * m ≤ foldI s z m ∧ foldI s z m ≤ h * m
def spansL (l h s : Int) : List (Int × Int) := if l = 0 then [(-h, h)] else if h = s then [(l, 2 * s - l)] else [(-h, -l), (l, h)]
theorem emod_at {z M r j : Int} (h : z = r + M * j) (r0 : 0 ≤ r) (r1 : r < M) : z % M = r := by
  subst h
  rw [Int.add_mul_emod_self_left]
  exact Int.emod_eq_of_lt r0 r1
theorem in_spans {s l h z m : Int} (s1 : 1 ≤ s) (l0 : 0 ≤ l) (lh : l ≤ h) (hs : h ≤ s) (m1 : 1 ≤ m) : InR s l h z m ↔ ∃ u ∈ spansL l h s, ∃ j : Int, u.1 * m ≤ z - 2 * s * m * j ∧ z - 2 * s * m * j ≤ u.2 * m := by
  have S1 : 1 ≤ s * m := Int.mul_pos (by omega) (by omega)
  have L0 : 0 ≤ l * m := Int.mul_nonneg l0 (by omega)
  have LH : l * m ≤ h * m := Int.mul_le_mul_of_nonneg_right lh (by omega)
  have HS : h * m ≤ s * m := Int.mul_le_mul_of_nonneg_right hs (by omega)
  have e0 : 2 * s * m = 2 * (s * m) := Int.mul_assoc _ _ _
  have n1 : -h * m = -(h * m) := Int.neg_mul _ _
  have n2 : -l * m = -(l * m) := Int.neg_mul _ _
  have n3 : (2 * s - l) * m = 2 * (s * m) - l * m := by rw [Int.sub_mul, Int.mul_assoc]
  have z1 : l = 0 → l * m = 0 := fun e => by rw [e, Int.zero_mul]
  have z2 : h = s → h * m = s * m := fun e => by rw [e]
  unfold InR foldI
  rw [e0]
  have rr := Int.emod_add_mul_ediv z (2 * (s * m))
  have r0 := Int.emod_nonneg z (show 2 * (s * m) ≠ 0 by omega)
  have r1 := Int.emod_lt_of_pos z (show 0 < 2 * (s * m) by omega)
  constructor
  · intro hin
    generalize z / (2 * (s * m)) = q at *
    have back : ∀ j : Int, z - 2 * (s * m) * (q + j) = z % (2 * (s * m)) - 2 * (s * m) * j := fun j => by rw [Int.mul_add]; omega
    have b0 := back 0
    have b1 := back 1
    rw [Int.mul_zero, Int.sub_zero, Int.add_zero] at b0
    rw [Int.mul_one] at b1
    generalize hr : z % (2 * (s * m)) = r at *
    unfold spansL
    by_cases c : r ≤ s * m
    · rw [if_pos c] at hin
      by_cases c1 : l = 0
      · rw [if_pos c1]
        exact ⟨(-h, h), by simp, q, by rw [n1, b0]; omega, by rw [b0]; exact hin.2⟩
      · rw [if_neg c1]
        by_cases c2 : h = s
        · rw [if_pos c2]
          exact ⟨(l, 2 * s - l), by simp, q, by rw [b0]; exact hin.1, by rw [n3, b0]; omega⟩
        · rw [if_neg c2]
          exact ⟨(l, h), by simp, q, by rw [b0]; exact hin.1, by rw [b0]; exact hin.2⟩
    · rw [if_neg c] at hin
      by_cases c1 : l = 0
      · rw [if_pos c1]
        exact ⟨(-h, h), by simp, q + 1, by rw [n1, b1]; omega, by show _ ≤ h * m; rw [b1]; omega⟩
      · rw [if_neg c1]
        by_cases c2 : h = s
        · rw [if_pos c2]
          exact ⟨(l, 2 * s - l), by simp, q, by show l * m ≤ _; rw [b0]; omega, by rw [n3, b0]; omega⟩
        · rw [if_neg c2]
          exact ⟨(-h, -l), by simp, q + 1, by rw [n1, b1]; omega, by rw [n2, b1]; omega⟩
  · rintro ⟨u, hu, j, h1, h2⟩
    clear rr
    have at0 : ∀ w : Int, z - 2 * (s * m) * j = w → 0 ≤ w → w < 2 * (s * m) → z % (2 * (s * m)) = w := fun w e w0 w1 => emod_at (j := j) (by omega) w0 w1
    have at1 : ∀ w : Int, z - 2 * (s * m) * j = w → w < 0 → -(2 * (s * m)) ≤ w → z % (2 * (s * m)) = w + 2 * (s * m) := fun w e w0 w1 => emod_at (j := j - 1) (by rw [Int.mul_sub, Int.mul_one]; omega) (by omega) (by omega)
    generalize hw : z - 2 * (s * m) * j = w at *
    generalize z % (2 * (s * m)) = r at *
    have key : (0 ≤ w ∧ w < 2 * (s * m) ∧ r = w) ∨ (w < 0 ∧ -(2 * (s * m)) ≤ w ∧ r = w + 2 * (s * m)) → (l * m ≤ w ∧ w ≤ h * m) ∨ (l * m ≤ -w ∧ -w ≤ h * m) ∨ (l * m ≤ 2 * (s * m) - w ∧ 2 * (s * m) - w ≤ h * m) → l * m ≤ (if r ≤ s * m then r else 2 * (s * m) - r) ∧ (if r ≤ s * m then r else 2 * (s * m) - r) ≤ h * m := by
      rintro (⟨w0, w1, rfl⟩ | ⟨w0, w1, rfl⟩) <;> split <;> omega
    refine key ?_ ?_
    · unfold spansL at hu
      by_cases w0 : 0 ≤ w
      · refine .inl ?_
        have w1 : w < 2 * (s * m) := by
          by_cases c1 : l = 0
          · rw [if_pos c1] at hu
            simp only [List.mem_singleton] at hu
            subst hu
            have h2 : w ≤ h * m := h2
            omega
          · rw [if_neg c1] at hu
            have lp : 0 < l * m := Int.mul_pos (by omega) (by omega)
            by_cases c2 : h = s
            · rw [if_pos c2] at hu
              simp only [List.mem_singleton] at hu
              subst hu
              have h2 : w ≤ (2 * s - l) * m := h2
              omega
            · rw [if_neg c2] at hu
              simp only [List.mem_cons, List.not_mem_nil, or_false] at hu
              rcases hu with rfl | rfl
              · have h2 : w ≤ -l * m := h2
                omega
              · have h2 : w ≤ h * m := h2
                omega
        exact ⟨w0, w1, at0 w rfl w0 w1⟩
      · refine .inr ?_
        have w1 : -(2 * (s * m)) ≤ w := by
          by_cases c1 : l = 0
          · rw [if_pos c1] at hu
            simp only [List.mem_singleton] at hu
            subst hu
            have h1 : -h * m ≤ w := h1
            omega
          · rw [if_neg c1] at hu
            by_cases c2 : h = s
            · rw [if_pos c2] at hu
              simp only [List.mem_singleton] at hu
              subst hu
              have h1 : l * m ≤ w := h1
              omega
            · rw [if_neg c2] at hu
              simp only [List.mem_cons, List.not_mem_nil, or_false] at hu
              rcases hu with rfl | rfl
              · have h1 : -h * m ≤ w := h1
                omega
              · have h1 : l * m ≤ w := h1
                omega
        exact ⟨by omega, w1, at1 w rfl (by omega) w1⟩
    · unfold spansL at hu
      by_cases c1 : l = 0
      · rw [if_pos c1] at hu
        simp only [List.mem_singleton] at hu
        subst hu
        have h1 : -h * m ≤ w := h1
        have h2 : w ≤ h * m := h2
        have := z1 c1
        omega
      · rw [if_neg c1] at hu
        by_cases c2 : h = s
        · rw [if_pos c2] at hu
          simp only [List.mem_singleton] at hu
          subst hu
          have h1 : l * m ≤ w := h1
          have h2 : w ≤ (2 * s - l) * m := h2
          have := z2 c2
          omega
        · rw [if_neg c2] at hu
          simp only [List.mem_cons, List.not_mem_nil, or_false] at hu
          rcases hu with rfl | rfl
          · have h1 : -h * m ≤ w := h1
            have h2 : w ≤ -l * m := h2
            omega
          · have h1 : l * m ≤ w := h1
            have h2 : w ≤ h * m := h2
            omega
end LW
namespace LW
open PySem PySem.Spec PyProof.Rows L2 DL
def m_spans (W : WD) : MS :=
  mSeq (mIf (mT (mOp2 opEq (mVar 0) (mC (.int 0)))) (mRet (mrOf (mLst (mCons (mTup (mCons (mOp1 opNeg (mVar 1)) (mCons (mVar 1) (mNil)))) (mNil))))) (mNext))
  (mSeq (mIf (mT (mOp2 opEq (mVar 1) (mVar 2))) (mRet (mrOf (mLst (mCons (mTup (mCons (mVar 0) (mCons (mOp2 opSub (mOp2 opMul (mC (.int 2)) (mVar 2)) (mVar 0)) (mNil)))) (mNil))))) (mNext))
  (mRet (mrOf (mLst (mCons (mTup (mCons (mOp1 opNeg (mVar 1)) (mCons (mOp1 opNeg (mVar 0)) (mNil)))) (mCons (mTup (mCons (mVar 0) (mCons (mVar 1) (mNil)))) (mNil)))))))
def prD (u : Int × Int) : PyData := .tuple [.int u.1, .int u.2]
def D_spans : PSpec := fun ds Q _ => ∃ l h s, ds = [.int l, .int h, .int s] ∧ sz 2000 s ∧ Q (.va (.list ((spansL l h s).map prD)))
theorem len_spans : ∀ ds Q E, D_spans ds Q E → ds.length = 3 := by
  rintro _ Q E ⟨l, h, s, rfl, _⟩
  rfl
theorem rd_spans : ∀ ds Q E, D_spans ds Q E → m_spans (fun c _ => E c) (endP Q) (slots0 3 ds) := by
  rintro _ Q E ⟨l, h, s, rfl, zs, q⟩
  unfold m_spans
  unfold spansL at q
  by_cases c1 : l = 0
  · refine seq_step fun N hN => ?_
    refine if_run true (fun Q h => ?_) (fun _ => ?_) (fun hc => by cases hc)
    · walk_at "rdn"
      rw [decide_eq_true c1]
      exact h
    walk_at "rdn"
    rw [if_pos c1] at q
    exact q
  refine seq_step fun N hN => ?_
  refine if_run false (fun Q h => ?_) (fun hc => by cases hc) (fun _ => ?_)
  · walk_at "rdn"
    rw [decide_eq_false c1]
    exact h
  walk_at "rdn"
  subst hN
  rw [if_neg c1] at q
  by_cases c2 : h = s
  · refine seq_step fun N hN => ?_
    refine if_run true (fun Q h => ?_) (fun _ => ?_) (fun hc => by cases hc)
    · walk_at "rdn"
      rw [decide_eq_true c2]
      exact h
    walk_at "rdn"
    rw [if_pos c2] at q
    exact ⟨_, opMul_ok (show sz 2 2 by unfold sz; decide) zs (by decide), _, rfl, q⟩
  refine seq_step fun N hN => ?_
  refine if_run false (fun Q h => ?_) (fun hc => by cases hc) (fun _ => ?_)
  · walk_at "rdn"
    rw [decide_eq_false c2]
    exact h
  walk_at "rdn"
  subst hN
  rw [if_neg c2] at q
  walk_at "rdn"
  exact q
section
variable {P : Program} {w : World} {K : PySem.W.Frag} {mg : Str → Option Value} {base : Heap} {CN : String → Option Addr}
theorem ok_spans {f : Addr} {fd : FuncData} (F : Fun K "spans" "spans" s_spans f fd) (g : G K mg CN)  : FnG P w K mg base 1 f fd ["low", "high", "side"] (spP K CN D_spans) := by
  have sc := sc_spans
  exact fun_okP (m := m_spans) F sc (by decide) len_spans (fun cdv A outer s H E C W hw hr tk =>
    (pds_cons (pds_if (pdt_cmp (or_eqD (RoomG.u64 hr)) rl_eq (dv 0) pd_int (nomark _)) (pds_one (pds_ret (pdr_of (pd_lst (pda_cons (pd_tup (pda_cons (pd_un un_neg rl_neg (dv 1)) (pda_cons (dv 1) pda_nil))) pda_nil))))) pds_nil)
    (pds_cons (pds_if (pdt_cmp (or_eqD (RoomG.u64 hr)) rl_eq (dv 1) (dv 2) (nomark _)) (pds_one (pds_ret (pdr_of (pd_lst (pda_cons (pd_tup (pda_cons (dv 0) (pda_cons (pd_op op_sub rl_sub (pd_op or_mul rl_mul pd_int (dv 2)) (dv 0)) pda_nil))) pda_nil))))) pds_nil)
    (pds_one (pds_ret (pdr_of (pd_lst (pda_cons (pd_tup (pda_cons (pd_un un_neg rl_neg (dv 1)) (pda_cons (pd_un un_neg rl_neg (dv 0)) pda_nil))) (pda_cons (pd_tup (pda_cons (dv 0) (pda_cons (dv 1) pda_nil))) pda_nil))))))))) rd_spans
end
def m__first_out (W : WD) : MS :=
  mSeq (mAsg (mVar 0) (mgTup 3 (mgCons (mgName 2) (mgCons (mgName 3) (mgCons (mgName 4) (mgNil))))))
  (mSeq (mAsg (mVar 1) (mgTup 2 (mgCons (mgName 5) (mgCons (mgName 6) (mgNil)))))
  (mSeq (mAsgR 7 (mrLst (mNil)))
  (mSeq (mIf (mT (mOp2 opLt (mVar 2) (mC (.int 0)))) (mApp 7 (mOp1 opNeg (mOp2 opFdiv (mOp1 opNeg (mOp2 opAdd (mVar 3) (mVar 4))) (mOp1 opNeg (mVar 2))))) (mNext))
  (mSeq (mIf (mT (mOp2 opGt (mVar 5) (mC (.int 0)))) (mApp 7 (mOp1 opNeg (mOp2 opFdiv (mVar 6) (mVar 5)))) (mNext))
  (mRet (mrOf (mCallBK bMinD (mCons (mVar 7) (mNil)) (mCons (mC .none) mNil))))))))
def optD : Option Int → PyData
  | none => .none
  | some k => .int k
theorem bMinD_2 {a m : Int} : bMinD [.list [.int a, .int m]] [.none] = some (.int (if m < a then m else a)) := by
  show some (PyData.int (min a m)) = _
  congr 2
  split <;> omega
def D__first_out : PSpec := fun ds Q _ => ∃ g b c G B, ds = [.tuple [.int g, .int b, .int c], .tuple [.int G, .int B]] ∧ sz 8500 g ∧ sz 8500 G ∧ Q (.va (optD (minO (outs g b c G B))))
theorem len__first_out : ∀ ds Q E, D__first_out ds Q E → ds.length = 2 := by
  rintro _ Q E ⟨g, b, c, G, B, rfl, _⟩
  rfl
theorem rd__first_out : ∀ ds Q E, D__first_out ds Q E → m__first_out (fun c _ => E c) (endP Q) (slots0 8 ds) := by
  rintro _ Q E ⟨g, b, c, G, B, rfl, zg, zG, q⟩
  unfold m__first_out
  unfold outs at q
  by_cases hg : g < 0
  · have f1 : opFdiv (.int (-(b + c))) (.int (-g)) = some (.int (-(b + c) / -g)) := opFdiv_ok (by omega) (sz_neg zg) (by decide)
    by_cases hG : G > 0
    · have f2 : opFdiv (.int B) (.int G) = some (.int (B / G)) := opFdiv_ok (by omega) zG (by decide)
      rw [if_pos hg, if_pos hG] at q
      try walk_at "rdn"
      rw [if_pos (decide_eq_true hg)]
      refine ⟨_, f1, _, rfl, by decide, ?_⟩
      try walk_at "rdn"
      rw [if_pos (decide_eq_true hG)]
      refine ⟨_, f2, _, rfl, by decide, ?_⟩
      simp only [mCallBK]
      exact ⟨_, bMinD_2, q⟩
    · rw [if_pos hg, if_neg hG] at q
      try walk_at "rdn"
      rw [if_pos (decide_eq_true hg)]
      refine ⟨_, f1, _, rfl, by decide, ?_⟩
      try walk_at "rdn"
      rw [if_neg (by simpa using hG)]
      simp only [mCallBK]
      try walk_at "rdn"
      exact ⟨_, rfl, q⟩
  · by_cases hG : G > 0
    · have f2 : opFdiv (.int B) (.int G) = some (.int (B / G)) := opFdiv_ok (by omega) zG (by decide)
      rw [if_neg hg, if_pos hG] at q
      try walk_at "rdn"
      rw [if_neg (by simpa using hg), if_pos (decide_eq_true hG)]
      refine ⟨_, f2, _, rfl, by decide, ?_⟩
      simp only [mCallBK]
      try walk_at "rdn"
      exact ⟨_, rfl, q⟩
    · rw [if_neg hg, if_neg hG] at q
      try walk_at "rdn"
      rw [if_neg (by simpa using hg), if_neg (by simpa using hG)]
      simp only [mCallBK]
      try walk_at "rdn"
      exact ⟨_, rfl, q⟩
section
variable {P : Program} {w : World} {K : PySem.W.Frag} {mg : Str → Option Value} {base : Heap} {CN : String → Option Addr}
theorem ok__first_out {f : Addr} {fd : FuncData} (F : Fun K "_first_out" "_first_out" s__first_out f fd) (g : G K mg CN)  : FnG P w K mg base 1 f fd ["lower", "upper"] (spP K CN D__first_out) := by
  have sc := sc__first_out
  exact fun_okP (m := m__first_out) F sc (by decide) len__first_out (fun cdv A outer s H E C W hw hr tk =>
    (pds_cons (pds_asg (ps_asg (dv 0) (pdg_tup rfl (gcons (dg 2 sc.nd) (gcons (dg 3 sc.nd) (gcons (dg 4 sc.nd) pdgs_nil))))))
    (pds_cons (pds_asg (ps_asg (dv 1) (pdg_tup rfl (gcons (dg 5 sc.nd) (gcons (dg 6 sc.nd) pdgs_nil)))))
    (pds_cons (pds_asgR (ps_set (i := 7) sc.nd rfl (.inl rfl) (pdr_lst pda_nil)))
    (pds_cons (pds_if (pdt_cmp op_lt rl_cmpI (dv 2) pd_int (nomark _)) (pds_one (pds_app (ps_expr (pe_bm PySem.F.plainAttrs_list PySem.F.slot_list_append PySem.F.type_list_append mt_append (pv 7) (pa_cons (pd_un un_neg rl_neg (pd_op op_fdivW rl_fdiv (pd_un un_neg rl_neg (pd_op or_add rl_add (dv 3) (dv 4))) (pd_un un_neg rl_neg (dv 2)))) pa_nil))))) pds_nil)
    (pds_cons (pds_if (pdt_cmp op_gt rl_cmpI (dv 5) pd_int (nomark _)) (pds_one (pds_app (ps_expr (pe_bm PySem.F.plainAttrs_list PySem.F.slot_list_append PySem.F.type_list_append mt_append (pv 7) (pa_cons (pd_un un_neg rl_neg (pd_op op_fdivW rl_fdiv (dv 6) (dv 5))) pa_nil))))) pds_nil)
    (pds_one (pds_ret (pdr_of (pd_minD rfl hr.r.units g.b_min (pda_cons (dv 7) pda_nil) (pdk_cons pd_non pdk_nil))))))))))) rd__first_out
end
def m_first_between (W : WD) : MS :=
  mSeq (mAsgR 2 (mrLst (mNil)))
  (mSeq (mWhile (mT (mC (.bool true))) (mSeq (mAsg (mVar 0) (mgTup 3 (mgCons (mgName 3) (mgCons (mgName 4) (mgCons (mgName 5) (mgNil))))))
  (mSeq (mAsg (mVar 1) (mgTup 3 (mgCons (mgName 6) (mgCons (mgName 7) (mgCons (mgName 8) (mgNil))))))
  (mSeq (mIf (mT (mOp2 opGt (mOp2 opMul (mVar 4) (mVar 8)) (mOp2 opMul (mVar 7) (mVar 5)))) (mRet (mrOf (mC .none))) (mNext))
  (mSeq (mAsg (mOp1 opNeg (mOp2 opFdiv (mOp1 opNeg (mVar 4)) (mVar 5))) (mgName 9))
  (mSeq (mIf (mT (mOp2 opLe (mOp2 opMul (mVar 9) (mVar 8)) (mVar 7))) (mSeq (mAsg (mC (.int 0)) (mgName 10))
  (mBreak)) (mNext))
  (mSeq (mAsgM [4, 7] [mrOf (mOp2 opSub (mVar 4) (mOp2 opMul (mVar 9) (mVar 5))), mrOf (mOp2 opSub (mVar 7) (mOp2 opMul (mVar 9) (mVar 8)))])
  (mSeq (mAsg (mOp1 opNeg (mOp2 opFdiv (mOp1 opNeg (mVar 3)) (mVar 5))) (mgName 11))
  (mSeq (mIf (mT (mOp2 opLe (mOp2 opMul (mVar 11) (mVar 8)) (mVar 6))) (mSeq (mAsg (mCall D__first_out W (mCons (mTup (mCons (mOp2 opSub (mVar 3) (mOp2 opMul (mVar 11) (mVar 5))) (mCons (mVar 4) (mCons (mVar 5) (mNil))))) (mCons (mTup (mCons (mOp2 opSub (mVar 6) (mOp2 opMul (mVar 11) (mVar 8))) (mCons (mVar 7) (mNil)))) (mNil)))) (mgName 10))
  (mBreak)) (mNext))
  (mSeq (mAsgM [3, 6] [mrOf (mOp2 opMod (mVar 3) (mVar 5)), mrOf (mOp2 opSub (mVar 6) (mOp2 opMul (mOp2 opFdiv (mVar 3) (mVar 5)) (mVar 8)))])
  (mSeq (mIf (mT (mOp2 opLe (mVar 6) (mC (.int 0)))) (mRet (mrOf (mC .none))) (mNext))
  (mSeq (mAsgM [0, 1] [mrOf (mTup (mCons (mVar 8) (mCons (mOp1 opNeg (mVar 7)) (mCons (mVar 6) (mNil))))), mrOf (mTup (mCons (mVar 5) (mCons (mOp1 opNeg (mVar 4)) (mCons (mVar 3) (mNil)))))])
  (mApp 2 (mVar 0))))))))))))))
  (mSeq (mIf (mT (mOp2 opIsN2 (mVar 10) (mC .none))) (mRet (mrOf (mC .none))) (mNext))
  (mSeq (mFor (miRev (mVar 2)) (mgTup 3 (mgCons (mgName 3) (mgCons (mgName 4) (mgCons (mgName 5) (mgNil))))) (mAsg (mOp1 opNeg (mOp2 opFdiv (mOp1 opNeg (mOp2 opAdd (mOp2 opMul (mVar 3) (mVar 10)) (mVar 4))) (mVar 5))) (mgName 10)))
  (mRet (mrOf (mVar 10))))))
def szT (p : Two) : Prop := sz 4000 p.g ∧ sz 4000 p.b ∧ sz 4000 p.c ∧ sz 4000 p.G ∧ sz 4000 p.B ∧ sz 4000 p.C
def lowD (p : Two) : PyData := .tuple [.int p.g, .int p.b, .int p.c]
def upD (p : Two) : PyData := .tuple [.int p.G, .int p.B, .int p.C]
inductive ChainZ (p0 : Two) : List Two → Two → Prop
  | nil : ChainZ p0 [] p0
  | cons {ps p} : ChainZ p0 ps p → (∀ o, p.turn.Ans o → p.Ans (o.map p.back)) → szT p.turn → 1 ≤ p.turn.c → p.I → szT p → ChainZ p0 (p :: ps) p.turn
structure AtB (p0 : Two) (ps : List Two) (p : Two) : Prop where
  ch : ChainZ p0 ps p
  I : p.I
  z : szT p
  len : ps = [] ∨ (0 < p.c ∧ p.c < p.g ∧ 0 < p.C ∧ 2 ^ ps.length * (p.C * p.g).natAbs ≤ 2 ^ 20000)
theorem chain_none {p0 : Two} {ps : List Two} {p : Two} (h : ChainZ p0 ps p) : p.Ans none → p0.Ans none := by
  induction h with
  | nil => exact id
  | cons _ t _ _ _ _ ih => exact fun a => ih (t none a)
theorem AtB.short {p0 p : Two} {ps : List Two} (A : AtB p0 ps p) : ps.length < 100000 := by
  rcases A.len with e | ⟨c0, cg, C0, h⟩
  · rw [e]; decide
  · have pos : 0 < p.C * p.g := Int.mul_pos C0 (by omega)
    have h1 : 2 ^ ps.length ≤ 2 ^ 20000 := Nat.le_trans (Nat.le_mul_of_pos_right _ (by omega)) h
    have := (Nat.pow_le_pow_iff_right (by decide : 1 < 2)).mp h1
    omega
theorem sz_of_le {k : Nat} {a b : Int} (h : sz k b) (h1 : a.natAbs ≤ b.natAbs) : sz k a := Nat.lt_of_le_of_lt h1 h
theorem AtB.next {p0 p : Two} {ps : List Two} (A : AtB p0 ps p) (h0 : p.b * p.C ≤ p.B * p.c) (h : ¬ p.C * p.l ≤ p.B) (hr : ¬ p.C * -(-p.g / p.c) ≤ p.G) : AtB p0 (p :: ps) p.turn ∧ p.turn.c < p.C ∧ p.turn.C < p.c := by
  obtain ⟨I', c0, cC, C0, Cc, ⟨b0, bC⟩, ⟨B0, Bc⟩, back⟩ := p.turns A.I h0 h hr
  obtain ⟨z1, z2, z3, z4, z5, z6⟩ := A.z
  have z' : szT p.turn := ⟨z6, sz_of_le z6 (by omega), sz_of_le z6 (by omega), z3, sz_of_le z3 (by omega), sz_of_le z3 (by omega)⟩
  refine ⟨⟨.cons A.ch back z' (by omega) A.I A.z, I', z', .inr ⟨c0, cC, C0, ?_⟩⟩, cC, Cc⟩
  have tg : p.turn.g = p.C := rfl
  have tC : p.turn.C = p.g % p.c := rfl
  rw [tg, List.length_cons, Nat.pow_succ]
  have C1 := A.I.C1
  rcases A.len with e | ⟨c0', cg, C0', hl⟩
  · rw [e, List.length_nil, Nat.pow_zero, Nat.one_mul, Int.natAbs_mul]
    have a1 : p.turn.C.natAbs < 2 ^ 4000 := z'.2.2.2.2.2
    have a2 : p.C.natAbs < 2 ^ 4000 := z6
    have m := Nat.mul_le_mul (Nat.le_of_lt a1) (Nat.le_of_lt a2)
    rw [← Nat.pow_add] at m
    have m2 := Nat.mul_le_mul_left 2 m
    rw [← Nat.pow_succ'] at m2
    exact Nat.le_trans m2 (Nat.pow_le_pow_right (by decide) (by decide))
  · refine Nat.le_trans ?_ hl
    rw [Nat.mul_assoc]
    refine Nat.mul_le_mul_left _ ?_
    have e := Int.emod_add_mul_ediv p.g p.c
    have e1 := Int.emod_nonneg p.g (show p.c ≠ 0 by omega)
    have e2 := Int.emod_lt_of_pos p.g c0'
    have q1 : 1 ≤ p.g / p.c := by
      refine Classical.byContradiction fun z => ?_
      have := Int.mul_le_mul_of_nonneg_left (show p.g / p.c ≤ 0 by omega) (show 0 ≤ p.c by omega)
      omega
    have q2 := Int.mul_le_mul_of_nonneg_left q1 (show 0 ≤ p.c by omega)
    have half : 2 * p.turn.C ≤ p.g := by rw [tC]; omega
    have m := Int.mul_le_mul_of_nonneg_right half (show 0 ≤ p.C by omega)
    have n1 := Int.mul_nonneg (show 0 ≤ p.turn.C by omega) (show 0 ≤ p.C by omega)
    have n2 := Int.mul_nonneg (show 0 ≤ p.C by omega) (show 0 ≤ p.g by omega)
    rw [Int.mul_assoc, Int.mul_comm p.g] at m
    omega
def ent (p : Two) : PyData := .tuple [.int p.turn.g, .int p.turn.b, .int p.turn.c]
def D_first_between : PSpec := fun ds Q _ => ∃ p : Two, ds = [lowD p, upD p] ∧ p.I ∧ szT p ∧ ∀ o, p.Ans o → Q (.va (optD o))
theorem len_first_between : ∀ ds Q E, D_first_between ds Q E → ds.length = 2 := by
  rintro _ Q E ⟨p, rfl, _⟩
  rfl
theorem rd_first_between : ∀ ds Q E, D_first_between ds Q E → m_first_between (fun c _ => E c) (endP Q) (slots0 12 ds) := by
  rintro _ Q E ⟨p0, rfl, I0, z0, q⟩
  unfold m_first_between
  refine seq_run (fun s => s = [.va (lowD p0), .va (upD p0), .own [], .no, .no, .no, .no, .no, .no, .no, .no, .no]) (fun N1 h1 => ?_) ?_
  · walk_at "rdn"
    exact h1 _ rfl
  rintro _ rfl
  refine seq_run (fun s => ∃ ps p o x0 x1 x3 x4 x5 x6 x7 x8 x9 x11, s = [x0, x1, .own (ps.reverse.map ent), x3, x4, x5, x6, x7, x8, x9, .va (optD o), x11] ∧ AtB p0 ps p ∧ p.Ans o) (fun N1 h1 => ?_) ?_
  · refine whileM (fun n s => ∃ ps p x3 x4 x5 x6 x7 x8 x9 x10 x11, s = [.va (lowD p), .va (upD p), .own (ps.reverse.map ent), x3, x4, x5, x6, x7, x8, x9, x10, x11] ∧ AtB p0 ps p ∧ n = (p.c + p.C).toNat) ⟨[], p0, _, _, _, _, _, _, _, _, _, rfl, ⟨.nil, I0, z0, .inl rfl⟩, rfl⟩ ?_
    rintro n s N ⟨ps, p, x3, x4, x5, x6, x7, x8, x9, x10, x11, rfl, A, rfl⟩ hN
    obtain ⟨zg, zb, zc, zG, zB, zC⟩ := A.z
    have c1 := A.I.c1
    have C1 := A.I.C1
    refine ⟨true, rfl, ?_⟩
    simp only [↓reduceIte]
    refine seq_run (fun s => s = [.va (lowD p), .va (upD p), .own (ps.reverse.map ent), .va (.int p.g), .va (.int p.b), .va (.int p.c), x6, x7, x8, x9, x10, x11]) (fun N2 h2 => ?_) ?_
    · unfold lowD
      walk_at "rdn"
      exact h2 _ rfl
    rintro _ rfl
    refine seq_run (fun s => s = [.va (lowD p), .va (upD p), .own (ps.reverse.map ent), .va (.int p.g), .va (.int p.b), .va (.int p.c), .va (.int p.G), .va (.int p.B), .va (.int p.C), x9, x10, x11]) (fun N2 h2 => ?_) ?_
    · unfold upD
      walk_at "rdn"
      exact h2 _ rfl
    rintro _ rfl
    refine seq_run (fun s => p.b * p.C ≤ p.B * p.c ∧ s = [.va (lowD p), .va (upD p), .own (ps.reverse.map ent), .va (.int p.g), .va (.int p.b), .va (.int p.c), .va (.int p.G), .va (.int p.B), .va (.int p.C), x9, x10, x11]) (fun N2 h2 => ?_) ?_
    · by_cases h0 : p.b * p.C ≤ p.B * p.c
      · refine if_run false (fun Q h => ?_) (fun hc => by cases hc) (fun _ => h2 _ ⟨h0, rfl⟩)
        walk_at "rdn"
        refine ⟨_, opMul_ok zb zC (by decide), _, opMul_ok zB zc (by decide), _, rfl, _, rfl, ?_⟩
        show Q (decide (p.B * p.c < p.b * p.C)) _
        rw [decide_eq_false (by omega)]
        exact h
      · refine if_run true (fun Q h => ?_) (fun _ => ?_) (fun hc => by cases hc)
        · walk_at "rdn"
          refine ⟨_, opMul_ok zb zC (by decide), _, opMul_ok zB zc (by decide), _, rfl, _, rfl, ?_⟩
          show Q (decide (p.B * p.c < p.b * p.C)) _
          rw [decide_eq_true (by omega)]
          exact h
        · walk_at "rdn"
          exact q none (chain_none A.ch (p.none A.I h0))
    rintro _ ⟨h0, rfl⟩
    refine seq_run (fun s => s = [.va (lowD p), .va (upD p), .own (ps.reverse.map ent), .va (.int p.g), .va (.int p.b), .va (.int p.c), .va (.int p.G), .va (.int p.B), .va (.int p.C), .va (.int p.l), x10, x11]) (fun N2 h2 => ?_) ?_
    · walk_at "rdn"
      exact ⟨_, opFdiv_ok (by omega) zc (by decide), _, rfl, h2 _ rfl⟩
    rintro _ rfl
    have zl : sz 4000 p.l := sz_neg (sz_div (sz_neg zb) c1)
    refine seq_run (fun s => ¬ p.C * p.l ≤ p.B ∧ s = [.va (lowD p), .va (upD p), .own (ps.reverse.map ent), .va (.int p.g), .va (.int p.b), .va (.int p.c), .va (.int p.G), .va (.int p.B), .va (.int p.C), .va (.int p.l), x10, x11]) (fun N2 h2 => ?_) ?_
    · have e : p.l * p.C = p.C * p.l := Int.mul_comm _ _
      by_cases h : p.C * p.l ≤ p.B
      · refine if_run true (fun Q h' => ?_) (fun _ => ?_) (fun hc => by cases hc)
        · walk_at "rdn"
          refine ⟨_, opMul_ok zl zC (by decide), _, rfl, _, rfl, ?_⟩
          show Q (decide (p.l * p.C ≤ p.B)) _
          rw [decide_eq_true (by omega)]
          exact h'
        · walk_at "rdn"
          exact h1 _ ⟨ps, p, some 0, _, _, _, _, _, _, _, _, _, _, rfl, A, p.zero A.I h⟩
      · refine if_run false (fun Q h' => ?_) (fun hc => by cases hc) (fun _ => h2 _ ⟨h, rfl⟩)
        walk_at "rdn"
        refine ⟨_, opMul_ok zl zC (by decide), _, rfl, _, rfl, ?_⟩
        show Q (decide (p.l * p.C ≤ p.B)) _
        rw [decide_eq_false (by omega)]
        exact h'
    rintro _ ⟨h, rfl⟩
    refine seq_run (fun s => s = [.va (lowD p), .va (upD p), .own (ps.reverse.map ent), .va (.int p.g), .va (.int (p.b - p.l * p.c)), .va (.int p.c), .va (.int p.G), .va (.int (p.B - p.l * p.C)), .va (.int p.C), .va (.int p.l), x10, x11]) (fun N2 h2 => ?_) ?_
    · walk_at "rdn"
      exact ⟨_, opMul_ok zl zc (by decide), _, rfl, _, opMul_ok zl zC (by decide), _, rfl, h2 _ rfl⟩
    rintro _ rfl
    generalize hrr : -(-p.g / p.c) = r
    have zr : sz 4000 r := by rw [← hrr]; exact sz_neg (sz_div (sz_neg zg) c1)
    refine seq_run (fun s => s = [.va (lowD p), .va (upD p), .own (ps.reverse.map ent), .va (.int p.g), .va (.int (p.b - p.l * p.c)), .va (.int p.c), .va (.int p.G), .va (.int (p.B - p.l * p.C)), .va (.int p.C), .va (.int p.l), x10, .va (.int r)]) (fun N2 h2 => ?_) ?_
    · walk_at "rdn"
      refine ⟨_, opFdiv_ok (by omega) zc (by decide), _, rfl, h2 _ ?_⟩
      rw [← hrr]
    rintro _ rfl
    obtain ⟨a1, a2, a3, a4⟩ := move_facts A.I h0 h rfl
    refine seq_run (fun s => ¬ p.C * r ≤ p.G ∧ s = [.va (lowD p), .va (upD p), .own (ps.reverse.map ent), .va (.int p.g), .va (.int (p.b - p.l * p.c)), .va (.int p.c), .va (.int p.G), .va (.int (p.B - p.l * p.C)), .va (.int p.C), .va (.int p.l), x10, .va (.int r)]) (fun N2 h2 => ?_) ?_
    · have e : r * p.C = p.C * r := Int.mul_comm _ _
      by_cases hr : p.C * r ≤ p.G
      · refine if_run true (fun Q h' => ?_) (fun _ => ?_) (fun hc => by cases hc)
        · walk_at "rdn"
          refine ⟨_, opMul_ok zr zC (by decide), _, rfl, _, rfl, ?_⟩
          show Q (decide (r * p.C ≤ p.G)) _
          rw [decide_eq_true (by omega)]
          exact h'
        · walk_at "rdn"
          refine ⟨_, opMul_ok zr zc (by decide), _, rfl, _, opMul_ok zr zC (by decide), _, rfl, ?_⟩
          have zgr : sz 8500 (p.g - r * p.c) := by
            rw [← hrr]
            have c2 := ceil_spec (b := p.g) c1
            have e2 : -(-p.g / p.c) * p.c = p.c * -(-p.g / p.c) := Int.mul_comm _ _
            exact sz_mono (sz_of_le zc (by omega)) (by decide)
          have zGr : sz 8500 (p.G - r * p.C) := sz_mono (sz_sub (sz_mono zG (l := 8000) (by decide)) (sz_mul zr zC)) (by decide)
          refine ⟨_, _, _, _, _, rfl, zgr, zGr, _, rfl, ?_⟩
          have an := p.out A.I h0 h (by rw [hrr]; exact hr)
          rw [hrr] at an
          exact h1 _ ⟨ps, p, _, _, _, _, _, _, _, _, _, _, _, rfl, A, an⟩
      · refine if_run false (fun Q h' => ?_) (fun hc => by cases hc) (fun _ => h2 _ ⟨hr, rfl⟩)
        walk_at "rdn"
        refine ⟨_, opMul_ok zr zC (by decide), _, rfl, _, rfl, ?_⟩
        show Q (decide (r * p.C ≤ p.G)) _
        rw [decide_eq_false (by omega)]
        exact h'
    rintro _ ⟨hr, rfl⟩
    rw [← hrr] at hr
    obtain ⟨An, tc, tC⟩ := A.next h0 h hr
    obtain ⟨-, t0, -, -, -, -, -, -⟩ := p.turns A.I h0 h hr
    have zq : sz 4000 (p.g / p.c) := sz_div zg (by omega)
    refine seq_run (fun s => s = [.va (lowD p), .va (upD p), .own (ps.reverse.map ent), .va (.int p.turn.C), .va (.int (p.b - p.l * p.c)), .va (.int p.c), .va (.int p.turn.c), .va (.int (p.B - p.l * p.C)), .va (.int p.C), .va (.int p.l), x10, .va (.int r)]) (fun N2 h2 => ?_) ?_
    · walk_at "rdn"
      exact ⟨_, opMod_ok (by omega), _, opFdiv_ok (by omega) zc (by decide), _, opMul_ok zq zC (by decide), _, rfl, h2 _ rfl⟩
    rintro _ rfl
    refine seq_run (fun s => s = [.va (lowD p), .va (upD p), .own (ps.reverse.map ent), .va (.int p.turn.C), .va (.int (p.b - p.l * p.c)), .va (.int p.c), .va (.int p.turn.c), .va (.int (p.B - p.l * p.C)), .va (.int p.C), .va (.int p.l), x10, .va (.int r)]) (fun N2 h2 => ?_) ?_
    · refine if_run false (fun Q h' => ?_) (fun hc => by cases hc) (fun _ => h2 _ rfl)
      walk_at "rdn"
      rw [decide_eq_false (by omega)]
      exact h'
    rintro _ rfl
    refine seq_run (fun s => s = [.va (lowD p.turn), .va (upD p.turn), .own (ps.reverse.map ent), .va (.int p.turn.C), .va (.int (p.b - p.l * p.c)), .va (.int p.c), .va (.int p.turn.c), .va (.int (p.B - p.l * p.C)), .va (.int p.C), .va (.int p.l), x10, .va (.int r)]) (fun N2 h2 => ?_) ?_
    · walk_at "rdn"
      exact h2 _ rfl
    rintro _ rfl
    walk_at "rdn"
    have sh := A.short
    refine ⟨by simp only [List.length_map, List.length_reverse]; omega, ?_⟩
    have el : List.map ent ps.reverse ++ [lowD p.turn] = List.map ent (p :: ps).reverse := by
      rw [List.reverse_cons, List.map_append]
      rfl
    rw [el]
    refine hN (p.turn.c + p.turn.C).toNat _ ?_ ⟨p :: ps, p.turn, _, _, _, _, _, _, _, _, _, rfl, An, rfl⟩
    have := An.I.c1
    have := An.I.C1
    omega
  rintro _ ⟨ps, p, o, x0, x1, x3, x4, x5, x6, x7, x8, x9, x11, rfl, A, an⟩
  cases o with
  | none =>
    refine seq_run (fun s => False) (fun N2 h2 => ?_) (fun s z => z.elim)
    refine if_run true (fun Q h' => ?_) (fun _ => ?_) (fun hc => by cases hc)
    · walk_at "rdn"
      exact h'
    · walk_at "rdn"
      exact q none (chain_none A.ch an)
  | some k =>
    refine seq_run (fun s => s = [x0, x1, .own (ps.reverse.map ent), x3, x4, x5, x6, x7, x8, x9, .va (.int k), x11]) (fun N2 h2 => ?_) ?_
    · refine if_run false (fun Q h' => ?_) (fun hc => by cases hc) (fun _ => h2 _ rfl)
      walk_at "rdn"
      exact h'
    rintro _ rfl
    have zk : ∀ {p : Two} {k : Int}, p.I → szT p → p.Ans (some k) → sz 16010 k := by
      rintro p k I ⟨-, -, zc, -, -, zC⟩ an
      have k0 := an.1.1.1
      have k1 := an.2 k rfl
      have cC := sz_mul (show sz 10 2 by unfold sz; decide) (sz_mul zc zC)
      exact sz_of_le (sz_mono cC (by decide)) (by omega)
    refine seq_run (fun s => ∃ y0 y1 y2 y3 y4 y5 y6 y7 y8 y9 y11 z, s = [y0, y1, y2, y3, y4, y5, y6, y7, y8, y9, .va (.int z), y11] ∧ p0.Ans (some z)) (fun N2 h2 => ?_) ?_
    · walk_at "rdn"
      refine ⟨_, rfl, ?_⟩
      rw [show (List.map ent ps.reverse).reverse = ps.map ent by rw [List.map_reverse, List.reverse_reverse]]
      refine forL_run (fun r s => ∃ ps p k y0 y1 y2 y3 y4 y5 y6 y7 y8 y9 y11, r = ps.map ent ∧ ChainZ p0 ps p ∧ p.I ∧ szT p ∧ p.Ans (some k) ∧ s = [y0, y1, y2, y3, y4, y5, y6, y7, y8, y9, .va (.int k), y11]) ?_ ?_ _ _ ⟨ps, p, k, _, _, _, _, _, _, _, _, _, _, _, rfl, A.ch, A.I, A.z, an, rfl⟩
      · rintro d r s N ⟨ps, p, k, y0, y1, y2, y3, y4, y5, y6, y7, y8, y9, y11, er, ch, I, z, an, rfl⟩ hN
        cases ch with
        | nil => cases er
        | @cons ps p1 ch back z' tc I1 zz1 =>
          cases er
          unfold ent
          have z2 := zk I z an
          walk_at "rdn"
          refine ⟨_, opMul_ok z'.1 z2 (by decide), _, rfl, _, rfl, _, opFdiv_ok (by omega) z'.2.2.1 (by decide), _, rfl, ?_⟩
          exact hN _ ⟨ps, p1, _, _, _, _, _, _, _, _, _, _, _, _, rfl, ch, I1, zz1, back _ an, rfl⟩
      · rintro s ⟨ps, p, k, y0, y1, y2, y3, y4, y5, y6, y7, y8, y9, y11, er, ch, I, z, an, rfl⟩
        cases ch with
        | nil => exact h2 _ ⟨_, _, _, _, _, _, _, _, _, _, _, _, rfl, an⟩
        | cons => cases er
    rintro _ ⟨y0, y1, y2, y3, y4, y5, y6, y7, y8, y9, y11, z, rfl, an⟩
    walk_at "rdn"
    exact q _ an
section
variable {P : Program} {w : World} {K : PySem.W.Frag} {mg : Str → Option Value} {base : Heap} {CN : String → Option Addr}
theorem ok_first_between {f : Addr} {fd : FuncData} (F : Fun K "first_between" "first_between" s_first_between f fd) (g : G K mg CN) (c__first_out : CalP P w K mg base CN 1 "_first_out" D__first_out) : FnG P w K mg base 2 f fd ["lower", "upper"] (spP K CN D_first_between) := by
  have sc := sc_first_between
  exact fun_okP (m := m_first_between) F sc (by decide) len_first_between (fun cdv A outer s H E C W hw hr tk =>
    (pds_cons (pds_asgR (ps_set (i := 2) sc.nd rfl (.inl rfl) (pdr_lst pda_nil)))
    (pds_cons (pds_while (ps_while psw (pdt_val pd_bl) (pds_cons (pds_asg (ps_asg (dv 0) (pdg_tup rfl (gcons (dg 3 sc.nd) (gcons (dg 4 sc.nd) (gcons (dg 5 sc.nd) pdgs_nil))))))
    (pds_cons (pds_asg (ps_asg (dv 1) (pdg_tup rfl (gcons (dg 6 sc.nd) (gcons (dg 7 sc.nd) (gcons (dg 8 sc.nd) pdgs_nil))))))
    (pds_cons (pds_if (pdt_cmp op_gt rl_cmpI (pd_op or_mul rl_mul (dv 4) (dv 8)) (pd_op or_mul rl_mul (dv 7) (dv 5)) (nomark _)) (pds_one (pds_ret (pdr_of pd_non))) pds_nil)
    (pds_cons (pds_asg (ps_asg (pd_un un_neg rl_neg (pd_op op_fdivW rl_fdiv (pd_un un_neg rl_neg (dv 4)) (dv 5))) (dg 9 sc.nd)))
    (pds_cons (pds_if (pdt_cmp op_le rl_cmpI (pd_op or_mul rl_mul (dv 9) (dv 8)) (dv 7) (nomark _)) (pds_cons (pds_asg (ps_asg pd_int (dg 10 sc.nd)))
    (pds_one pds_break)) pds_nil)
    (pds_cons (pds_par2 (ps_par2 (i := 4) (j := 7) rfl sc.nd rfl rfl (by decide) rfl rfl (pdar_cons (pdr_of (pd_op op_sub rl_sub (dv 4) (pd_op or_mul rl_mul (dv 9) (dv 5)))) (pdar_cons (pdr_of (pd_op op_sub rl_sub (dv 7) (pd_op or_mul rl_mul (dv 9) (dv 8)))) pdar_nil)) rfl))
    (pds_cons (pds_asg (ps_asg (pd_un un_neg rl_neg (pd_op op_fdivW rl_fdiv (pd_un un_neg rl_neg (dv 3)) (dv 5))) (dg 11 sc.nd)))
    (pds_cons (pds_if (pdt_cmp op_le rl_cmpI (pd_op or_mul rl_mul (dv 11) (dv 8)) (dv 6) (nomark _)) (pds_cons (pds_asg (ps_asg (pd_call c__first_out hr (by decide) tk (pda_cons (pd_tup (pda_cons (pd_op op_sub rl_sub (dv 3) (pd_op or_mul rl_mul (dv 11) (dv 5))) (pda_cons (dv 4) (pda_cons (dv 5) pda_nil)))) (pda_cons (pd_tup (pda_cons (pd_op op_sub rl_sub (dv 6) (pd_op or_mul rl_mul (dv 11) (dv 8))) (pda_cons (dv 7) pda_nil))) pda_nil))) (dg 10 sc.nd)))
    (pds_one pds_break)) pds_nil)
    (pds_cons (pds_par2 (ps_par2 (i := 3) (j := 6) rfl sc.nd rfl rfl (by decide) rfl rfl (pdar_cons (pdr_of (pd_op op_mod rl_mod (dv 3) (dv 5))) (pdar_cons (pdr_of (pd_op op_sub rl_sub (dv 6) (pd_op or_mul rl_mul (pd_op op_fdivW rl_fdiv (dv 3) (dv 5)) (dv 8)))) pdar_nil)) rfl))
    (pds_cons (pds_if (pdt_cmp op_le rl_cmpI (dv 6) pd_int (nomark _)) (pds_one (pds_ret (pdr_of pd_non))) pds_nil)
    (pds_cons (pds_par2 (ps_par2 (i := 0) (j := 1) rfl sc.nd rfl rfl (by decide) rfl rfl (pdar_cons (pdr_of (pd_tup (pda_cons (dv 8) (pda_cons (pd_un un_neg rl_neg (dv 7)) (pda_cons (dv 6) pda_nil))))) (pdar_cons (pdr_of (pd_tup (pda_cons (dv 5) (pda_cons (pd_un un_neg rl_neg (dv 4)) (pda_cons (dv 3) pda_nil))))) pdar_nil)) rfl))
    (pds_one (pds_app (ps_expr (pe_bm PySem.F.plainAttrs_list PySem.F.slot_list_append PySem.F.type_list_append mt_append (pv 2) (pa_cons (dv 0) pa_nil))))))))))))))))))
    (pds_cons (pds_if (pdt_cmp op_isN rl_isN (dv 10) pd_non (nomark _)) (pds_one (pds_ret (pdr_of pd_non))) pds_nil)
    (pds_cons (pds_for (ps_for psw rfl (pdi_rev g.b_reversed (dv 2)) (pdg_tup rfl (gcons (dg 3 sc.nd) (gcons (dg 4 sc.nd) (gcons (dg 5 sc.nd) pdgs_nil)))) (pds_one (pds_asg (ps_asg (pd_un un_neg rl_neg (pd_op op_fdivW rl_fdiv (pd_un un_neg rl_neg (pd_op or_add rl_add (pd_op or_mul rl_mul (dv 3) (dv 10)) (dv 4))) (dv 5))) (dg 10 sc.nd))))))
    (pds_one (pds_ret (pdr_of (dv 10))))))))) rd_first_between
end
def m_first_within (W : WD) : MS :=
  mRet (mrOf (mCall D_first_between W (mCons (mTup (mCons (mVar 0) (mCons (mOp2 opSub (mVar 1) (mVar 4)) (mCons (mVar 2) (mNil))))) (mCons (mTup (mCons (mVar 0) (mCons (mOp2 opSub (mVar 1) (mVar 3)) (mCons (mVar 2) (mNil))))) (mNil)))))
def wit (g b c lo hi : Int) : Two := ⟨g, b - hi, c, g, b - lo, c⟩
theorem wit_I {g b c lo hi : Int} (h : 1 ≤ c) : (wit g b c lo hi).I := ⟨h, h, Int.le_refl _, fun z => absurd z (Int.lt_irrefl _)⟩
def D_first_within : PSpec := fun ds Q _ => ∃ g b c lo hi, ds = [.int g, .int b, .int c, .int lo, .int hi] ∧ 1 ≤ c ∧ sz 3999 g ∧ sz 3999 b ∧ sz 3999 c ∧ sz 3999 lo ∧ sz 3999 hi ∧ ∀ o, (wit g b c lo hi).Ans o → Q (.va (optD o))
theorem len_first_within : ∀ ds Q E, D_first_within ds Q E → ds.length = 5 := by
  rintro _ Q E ⟨g, b, c, lo, hi, rfl, _⟩
  rfl
theorem rd_first_within : ∀ ds Q E, D_first_within ds Q E → m_first_within (fun c _ => E c) (endP Q) (slots0 5 ds) := by
  rintro _ Q E ⟨g, b, c, lo, hi, rfl, c1, zg, zb, zc, zl, zh, q⟩
  unfold m_first_within
  walk_at "rdn"
  refine ⟨wit g b c lo hi, rfl, wit_I c1, ⟨sz_mono zg (by decide), sz_sub zb zh, sz_mono zc (by decide), sz_mono zg (by decide), sz_sub zb zl, sz_mono zc (by decide)⟩, fun o an => ?_⟩
  exact ⟨_, rfl, q o an⟩
section
variable {P : Program} {w : World} {K : PySem.W.Frag} {mg : Str → Option Value} {base : Heap} {CN : String → Option Addr}
theorem ok_first_within {f : Addr} {fd : FuncData} (F : Fun K "first_within" "first_within" s_first_within f fd) (g : G K mg CN) (c_first_between : CalP P w K mg base CN 2 "first_between" D_first_between) : FnG P w K mg base 3 f fd ["grow", "begin", "circle", "low", "high"] (spP K CN D_first_within) := by
  have sc := sc_first_within
  exact fun_okP (m := m_first_within) F sc (by decide) len_first_within (fun cdv A outer s H E C W hw hr tk =>
    (pds_one (pds_ret (pdr_of (pd_call c_first_between hr (by decide) tk (pda_cons (pd_tup (pda_cons (dv 0) (pda_cons (pd_op op_sub rl_sub (dv 1) (dv 4)) (pda_cons (dv 2) pda_nil)))) (pda_cons (pd_tup (pda_cons (dv 0) (pda_cons (pd_op op_sub rl_sub (dv 1) (dv 3)) (pda_cons (dv 2) pda_nil)))) pda_nil))))))) rd_first_within
end
def m_is_table (W : WD) : MS :=
  mRet (mrOf (mAnd (mCall D_are_whole W (mCons (mVar 0) (mCons (mC (.int 2)) (mNil)))) (mAnd (mOp2 opGe (mOp2 opIx (mVar 0) (mC (.int 0))) (mC (.int 1))) (mOp2 opGe (mOp2 opIx (mVar 0) (mC (.int 1))) (mC (.int 1))))))
def isTab : PyData → Bool
  | .tuple [.int a, .int b] => decide (1 ≤ a) && decide (1 ≤ b)
  | _ => false
def D_is_table : PSpec := fun ds Q _ => ∃ d, ds = [d] ∧ Q (.va (.bool (isTab d)))
theorem len_is_table : ∀ ds Q E, D_is_table ds Q E → ds.length = 1 := by
  rintro _ Q E ⟨d, rfl, _⟩
  rfl
theorem rd_is_table : ∀ ds Q E, D_is_table ds Q E → m_is_table (fun c _ => E c) (endP Q) (slots0 1 ds) := by
  rintro _ Q E ⟨d, rfl, q⟩
  unfold m_is_table
  walk_at "rdm"
  refine ⟨d, 2, rfl, by decide, _, rfl, _, rfl, ?_⟩
  cases h : areW d 2 with
  | false =>
    rw [if_neg (by decide)]
    have e : isTab d = false := by
      unfold isTab
      split
      · simp [areW, isInt] at h
      · rfl
    rwa [e] at q
  | true =>
    obtain ⟨a, b, rfl⟩ := areW2 h
    rw [if_pos rfl]
    walk_at "rdm"
    by_cases h1 : 1 ≤ a
    · rw [if_pos (by simpa using h1)]
      simpa [isTab, h1] using q
    · rw [if_neg (by simpa using h1)]
      simpa [isTab, h1] using q
theorem isTab_t {a b : Int} (h1 : 1 ≤ a) (h2 : 1 ≤ b) : isTab (.tuple [.int a, .int b]) = true := by simp [isTab, h1, h2]
section
variable {P : Program} {w : World} {K : PySem.W.Frag} {mg : Str → Option Value} {base : Heap} {CN : String → Option Addr}
theorem ok_is_table {f : Addr} {fd : FuncData} (F : Fun K "is_table" "is_table" s_is_table f fd) (g : G K mg CN) (c_are_whole : CalP P w K mg base CN 2 "are_whole" D_are_whole) : FnG P w K mg base 3 f fd ["value"] (spP K CN D_is_table) := by
  have sc := sc_is_table
  exact fun_okP (m := m_is_table) F sc (by decide) len_is_table (fun cdv A outer s H E C W hw hr tk =>
    (pds_one (pds_ret (pdr_of (pd_and (pd_call c_are_whole hr (by decide) tk (pda_cons (dv 0) (pda_cons pd_int pda_nil))) (pd_and (pd_cmp op_ge rl_cmpI (pd_ix ix_seq rl_ix (dv 0) pd_int) pd_int (nomark _)) (pd_one (pd_cmp op_ge rl_cmpI (pd_ix ix_seq rl_ix (dv 0) pd_int) pd_int (nomark _))))))))) rd_is_table
end
def m_check_table (W : WD) : MS :=
  mIf (mTNot (mT (mCall D_is_table W (mCons (mVar 0) (mNil))))) (mRaise "InvalidTable" W) (mNext)
def D_check_table : PSpec := fun ds Q E => ∃ d, ds = [d] ∧ (isTab d = true → Q (.va .none)) ∧ (isTab d = false → E "InvalidTable")
theorem len_check_table : ∀ ds Q E, D_check_table ds Q E → ds.length = 1 := by
  rintro _ Q E ⟨d, rfl, _⟩
  rfl
theorem rd_check_table : ∀ ds Q E, D_check_table ds Q E → m_check_table (fun c _ => E c) (endP Q) (slots0 1 ds) := by
  rintro _ Q E ⟨d, rfl, q1, q2⟩
  unfold m_check_table
  walk_at "rdm"
  refine ⟨d, rfl, _, rfl, _, rfl, ?_⟩
  cases h : isTab d with
  | false => exact q2 h
  | true => exact q1 h
section
variable {P : Program} {w : World} {K : PySem.W.Frag} {mg : Str → Option Value} {base : Heap} {CN : String → Option Addr}
theorem ok_check_table {f : Addr} {fd : FuncData} (F : Fun K "check_table" "check_table" s_check_table f fd) (g : G K mg CN) (c_is_table : CalP P w K mg base CN 3 "is_table" D_is_table) : FnG P w K mg base 4 f fd ["table"] (spP K CN D_check_table) := by
  obtain ⟨e_InvalidTable, n_InvalidTable, t_InvalidTable⟩ := g.x_InvalidTable
  have sc := sc_check_table
  exact fun_okP (m := m_check_table) F sc (by decide) len_check_table (fun cdv A outer s H E C W hw hr tk =>
    (pds_one (pds_if (pdt_not (pdt_val (pd_call c_is_table hr (by decide) tk (pda_cons (dv 0) pda_nil)))) (pds_one (pds_raise rfl tk t_InvalidTable n_InvalidTable)) pds_nil))) rd_check_table
end
def m_is_any_shot (W : WD) : MS :=
  mRet (mrOf (mAnd (mCall D_are_whole W (mCons (mVar 0) (mCons (mC (.int 4)) (mNil)))) (mAnd (mOp2 opGe (mOp2 opIx (mVar 0) (mC (.int 0))) (mC (.int 0))) (mAnd (mOp2 opGe (mOp2 opIx (mVar 0) (mC (.int 1))) (mC (.int 0))) (mOr (mOp2 opNe (mOp2 opIx (mVar 0) (mC (.int 2))) (mC (.int 0))) (mOp2 opNe (mOp2 opIx (mVar 0) (mC (.int 3))) (mC (.int 0))))))))
def isAny : PyData → Bool
  | .tuple [.int x, .int y, .int p, .int q] => decide (0 ≤ x) && decide (0 ≤ y) && (!decide (p = 0) || !decide (q = 0))
  | _ => false
def D_is_any_shot : PSpec := fun ds Q _ => ∃ d, ds = [d] ∧ Q (.va (.bool (isAny d)))
theorem len_is_any_shot : ∀ ds Q E, D_is_any_shot ds Q E → ds.length = 1 := by
  rintro _ Q E ⟨d, rfl, _⟩
  rfl
theorem rd_is_any_shot : ∀ ds Q E, D_is_any_shot ds Q E → m_is_any_shot (fun c _ => E c) (endP Q) (slots0 1 ds) := by
  rintro _ Q E ⟨d, rfl, q⟩
  unfold m_is_any_shot
  walk_at "rdm"
  refine ⟨d, 4, rfl, by decide, _, rfl, _, rfl, ?_⟩
  cases h : areW d 4 with
  | false =>
    rw [if_neg (by decide)]
    have e : isAny d = false := by
      unfold isAny
      split
      · simp [areW, isInt] at h
      · rfl
    rwa [e] at q
  | true =>
    obtain ⟨x, y, p, r, rfl⟩ := areW4 h
    rw [if_pos rfl]
    walk_at "rdm"
    by_cases h1 : 0 ≤ x
    · rw [if_pos (by simpa using h1)]
      by_cases h2 : 0 ≤ y
      · rw [if_pos (by simpa using h2)]
        by_cases h3 : p = 0
        · rw [if_neg (by simpa using h3)]
          simpa [isAny, h1, h2, h3] using q
        · rw [if_pos (by simpa using h3)]
          simpa [isAny, h1, h2, h3] using q
      · rw [if_neg (by simpa using h2)]
        simpa [isAny, h1, h2] using q
    · rw [if_neg (by simpa using h1)]
      simpa [isAny, h1] using q
section
variable {P : Program} {w : World} {K : PySem.W.Frag} {mg : Str → Option Value} {base : Heap} {CN : String → Option Addr}
theorem ok_is_any_shot {f : Addr} {fd : FuncData} (F : Fun K "is_any_shot" "is_any_shot" s_is_any_shot f fd) (g : G K mg CN) (c_are_whole : CalP P w K mg base CN 2 "are_whole" D_are_whole) : FnG P w K mg base 3 f fd ["value"] (spP K CN D_is_any_shot) := by
  have sc := sc_is_any_shot
  exact fun_okP (m := m_is_any_shot) F sc (by decide) len_is_any_shot (fun cdv A outer s H E C W hw hr tk =>
    (pds_one (pds_ret (pdr_of (pd_and (pd_call c_are_whole hr (by decide) tk (pda_cons (dv 0) (pda_cons pd_int pda_nil))) (pd_and (pd_cmp op_ge rl_cmpI (pd_ix ix_seq rl_ix (dv 0) pd_int) pd_int (nomark _)) (pd_and (pd_cmp op_ge rl_cmpI (pd_ix ix_seq rl_ix (dv 0) pd_int) pd_int (nomark _)) (pd_one (pd_or (pd_cmp (or_neD (RoomG.u64 hr)) rl_ne (pd_ix ix_seq rl_ix (dv 0) pd_int) pd_int (nomark _)) (pd_one (pd_cmp (or_neD (RoomG.u64 hr)) rl_ne (pd_ix ix_seq rl_ix (dv 0) pd_int) pd_int (nomark _)))))))))))) rd_is_any_shot
end
def m_is_shot (W : WD) : MS :=
  mSeq (mDrop (mCall D_check_table W (mCons (mVar 0) (mNil))))
  (mRet (mrOf (mAnd (mCall D_is_any_shot W (mCons (mVar 1) (mNil))) (mAnd (mOp2 opLe (mOp2 opIx (mVar 1) (mC (.int 0))) (mOp2 opIx (mVar 0) (mC (.int 0)))) (mOp2 opLe (mOp2 opIx (mVar 1) (mC (.int 1))) (mOp2 opIx (mVar 0) (mC (.int 1))))))))
def isShot : PyData → PyData → Bool
  | .tuple [.int a, .int b], .tuple [.int x, .int y, .int p, .int q] => decide (0 ≤ x) && decide (0 ≤ y) && (!decide (p = 0) || !decide (q = 0)) && decide (x ≤ a) && decide (y ≤ b)
  | _, _ => false
theorem tab_inv {d : PyData} (h : isTab d = true) : ∃ a b, d = .tuple [.int a, .int b] ∧ 1 ≤ a ∧ 1 ≤ b := by
  unfold isTab at h
  split at h
  · rename_i a b
    simp only [Bool.and_eq_true, decide_eq_true_eq] at h
    exact ⟨a, b, rfl, h.1, h.2⟩
  · cases h
theorem any_inv {d : PyData} (h : isAny d = true) : ∃ x y p q, d = .tuple [.int x, .int y, .int p, .int q] ∧ 0 ≤ x ∧ 0 ≤ y ∧ (p ≠ 0 ∨ q ≠ 0) := by
  unfold isAny at h
  split at h
  · rename_i x y p q
    simp only [Bool.and_eq_true, Bool.or_eq_true, decide_eq_true_eq, Bool.not_eq_true', decide_eq_false_iff_not] at h
    exact ⟨x, y, p, q, rfl, h.1.1, h.1.2, h.2⟩
  · cases h
theorem shot_any {t d : PyData} (h : isAny d = false) : isShot t d = false := by
  unfold isShot
  split
  · simp only [isAny] at h
    simp only [h, Bool.false_and]
  · rfl
def D_is_shot : PSpec := fun ds Q E => ∃ t v, ds = [t, v] ∧ (isTab t = false → E "InvalidTable") ∧ (isTab t = true → Q (.va (.bool (isShot t v))))
theorem len_is_shot : ∀ ds Q E, D_is_shot ds Q E → ds.length = 2 := by
  rintro _ Q E ⟨t, d, rfl, _⟩
  rfl
theorem rd_is_shot : ∀ ds Q E, D_is_shot ds Q E → m_is_shot (fun c _ => E c) (endP Q) (slots0 2 ds) := by
  rintro _ Q E ⟨t, d, rfl, q1, q2⟩
  unfold m_is_shot
  walk_at "rdm"
  refine ⟨t, rfl, fun ht => ⟨⟨_, rfl⟩, ?_⟩, q1⟩
  have q := q2 ht
  obtain ⟨a, b, rfl, ha, hb⟩ := tab_inv ht
  refine ⟨d, rfl, _, rfl, _, rfl, ?_⟩
  cases h : isAny d with
  | false =>
    rw [if_neg (by decide)]
    have e : isShot (.tuple [.int a, .int b]) d = false := shot_any h
    rwa [e] at q
  | true =>
    obtain ⟨x, y, p, r, rfl, _⟩ := any_inv h
    rw [if_pos rfl]
    walk_at "rdm"
    have h' := h
    simp only [isAny] at h'
    by_cases h1 : x ≤ a
    · rw [if_pos (by simpa using h1)]
      simp only [isShot] at q
      rw [h'] at q
      simpa [h1] using q
    · rw [if_neg (by simpa using h1)]
      simp only [isShot] at q
      rw [h'] at q
      simpa [h1] using q
theorem shot_inv {t v : PyData} (h : isShot t v = true) : ∃ a b x y p q, t = .tuple [.int a, .int b] ∧ v = .tuple [.int x, .int y, .int p, .int q] ∧ 0 ≤ x ∧ x ≤ a ∧ 0 ≤ y ∧ y ≤ b ∧ (p ≠ 0 ∨ q ≠ 0) := by
  unfold isShot at h
  split at h
  · rename_i a b x y p q
    simp only [Bool.and_eq_true, Bool.or_eq_true, decide_eq_true_eq, Bool.not_eq_true', decide_eq_false_iff_not] at h
    exact ⟨a, b, x, y, p, q, rfl, rfl, h.1.1.1.1, h.1.2, h.1.1.1.2, h.2, h.1.1.2⟩
  · cases h
def szD : PyData → Prop
  | .tuple [.int a, .int b] => sz 1000 a ∧ sz 1000 b
  | .tuple [.int a, .int b, .int c, .int d] => sz 1000 a ∧ sz 1000 b ∧ sz 1000 c ∧ sz 1000 d
  | _ => True
section
variable {P : Program} {w : World} {K : PySem.W.Frag} {mg : Str → Option Value} {base : Heap} {CN : String → Option Addr}
theorem ok_is_shot {f : Addr} {fd : FuncData} (F : Fun K "is_shot" "is_shot" s_is_shot f fd) (g : G K mg CN) (c_check_table : CalP P w K mg base CN 4 "check_table" D_check_table) (c_is_any_shot : CalP P w K mg base CN 3 "is_any_shot" D_is_any_shot) : FnG P w K mg base 5 f fd ["table", "value"] (spP K CN D_is_shot) := by
  have sc := sc_is_shot
  exact fun_okP (m := m_is_shot) F sc (by decide) len_is_shot (fun cdv A outer s H E C W hw hr tk =>
    (pds_cons (pds_drop (pd_call c_check_table hr (by decide) tk (pda_cons (dv 0) pda_nil)))
    (pds_one (pds_ret (pdr_of (pd_and (pd_call c_is_any_shot hr (by decide) tk (pda_cons (dv 1) pda_nil)) (pd_and (pd_cmp op_le rl_cmpI (pd_ix ix_seq rl_ix (dv 1) pd_int) (pd_ix ix_seq rl_ix (dv 0) pd_int) (nomark _)) (pd_one (pd_cmp op_le rl_cmpI (pd_ix ix_seq rl_ix (dv 1) pd_int) (pd_ix ix_seq rl_ix (dv 0) pd_int) (nomark _)))))))))) rd_is_shot
end
end LW
namespace LW
open PySem PySem.Spec PyProof.Rows L2 DL
def m_is_fraction (W : WD) : MS :=
  mRet (mrOf (mAnd (mCall D_are_whole W (mCons (mVar 0) (mCons (mC (.int 2)) (mNil)))) (mAnd (mOp2 opGe (mOp2 opIx (mVar 0) (mC (.int 1))) (mC (.int 1))) (mOp2 opEq (mCallB bGcd (mCons (mOp2 opIx (mVar 0) (mC (.int 0))) (mCons (mOp2 opIx (mVar 0) (mC (.int 1))) (mNil)))) (mC (.int 1))))))
def isFrac : PyData → Bool
  | .tuple [.int a, .int b] => decide (1 ≤ b) && (Nat.gcd a.natAbs b.natAbs == 1)
  | _ => false
def D_is_fraction : PSpec := fun ds Q _ => ∃ d, ds = [d] ∧ Q (.va (.bool (isFrac d)))
theorem len_is_fraction : ∀ ds Q E, D_is_fraction ds Q E → ds.length = 1 := by
  rintro _ Q E ⟨d, rfl, _⟩
  rfl
theorem rd_is_fraction : ∀ ds Q E, D_is_fraction ds Q E → m_is_fraction (fun c _ => E c) (endP Q) (slots0 1 ds) := by
  rintro _ Q E ⟨d, rfl, q⟩
  unfold m_is_fraction
  walk_at "rdm"
  refine ⟨d, 2, rfl, by decide, _, rfl, _, rfl, ?_⟩
  cases h : areW d 2 with
  | false =>
    rw [if_neg (by decide)]
    have e : isFrac d = false := by
      unfold isFrac
      split
      · simp [areW, isInt] at h
      · rfl
    rwa [e] at q
  | true =>
    obtain ⟨a, b, rfl⟩ := areW2 h
    rw [if_pos rfl]
    walk_at "rdm"
    by_cases h1 : 1 ≤ b
    · rw [if_pos (by simpa using h1)]
      have e : ∀ g : Nat, decide (((g : Nat) : Int) = 1) = (g == 1) := fun g => by
        by_cases z : g = 1
        · subst z; rfl
        · rw [decide_eq_false (by omega), beq_false_of_ne z]
      rw [e]
      have q' : Q (.va (.bool (decide (1 ≤ b) && (Nat.gcd a.natAbs b.natAbs == 1)))) := q
      rw [decide_eq_true h1, Bool.true_and] at q'
      exact q'
    · rw [if_neg (by simpa using h1)]
      simpa [isFrac, h1] using q
theorem frac_inv {d : PyData} (h : isFrac d = true) : ∃ n m, d = .tuple [.int n, .int m] ∧ 1 ≤ m ∧ Nat.gcd n.natAbs m.natAbs = 1 := by
  unfold isFrac at h
  split at h
  · rename_i a b
    simp only [Bool.and_eq_true, decide_eq_true_eq, beq_iff_eq] at h
    exact ⟨a, b, rfl, h.1, h.2⟩
  · cases h
section
variable {P : Program} {w : World} {K : PySem.W.Frag} {mg : Str → Option Value} {base : Heap} {CN : String → Option Addr}
theorem ok_is_fraction {f : Addr} {fd : FuncData} (F : Fun K "is_fraction" "is_fraction" s_is_fraction f fd) (g : G K mg CN) (c_are_whole : CalP P w K mg base CN 2 "are_whole" D_are_whole) : FnG P w K mg base 3 f fd ["value"] (spP K CN D_is_fraction) := by
  have sc := sc_is_fraction
  exact fun_okP (m := m_is_fraction) F sc (by decide) len_is_fraction (fun cdv A outer s H E C W hw hr tk =>
    (pds_one (pds_ret (pdr_of (pd_and (pd_call c_are_whole hr (by decide) tk (pda_cons (dv 0) (pda_cons pd_int pda_nil))) (pd_and (pd_cmp op_ge rl_cmpI (pd_ix ix_seq rl_ix (dv 0) pd_int) pd_int (nomark _)) (pd_one (pd_cmp (or_eqD (RoomG.u64 hr)) rl_eq (pd_gcd g.b_gcd (pda_cons (pd_ix ix_seq rl_ix (dv 0) pd_int) (pda_cons (pd_ix ix_seq rl_ix (dv 0) pd_int) pda_nil))) pd_int (nomark _))))))))) rd_is_fraction
end
def m_check_shot (W : WD) : MS :=
  mIf (mTNot (mT (mCall D_is_shot W (mCons (mVar 0) (mCons (mVar 1) (mNil)))))) (mRaise "InvalidShot" W) (mNext)
def D_check_shot : PSpec := fun ds Q E => ∃ t v, ds = [t, v] ∧ (isTab t = false → E "InvalidTable") ∧ (isTab t = true → isShot t v = false → E "InvalidShot") ∧ (isTab t = true → isShot t v = true → Q (.va .none))
theorem len_check_shot : ∀ ds Q E, D_check_shot ds Q E → ds.length = 2 := by
  rintro _ Q E ⟨t, v, rfl, _⟩
  rfl
theorem rd_check_shot : ∀ ds Q E, D_check_shot ds Q E → m_check_shot (fun c _ => E c) (endP Q) (slots0 2 ds) := by
  rintro _ Q E ⟨t, v, rfl, q1, q2, q3⟩
  unfold m_check_shot
  walk_at "rdm"
  refine ⟨t, v, rfl, q1, fun ht => ⟨_, rfl, _, rfl, ?_⟩⟩
  cases h : isShot t v with
  | false => exact q2 ht h
  | true => exact q3 ht h
section
variable {P : Program} {w : World} {K : PySem.W.Frag} {mg : Str → Option Value} {base : Heap} {CN : String → Option Addr}
theorem ok_check_shot {f : Addr} {fd : FuncData} (F : Fun K "check_shot" "check_shot" s_check_shot f fd) (g : G K mg CN) (c_is_shot : CalP P w K mg base CN 5 "is_shot" D_is_shot) : FnG P w K mg base 6 f fd ["table", "shot"] (spP K CN D_check_shot) := by
  obtain ⟨e_InvalidShot, n_InvalidShot, t_InvalidShot⟩ := g.x_InvalidShot
  have sc := sc_check_shot
  exact fun_okP (m := m_check_shot) F sc (by decide) len_check_shot (fun cdv A outer s H E C W hw hr tk =>
    (pds_one (pds_if (pdt_not (pdt_val (pd_call c_is_shot hr (by decide) tk (pda_cons (dv 0) (pda_cons (dv 1) pda_nil))))) (pds_one (pds_raise rfl tk t_InvalidShot n_InvalidShot)) pds_nil))) rd_check_shot
end
def m_check_time (W : WD) : MS :=
  mIf (mTNot (mT (mCall D_is_fraction W (mCons (mVar 0) (mNil))))) (mRaise "InvalidTime" W) (mNext)
def D_check_time : PSpec := fun ds Q E => ∃ d, ds = [d] ∧ (isFrac d = true → Q (.va .none)) ∧ (isFrac d = false → E "InvalidTime")
theorem len_check_time : ∀ ds Q E, D_check_time ds Q E → ds.length = 1 := by
  rintro _ Q E ⟨d, rfl, _⟩
  rfl
theorem rd_check_time : ∀ ds Q E, D_check_time ds Q E → m_check_time (fun c _ => E c) (endP Q) (slots0 1 ds) := by
  rintro _ Q E ⟨d, rfl, q1, q2⟩
  unfold m_check_time
  walk_at "rdm"
  refine ⟨d, rfl, _, rfl, _, rfl, ?_⟩
  cases h : isFrac d with
  | false => exact q2 h
  | true => exact q1 h
section
variable {P : Program} {w : World} {K : PySem.W.Frag} {mg : Str → Option Value} {base : Heap} {CN : String → Option Addr}
theorem ok_check_time {f : Addr} {fd : FuncData} (F : Fun K "check_time" "check_time" s_check_time f fd) (g : G K mg CN) (c_is_fraction : CalP P w K mg base CN 3 "is_fraction" D_is_fraction) : FnG P w K mg base 4 f fd ["time"] (spP K CN D_check_time) := by
  obtain ⟨e_InvalidTime, n_InvalidTime, t_InvalidTime⟩ := g.x_InvalidTime
  have sc := sc_check_time
  exact fun_okP (m := m_check_time) F sc (by decide) len_check_time (fun cdv A outer s H E C W hw hr tk =>
    (pds_one (pds_if (pdt_not (pdt_val (pd_call c_is_fraction hr (by decide) tk (pda_cons (dv 0) pda_nil)))) (pds_one (pds_raise rfl tk t_InvalidTime n_InvalidTime)) pds_nil))) rd_check_time
end
def m__check_all (W : WD) : MS :=
  mSeq (mDrop (mCall D_check_shot W (mCons (mVar 0) (mCons (mVar 1) (mNil)))))
  (mDrop (mCall D_check_time W (mCons (mVar 2) (mNil))))
def D__check_all : PSpec := fun ds Q E => ∃ t v f, ds = [t, v, f] ∧ (isTab t = false → E "InvalidTable") ∧ (isTab t = true → isShot t v = false → E "InvalidShot") ∧ (isTab t = true → isShot t v = true → isFrac f = false → E "InvalidTime") ∧ (isTab t = true → isShot t v = true → isFrac f = true → Q (.va .none))
theorem len__check_all : ∀ ds Q E, D__check_all ds Q E → ds.length = 3 := by
  rintro _ Q E ⟨t, v, f, rfl, _⟩
  rfl
theorem rd__check_all : ∀ ds Q E, D__check_all ds Q E → m__check_all (fun c _ => E c) (endP Q) (slots0 3 ds) := by
  rintro _ Q E ⟨t, v, f, rfl, q1, q2, q3, q4⟩
  unfold m__check_all
  walk_at "rdm"
  exact ⟨t, v, rfl, q1, q2, fun h1 h2 => ⟨⟨_, rfl⟩, f, rfl, fun h3 => ⟨⟨_, rfl⟩, q4 h1 h2 h3⟩, fun h3 => q3 h1 h2 h3⟩⟩
section
variable {P : Program} {w : World} {K : PySem.W.Frag} {mg : Str → Option Value} {base : Heap} {CN : String → Option Addr}
theorem ok__check_all {f : Addr} {fd : FuncData} (F : Fun K "_check_all" "_check_all" s__check_all f fd) (g : G K mg CN) (c_check_shot : CalP P w K mg base CN 6 "check_shot" D_check_shot) (c_check_time : CalP P w K mg base CN 4 "check_time" D_check_time) : FnG P w K mg base 7 f fd ["table", "shot", "time"] (spP K CN D__check_all) := by
  have sc := sc__check_all
  exact fun_okP (m := m__check_all) F sc (by decide) len__check_all (fun cdv A outer s H E C W hw hr tk =>
    (pds_cons (pds_drop (pd_call c_check_shot hr (by decide) tk (pda_cons (dv 0) (pda_cons (dv 1) pda_nil))))
    (pds_one (pds_drop (pd_call c_check_time hr (by decide) tk (pda_cons (dv 2) pda_nil)))))) rd__check_all
end
def m__fold (W : WD) : MS :=
  mSeq (mAsg (mVar 1) (mgTup 2 (mgCons (mgName 2) (mgCons (mgName 3) (mgNil)))))
  (mSeq (mAsg (mOp2 opMod (mVar 2) (mOp2 opMul (mOp2 opMul (mC (.int 2)) (mVar 0)) (mVar 3))) (mgName 4))
  (mSeq (mIf (mT (mOp2 opLe (mVar 4) (mOp2 opMul (mVar 0) (mVar 3)))) (mRet (mrOf (mTup (mCons (mVar 4) (mCons (mVar 3) (mNil)))))) (mNext))
  (mRet (mrOf (mTup (mCons (mOp2 opSub (mOp2 opMul (mOp2 opMul (mC (.int 2)) (mVar 0)) (mVar 3)) (mVar 4)) (mCons (mVar 3) (mNil))))))))
def foldD (s t b : Int) : PyData := if t % (2 * s * b) ≤ s * b then .tuple [.int (t % (2 * s * b)), .int b] else .tuple [.int (2 * s * b - t % (2 * s * b)), .int b]
def D__fold : PSpec := fun ds Q _ => ∃ s t b, ds = [.int s, .tuple [.int t, .int b]] ∧ 1 ≤ s ∧ 1 ≤ b ∧ sz 8000 s ∧ sz 8000 b ∧ Q (.va (foldD s t b))
theorem len__fold : ∀ ds Q E, D__fold ds Q E → ds.length = 2 := by
  rintro _ Q E ⟨s, t, b, rfl, _⟩
  rfl
theorem rd__fold : ∀ ds Q E, D__fold ds Q E → m__fold (fun c _ => E c) (endP Q) (slots0 5 ds) := by
  rintro _ Q E ⟨s, t, b, rfl, hs, hb, zs, zb, q⟩
  have z2 : sz 2 2 := by unfold sz; decide
  have m1 : opMul (.int 2) (.int s) = some (.int (2 * s)) := opMul_ok z2 zs (by decide)
  have m2 : opMul (.int (2 * s)) (.int b) = some (.int (2 * s * b)) := opMul_ok (sz_mul z2 zs) zb (by decide)
  have m3 : opMul (.int s) (.int b) = some (.int (s * b)) := opMul_ok zs zb (by decide)
  have p1 : 0 < s * b := Int.mul_pos (by omega) (by omega)
  have p2 : 0 < 2 * s * b := Int.mul_pos (by omega) (by omega)
  have m4 : opMod (.int t) (.int (2 * s * b)) = some (.int (t % (2 * s * b))) := opMod_ok p2
  unfold m__fold
  walk_at "rdn"
  refine ⟨_, m1, _, m2, _, m4, _, m3, _, rfl, _, rfl, ?_⟩
  by_cases h : t % (2 * s * b) ≤ s * b
  · rw [if_pos (decide_eq_true h)]
    rw [foldD, if_pos h] at q
    exact q
  · rw [if_neg (by simpa using h)]
    rw [foldD, if_neg h] at q
    exact ⟨_, m1, _, m2, _, rfl, q⟩
/-- what a fold is: R behind it, as many parts of B -/
theorem fold_is {s T B : Int} (hs : 1 ≤ s) (hB : 1 ≤ B) : ∃ R k, foldD s T B = .tuple [.int R, .int B] ∧ (R = T + B * k ∨ R = -T + B * k) ∧ (R = T % (2 * s * B) ∧ T % (2 * s * B) ≤ s * B ∨ R = 2 * s * B - T % (2 * s * B) ∧ s * B < T % (2 * s * B)) := by
  have e := Int.emod_add_mul_ediv T (2 * s * B)
  unfold foldD
  by_cases h : T % (2 * s * B) ≤ s * B
  · rw [if_pos h]
    refine ⟨_, -(2 * s * (T / (2 * s * B))), rfl, .inl ?_, .inl ⟨rfl, h⟩⟩
    have : 2 * s * B * (T / (2 * s * B)) = B * (2 * s * (T / (2 * s * B))) := by simp only [Int.mul_assoc, Int.mul_comm, Int.mul_left_comm]
    rw [Int.mul_neg]
    omega
  · rw [if_neg h]
    refine ⟨_, 2 * s + 2 * s * (T / (2 * s * B)), rfl, .inr ?_, .inr ⟨rfl, by omega⟩⟩
    have e2 : 2 * s * B * (T / (2 * s * B)) = B * (2 * s * (T / (2 * s * B))) := by simp only [Int.mul_assoc, Int.mul_comm, Int.mul_left_comm]
    have e3 : 2 * s * B = B * (2 * s) := by simp only [Int.mul_assoc, Int.mul_comm, Int.mul_left_comm]
    rw [Int.mul_add]
    omega
section
variable {P : Program} {w : World} {K : PySem.W.Frag} {mg : Str → Option Value} {base : Heap} {CN : String → Option Addr}
theorem ok__fold {f : Addr} {fd : FuncData} (F : Fun K "_fold" "_fold" s__fold f fd) (g : G K mg CN)  : FnG P w K mg base 1 f fd ["side", "number"] (spP K CN D__fold) := by
  have sc := sc__fold
  exact fun_okP (m := m__fold) F sc (by decide) len__fold (fun cdv A outer s H E C W hw hr tk =>
    (pds_cons (pds_asg (ps_asg (dv 1) (pdg_tup rfl (gcons (dg 2 sc.nd) (gcons (dg 3 sc.nd) pdgs_nil)))))
    (pds_cons (pds_asg (ps_asg (pd_op op_mod rl_mod (dv 2) (pd_op or_mul rl_mul (pd_op or_mul rl_mul pd_int (dv 0)) (dv 3))) (dg 4 sc.nd)))
    (pds_cons (pds_if (pdt_cmp op_le rl_cmpI (dv 4) (pd_op or_mul rl_mul (dv 0) (dv 3)) (nomark _)) (pds_one (pds_ret (pdr_of (pd_tup (pda_cons (dv 4) (pda_cons (dv 3) pda_nil)))))) pds_nil)
    (pds_one (pds_ret (pdr_of (pd_tup (pda_cons (pd_op op_sub rl_sub (pd_op or_mul rl_mul (pd_op or_mul rl_mul pd_int (dv 0)) (dv 3)) (dv 4)) (pda_cons (dv 3) pda_nil)))))))))) rd__fold
end
end LW
namespace LW
open PySem PySem.Spec PyProof.Rows L2 DL
def m__place (W : WD) : MS :=
  mSeq (mAsg (mVar 2) (mgTup 2 (mgCons (mgName 3) (mgCons (mgName 4) (mgNil)))))
  (mRet (mrOf (mCallB bTup (mCons (mLc (miSeq (mCall D_lines_of W (mCons (mVar 0) (mCons (mVar 1) (mNil))))) (mgTup 3 (mgCons (mgName 5) (mgCons (mgName 6) (mgCons (mgName 7) (mgNil))))) (mTYes) (mCall D__fold wF (mCons (mVar 5) (mCons (mCall D_fraction_of wF (mCons (mOp2 opAdd (mOp2 opMul (mVar 6) (mVar 4)) (mOp2 opMul (mVar 7) (mVar 3))) (mCons (mVar 4) (mNil)))) (mNil)))) [5, 6, 7]) mNil))))
/-- a number behind n / m: folded, in lowest terms -/
def placeL (s a v n m : Int) : PyData := foldD s ((a * m + v * n) / (Nat.gcd (a * m + v * n).natAbs m.natAbs : Nat)) (m / (Nat.gcd (a * m + v * n).natAbs m.natAbs : Nat))
def placeN (s a v n m : Int) : PyData := placeL s (lineA v a) (lineV v) n m
def placeK (n m : Int) : PyData → Option PyData
  | .tuple [.int s, .int a, .int v] => some (placeL s a v n m)
  | _ => none
def D__place : PSpec := fun ds Q _ => ∃ a b x y p q n m, ds = [.tuple [.int a, .int b], .tuple [.int x, .int y, .int p, .int q], .tuple [.int n, .int m]] ∧ 1 ≤ a ∧ 1 ≤ b ∧ 1 ≤ m ∧ sz 1000 a ∧ sz 1000 b ∧ sz 1000 x ∧ sz 1000 y ∧ sz 1000 p ∧ sz 1000 q ∧ sz 7000 n ∧ sz 7000 m ∧ Q (.va (.tuple [placeN a x p n m, placeN b y q n m]))
theorem len__place : ∀ ds Q E, D__place ds Q E → ds.length = 3 := by
  rintro _ Q E ⟨a, b, x, y, p, q, n, m, rfl, _⟩
  rfl
theorem rd__place : ∀ ds Q E, D__place ds Q E → m__place (fun c _ => E c) (endP Q) (slots0 8 ds) := by
  rintro _ Q E ⟨a, b, x, y, p, q, n, m, rfl, ha, hb, hm, za, zb, zx, zy, zp, zq, zn, zm, hQ⟩
  unfold m__place
  walk_at "rdn"
  refine ⟨a, b, x, y, p, q, rfl, _, rfl, ?_⟩
  refine ⟨_, rfl, rfl, ?_⟩
  have big : ∀ {u : Int}, sz 1000 u → sz 8000 u := fun h => sz_mono h (by decide)
  have zm8 : sz 8000 m := sz_mono zm (by decide)
  have le : ∀ {t : Int}, sz 8000 (m / (Nat.gcd t.natAbs m.natAbs : Nat)) := fun {t} => sz_div zm8 (gcd_pos hm)
  have one : ∀ s u v : Int, 1 ≤ s → sz 1000 s → sz 1000 u → sz 1000 v → ∀ (x5 x6 x7 : S) (Y : PyData → DSt → Prop), (∀ x5 x6 x7, Y (placeL s u v n m) [.va (.tuple [.int a, .int b]), .va (.tuple [.int x, .int y, .int p, .int q]), .va (.tuple [.int n, .int m]), .va (.int n), .va (.int m), x5, x6, x7]) →
      mgTup 3 (mgCons (mgName 5) (mgCons (mgName 6) (mgCons (mgName 7) mgNil))) (.tuple [.int s, .int u, .int v]) [.va (.tuple [.int a, .int b]), .va (.tuple [.int x, .int y, .int p, .int q]), .va (.tuple [.int n, .int m]), .va (.int n), .va (.int m), x5, x6, x7] fun s1 =>
        mTYes s1 fun b s2 => if b = true then mCall D__fold wF (mCons (mVar 5) (mCons (mCall D_fraction_of wF (mCons (mOp2 opAdd (mOp2 opMul (mVar 6) (mVar 4)) (mOp2 opMul (mVar 7) (mVar 3))) (mCons (mVar 4) mNil))) mNil)) s2 Y else False := by
    intro s u v hs zs zu zv x5 x6 x7 Y hY
    walk_at "rdn"
    exact ⟨_, opMul_ok zu zm (by decide), _, opMul_ok zv zn (by decide), _, rfl, _, _, rfl, hm, zm8, _, rfl, s, _, _, rfl, hs, div_gcd_pos hm, big zs, le, _, rfl, hY _ _ _⟩
  refine lcL_run (fun s => ∃ x5 x6 x7, s = [.va (.tuple [.int a, .int b]), .va (.tuple [.int x, .int y, .int p, .int q]), .va (.tuple [.int n, .int m]), .va (.int n), .va (.int m), x5, x6, x7]) (placeK n m) _ ?_ _ [] ⟨_, _, _, rfl⟩ (by simp) ?_
  · rintro d hd s ⟨x5, x6, x7, rfl⟩ Y N hY hN
    simp only [List.mem_cons, List.not_mem_nil, or_false] at hd
    simp only [swipe, sset]
    rcases hd with rfl | rfl
    · rw [lineD_eq] at hY ⊢
      exact one _ _ _ ha za (sz_lineA zx) (sz_lineV zp) _ _ _ Y fun _ _ _ => hY _ _ rfl ⟨_, _, _, rfl⟩
    · rw [lineD_eq] at hY ⊢
      exact one _ _ _ hb zb (sz_lineA zy) (sz_lineV zq) _ _ _ Y fun _ _ _ => hY _ _ rfl ⟨_, _, _, rfl⟩
  · rintro s ⟨x5, x6, x7, rfl⟩
    rw [lineD_eq, lineD_eq]
    exact hQ
section
variable {P : Program} {w : World} {K : PySem.W.Frag} {mg : Str → Option Value} {base : Heap} {CN : String → Option Addr}
theorem ok__place {f : Addr} {fd : FuncData} (F : Fun K "_place" "_place" s__place f fd) (g : G K mg CN) (c__fold : CalP P w K mg base CN 1 "_fold" D__fold) (c_fraction_of : CalP P w K mg base CN 1 "fraction_of" D_fraction_of) (c_lines_of : CalP P w K mg base CN 2 "lines_of" D_lines_of) : FnG P w K mg base 3 f fd ["table", "shot", "time"] (spP K CN D__place) := by
  have sc := sc__place
  exact fun_okP (m := m__place) F sc (by decide) len__place (fun cdv A outer s H E C W hw hr tk =>
    (pds_cons (pds_asg (ps_asg (dv 2) (pdg_tup rfl (gcons (dg 3 sc.nd) (gcons (dg 4 sc.nd) pdgs_nil)))))
    (pds_one (pds_ret (pdr_of (pd_tupOf g.b_tuple (pd_lc (pe_lc (own := [("side", 5), ("start", 6), ("speed", 7)]) rfl sc.nd (pdi_seq (pd_call c_lines_of hr (by decide) tk (pda_cons (dv 0) (pda_cons (dv 1) pda_nil)))) (blkOk_by (N := ["table", "shot", "time", "top", "bottom", "side", "start", "speed"]) (sc := (defScope s__place)) (by decide +kernel)) (fun _ _ _ _ _ => (pdgv_tup rfl (gvcons (dgv 5 (vs := [5, 6, 7]) sc.nd) (gvcons (dgv 6 (vs := [5, 6, 7]) sc.nd) (gvcons (dgv 7 (vs := [5, 6, 7]) sc.nd) pdgsv_nil))))) (fun _ _ _ _ _ => pdts_nil) (fun _ _ _ _ _ => (pd_call c__fold hr (by decide) takesF (pda_cons (dv 5) (pda_cons (pd_call c_fraction_of hr (by decide) takesF (pda_cons (pd_op or_add rl_add (pd_op or_mul rl_mul (dv 6) (dv 4)) (pd_op or_mul rl_mul (dv 7) (dv 3))) (pda_cons (dv 4) pda_nil))) pda_nil)))))))))))) rd__place
end
end LW
namespace LW
open PySem PySem.Spec PyProof.Rows L2 DL
def m_place_at (W : WD) : MS :=
  mSeq (mDrop (mCall D__check_all W (mCons (mVar 0) (mCons (mVar 1) (mCons (mVar 2) (mNil))))))
  (mRet (mrOf (mCall D__place W (mCons (mVar 0) (mCons (mVar 1) (mCons (mVar 2) (mNil)))))))
def placeD : PyData → PyData → PyData → PyData
  | .tuple [.int a, .int b], .tuple [.int x, .int y, .int p, .int q], .tuple [.int n, .int m] => .tuple [placeN a x p n m, placeN b y q n m]
  | _, _, _ => .none
def D_place_at : PSpec := fun ds Q E => ∃ t v f, ds = [t, v, f] ∧ (isTab t = false → E "InvalidTable") ∧ (isTab t = true → isShot t v = false → E "InvalidShot") ∧ (isTab t = true → isShot t v = true → isFrac f = false → E "InvalidTime") ∧ (isTab t = true → isShot t v = true → isFrac f = true → szD t ∧ szD v ∧ szH 7000 f ∧ Q (.va (placeD t v f)))
theorem len_place_at : ∀ ds Q E, D_place_at ds Q E → ds.length = 3 := by
  rintro _ Q E ⟨t, v, f, rfl, _⟩
  rfl
theorem rd_place_at : ∀ ds Q E, D_place_at ds Q E → m_place_at (fun c _ => E c) (endP Q) (slots0 3 ds) := by
  rintro _ Q E ⟨t, v, f, rfl, q1, q2, q3, q4⟩
  unfold m_place_at
  walk_at "rdn"
  refine ⟨t, v, f, rfl, q1, q2, q3, fun h1 h2 h3 => ⟨⟨_, rfl⟩, ?_⟩⟩
  obtain ⟨z1, z2, z3, q⟩ := q4 h1 h2 h3
  obtain ⟨a, b, x, y, p, r, rfl, rfl, -⟩ := shot_inv h2
  obtain ⟨n, m, rfl, hm, -⟩ := frac_inv h3
  simp only [isTab, Bool.and_eq_true, decide_eq_true_eq] at h1
  exact ⟨a, b, x, y, p, r, n, m, rfl, h1.1, h1.2, hm, z1.1, z1.2, z2.1, z2.2.1, z2.2.2.1, z2.2.2.2, z3.1, z3.2, _, rfl, q⟩
section
variable {P : Program} {w : World} {K : PySem.W.Frag} {mg : Str → Option Value} {base : Heap} {CN : String → Option Addr}
theorem ok_place_at {f : Addr} {fd : FuncData} (F : Fun K "place_at" "place_at" s_place_at f fd) (g : G K mg CN) (c__check_all : CalP P w K mg base CN 7 "_check_all" D__check_all) (c__place : CalP P w K mg base CN 3 "_place" D__place) : FnG P w K mg base 8 f fd ["table", "shot", "time"] (spP K CN D_place_at) := by
  have sc := sc_place_at
  exact fun_okP (m := m_place_at) F sc (by decide) len_place_at (fun cdv A outer s H E C W hw hr tk =>
    (pds_cons (pds_drop (pd_call c__check_all hr (by decide) tk (pda_cons (dv 0) (pda_cons (dv 1) (pda_cons (dv 2) pda_nil)))))
    (pds_one (pds_ret (pdr_of (pd_call c__place hr (by decide) tk (pda_cons (dv 0) (pda_cons (dv 1) (pda_cons (dv 2) pda_nil))))))))) rd_place_at
end
end LW
namespace LW
open PySem PySem.Spec PyProof.Rows L2 DL
def m__line_way (W : WD) : MS :=
  mSeq (mAsg (mVar 0) (mgTup 3 (mgCons (mgName 2) (mgCons (mgName 3) (mgCons (mgName 4) (mgNil))))))
  (mSeq (mAsg (mVar 1) (mgTup 2 (mgCons (mgName 5) (mgCons (mgName 6) (mgNil)))))
  (mSeq (mAsg (mOp2 opFdiv (mOp2 opAdd (mOp2 opMul (mVar 3) (mVar 6)) (mOp2 opMul (mVar 4) (mVar 5))) (mOp2 opMul (mVar 2) (mVar 6))) (mgName 7))
  (mSeq (mIf (mT (mOp2 opEq (mOp2 opMod (mVar 7) (mC (.int 2))) (mC (.int 0)))) (mRet (mrOf (mVar 4))) (mNext))
  (mRet (mrOf (mOp1 opNeg (mVar 4)))))))
def wayL (s a v n m : Int) : Int := if (a * m + v * n) / (s * m) % 2 = 0 then v else -v
def D__line_way : PSpec := fun ds Q _ => ∃ s a v n m, ds = [.tuple [.int s, .int a, .int v], .tuple [.int n, .int m]] ∧ 1 ≤ s ∧ 1 ≤ m ∧ sz 1000 s ∧ sz 1000 a ∧ sz 1000 v ∧ sz 1000 n ∧ sz 1000 m ∧ Q (.va (.int (wayL s a v n m)))
theorem len__line_way : ∀ ds Q E, D__line_way ds Q E → ds.length = 2 := by
  rintro _ Q E ⟨s, a, v, n, m, rfl, _⟩
  rfl
theorem rd__line_way : ∀ ds Q E, D__line_way ds Q E → m__line_way (fun c _ => E c) (endP Q) (slots0 8 ds) := by
  rintro _ Q E ⟨s, a, v, n, m, rfl, hs, hm, zs, za, zv, zn, zm, q⟩
  unfold m__line_way
  walk_at "rdn"
  refine ⟨_, opMul_ok za zm (by decide), _, opMul_ok zv zn (by decide), _, rfl, _, opMul_ok zs zm (by decide), _, opFdiv_ok (Int.mul_pos (by omega) (by omega)) (sz_mul zs zm) (by decide), _, opMod_ok (by decide), _, opEq_int, _, rfl, ?_⟩
  by_cases h : (a * m + v * n) / (s * m) % 2 = 0
  · rw [if_pos (decide_eq_true h)]
    rw [wayL, if_pos h] at q
    exact q
  · rw [if_neg (by simpa using h)]
    rw [wayL, if_neg h] at q
    exact q
section
variable {P : Program} {w : World} {K : PySem.W.Frag} {mg : Str → Option Value} {base : Heap} {CN : String → Option Addr}
theorem ok__line_way {f : Addr} {fd : FuncData} (F : Fun K "_line_way" "_line_way" s__line_way f fd) (g : G K mg CN)  : FnG P w K mg base 1 f fd ["line", "time"] (spP K CN D__line_way) := by
  have sc := sc__line_way
  exact fun_okP (m := m__line_way) F sc (by decide) len__line_way (fun cdv A outer s H E C W hw hr tk =>
    (pds_cons (pds_asg (ps_asg (dv 0) (pdg_tup rfl (gcons (dg 2 sc.nd) (gcons (dg 3 sc.nd) (gcons (dg 4 sc.nd) pdgs_nil))))))
    (pds_cons (pds_asg (ps_asg (dv 1) (pdg_tup rfl (gcons (dg 5 sc.nd) (gcons (dg 6 sc.nd) pdgs_nil)))))
    (pds_cons (pds_asg (ps_asg (pd_op op_fdivW rl_fdiv (pd_op or_add rl_add (pd_op or_mul rl_mul (dv 3) (dv 6)) (pd_op or_mul rl_mul (dv 4) (dv 5))) (pd_op or_mul rl_mul (dv 2) (dv 6))) (dg 7 sc.nd)))
    (pds_cons (pds_if (pdt_cmp (or_eqD (RoomG.u64 hr)) rl_eq (pd_op op_mod rl_mod (dv 7) pd_int) pd_int (nomark _)) (pds_one (pds_ret (pdr_of (dv 4)))) pds_nil)
    (pds_one (pds_ret (pdr_of (pd_un un_neg rl_neg (dv 4)))))))))) rd__line_way
end
def m__way (W : WD) : MS :=
  mRet (mrOf (mCallB bTup (mCons (mLc (miSeq (mCall D_lines_of W (mCons (mVar 0) (mCons (mVar 1) (mNil))))) (mgName 3) (mTYes) (mCall D__line_way wF (mCons (mVar 3) (mCons (mVar 2) (mNil)))) [3]) mNil)))
def wayN (s a v n m : Int) : Int := wayL s (lineA v a) (lineV v) n m
def wayK (n m : Int) : PyData → Option PyData
  | .tuple [.int s, .int a, .int v] => some (.int (wayL s a v n m))
  | _ => none
def D__way : PSpec := fun ds Q _ => ∃ a b x y p q n m, ds = [.tuple [.int a, .int b], .tuple [.int x, .int y, .int p, .int q], .tuple [.int n, .int m]] ∧ 1 ≤ a ∧ 1 ≤ b ∧ 1 ≤ m ∧ sz 1000 a ∧ sz 1000 b ∧ sz 1000 x ∧ sz 1000 y ∧ sz 1000 p ∧ sz 1000 q ∧ sz 1000 n ∧ sz 1000 m ∧ Q (.va (.tuple [.int (wayN a x p n m), .int (wayN b y q n m)]))
theorem len__way : ∀ ds Q E, D__way ds Q E → ds.length = 3 := by
  rintro _ Q E ⟨a, b, x, y, p, q, n, m, rfl, _⟩
  rfl
theorem rd__way : ∀ ds Q E, D__way ds Q E → m__way (fun c _ => E c) (endP Q) (slots0 4 ds) := by
  rintro _ Q E ⟨a, b, x, y, p, q, n, m, rfl, ha, hb, hm, za, zb, zx, zy, zp, zq, zn, zm, hQ⟩
  unfold m__way
  walk_at "rdn"
  refine ⟨a, b, x, y, p, q, rfl, _, rfl, _, rfl, rfl, ?_⟩
  refine lcL_run (fun s => ∃ x3, s = [.va (.tuple [.int a, .int b]), .va (.tuple [.int x, .int y, .int p, .int q]), .va (.tuple [.int n, .int m]), x3]) (wayK n m) _ ?_ _ [] ⟨_, rfl⟩ (by simp) ?_
  · rintro d hd s ⟨x3, rfl⟩ Y N hY hN
    simp only [List.mem_cons, List.not_mem_nil, or_false] at hd
    simp only [swipe, sset]
    rcases hd with rfl | rfl
    · rw [lineD_eq] at hY ⊢
      walk_at "rdn"
      exact ⟨_, _, _, n, m, rfl, ha, hm, za, sz_lineA zx, sz_lineV zp, zn, zm, _, rfl, hY _ _ rfl ⟨_, rfl⟩⟩
    · rw [lineD_eq] at hY ⊢
      walk_at "rdn"
      exact ⟨_, _, _, n, m, rfl, hb, hm, zb, sz_lineA zy, sz_lineV zq, zn, zm, _, rfl, hY _ _ rfl ⟨_, rfl⟩⟩
  · rintro s ⟨x3, rfl⟩
    rw [lineD_eq, lineD_eq]
    exact hQ
section
variable {P : Program} {w : World} {K : PySem.W.Frag} {mg : Str → Option Value} {base : Heap} {CN : String → Option Addr}
theorem ok__way {f : Addr} {fd : FuncData} (F : Fun K "_way" "_way" s__way f fd) (g : G K mg CN) (c__line_way : CalP P w K mg base CN 1 "_line_way" D__line_way) (c_lines_of : CalP P w K mg base CN 2 "lines_of" D_lines_of) : FnG P w K mg base 3 f fd ["table", "shot", "time"] (spP K CN D__way) := by
  have sc := sc__way
  exact fun_okP (m := m__way) F sc (by decide) len__way (fun cdv A outer s H E C W hw hr tk =>
    (pds_one (pds_ret (pdr_of (pd_tupOf g.b_tuple (pd_lc (pe_lc (own := [("line", 3)]) rfl sc.nd (pdi_seq (pd_call c_lines_of hr (by decide) tk (pda_cons (dv 0) (pda_cons (dv 1) pda_nil)))) (blkOk_by (N := ["table", "shot", "time", "line"]) (sc := (defScope s__way)) (by decide +kernel)) (fun _ _ _ _ _ => (dgv 3 (vs := [3]) sc.nd)) (fun _ _ _ _ _ => pdts_nil) (fun _ _ _ _ _ => (pd_call c__line_way hr (by decide) takesF (pda_cons (dv 3) (pda_cons (dv 2) pda_nil))))))))))) rd__way
end
end LW
namespace LW
open PySem PySem.Spec PyProof.Rows L2 DL
def m_shot_at (W : WD) : MS :=
  mSeq (mDrop (mCall D__check_all W (mCons (mVar 0) (mCons (mVar 1) (mCons (mVar 2) (mNil))))))
  (mSeq (mAsg (mCall D__place W (mCons (mVar 0) (mCons (mVar 1) (mCons (mVar 2) (mNil))))) (mgTup 2 (mgCons (mgTup 2 (mgCons (mgName 3) (mgCons (mgName 4) (mgNil)))) (mgCons (mgTup 2 (mgCons (mgName 5) (mgCons (mgName 6) (mgNil)))) (mgNil)))))
  (mSeq (mIf (mTOr (mT (mOp2 opNe (mVar 4) (mC (.int 1)))) (mT (mOp2 opNe (mVar 6) (mC (.int 1))))) (mRet (mrOf (mC .none))) (mNext))
  (mSeq (mAsg (mCall D__way W (mCons (mVar 0) (mCons (mVar 1) (mCons (mVar 2) (mNil))))) (mgTup 2 (mgCons (mgName 7) (mgCons (mgName 8) (mgNil)))))
  (mRet (mrOf (mTup (mCons (mVar 3) (mCons (mVar 5) (mCons (mVar 7) (mCons (mVar 8) (mNil)))))))))))
def pairN : PyData → Int × Int
  | .tuple [.int a, .int b] => (a, b)
  | _ => (0, 0)
theorem place_pair {s a v n m : Int} (hs : 1 ≤ s) (hm : 1 ≤ m) : placeN s a v n m = .tuple [.int (pairN (placeN s a v n m)).1, .int (pairN (placeN s a v n m)).2] := by
  obtain ⟨R, k, e, _⟩ := fold_is (T := (lineA v a * m + lineV v * n) / (Nat.gcd (lineA v a * m + lineV v * n).natAbs m.natAbs : Nat)) hs (div_gcd_pos (t := lineA v a * m + lineV v * n) hm)
  have e2 : placeN s a v n m = _ := e
  rw [e2]
  rfl
def shotN (a b x y p q n m : Int) : PyData := if (pairN (placeN a x p n m)).2 = 1 ∧ (pairN (placeN b y q n m)).2 = 1 then .tuple [.int (pairN (placeN a x p n m)).1, .int (pairN (placeN b y q n m)).1, .int (wayN a x p n m), .int (wayN b y q n m)] else .none
def shotD : PyData → PyData → PyData → PyData
  | .tuple [.int a, .int b], .tuple [.int x, .int y, .int p, .int q], .tuple [.int n, .int m] => shotN a b x y p q n m
  | _, _, _ => .none
def D_shot_at : PSpec := fun ds Q E => ∃ t v f, ds = [t, v, f] ∧ (isTab t = false → E "InvalidTable") ∧ (isTab t = true → isShot t v = false → E "InvalidShot") ∧ (isTab t = true → isShot t v = true → isFrac f = false → E "InvalidTime") ∧ (isTab t = true → isShot t v = true → isFrac f = true → szD t ∧ szD v ∧ szD f ∧ Q (.va (shotD t v f)))
theorem len_shot_at : ∀ ds Q E, D_shot_at ds Q E → ds.length = 3 := by
  rintro _ Q E ⟨t, v, f, rfl, _⟩
  rfl
theorem rd_shot_at : ∀ ds Q E, D_shot_at ds Q E → m_shot_at (fun c _ => E c) (endP Q) (slots0 9 ds) := by
  rintro _ Q E ⟨t, v, f, rfl, q1, q2, q3, q4⟩
  unfold m_shot_at
  walk_at "rdn"
  refine ⟨t, v, f, rfl, q1, q2, q3, fun h1 h2 h3 => ⟨⟨_, rfl⟩, ?_⟩⟩
  obtain ⟨z1, z2, z3, q⟩ := q4 h1 h2 h3
  obtain ⟨a, b, x, y, p, r, rfl, rfl, -⟩ := shot_inv h2
  obtain ⟨n, m, rfl, hm, -⟩ := frac_inv h3
  simp only [isTab, Bool.and_eq_true, decide_eq_true_eq] at h1
  refine ⟨a, b, x, y, p, r, n, m, rfl, h1.1, h1.2, hm, z1.1, z1.2, z2.1, z2.2.1, z2.2.2.1, z2.2.2.2, sz_mono z3.1 (by decide), sz_mono z3.2 (by decide), _, rfl, ?_⟩
  rw [place_pair (a := x) (v := p) (n := n) h1.1 hm, place_pair (a := y) (v := r) (n := n) h1.2 hm]
  have q' : Q (.va (shotN a b x y p r n m)) := q
  unfold shotN at q'
  generalize pairN (placeN a x p n m) = A at *
  generalize pairN (placeN b y r n m) = B at *
  walk_at "rdn"
  by_cases hA : A.2 = 1
  · rw [if_neg (by simp [hA])]
    by_cases hB : B.2 = 1
    · rw [if_neg (by simp [hB])]
      refine ⟨a, b, x, y, p, r, n, m, rfl, h1.1, h1.2, hm, z1.1, z1.2, z2.1, z2.2.1, z2.2.2.1, z2.2.2.2, z3.1, z3.2, _, rfl, ?_⟩
      walk_at "rdn"
      rw [if_pos ⟨hA, hB⟩] at q'
      exact q'
    · rw [if_pos (by simpa using hB)]
      rw [if_neg (fun h => hB h.2)] at q'
      exact q'
  · rw [if_pos (by simpa using hA)]
    rw [if_neg (fun h => hA h.1)] at q'
    exact q'
section
variable {P : Program} {w : World} {K : PySem.W.Frag} {mg : Str → Option Value} {base : Heap} {CN : String → Option Addr}
theorem ok_shot_at {f : Addr} {fd : FuncData} (F : Fun K "shot_at" "shot_at" s_shot_at f fd) (g : G K mg CN) (c__check_all : CalP P w K mg base CN 7 "_check_all" D__check_all) (c__place : CalP P w K mg base CN 3 "_place" D__place) (c__way : CalP P w K mg base CN 3 "_way" D__way) : FnG P w K mg base 8 f fd ["table", "shot", "time"] (spP K CN D_shot_at) := by
  have sc := sc_shot_at
  exact fun_okP (m := m_shot_at) F sc (by decide) len_shot_at (fun cdv A outer s H E C W hw hr tk =>
    (pds_cons (pds_drop (pd_call c__check_all hr (by decide) tk (pda_cons (dv 0) (pda_cons (dv 1) (pda_cons (dv 2) pda_nil)))))
    (pds_cons (pds_asg (ps_asg (pd_call c__place hr (by decide) tk (pda_cons (dv 0) (pda_cons (dv 1) (pda_cons (dv 2) pda_nil)))) (pdg_tup rfl (gcons (pdg_tup rfl (gcons (dg 3 sc.nd) (gcons (dg 4 sc.nd) pdgs_nil))) (gcons (pdg_tup rfl (gcons (dg 5 sc.nd) (gcons (dg 6 sc.nd) pdgs_nil))) pdgs_nil)))))
    (pds_cons (pds_if (pdt_ofw (pdw_or (pdt_cmp (or_neD (RoomG.u64 hr)) rl_ne (dv 4) pd_int (nomark _)) (pdw_or1 (pdt_cmp (or_neD (RoomG.u64 hr)) rl_ne (dv 6) pd_int (nomark _))))) (pds_one (pds_ret (pdr_of pd_non))) pds_nil)
    (pds_cons (pds_asg (ps_asg (pd_call c__way hr (by decide) tk (pda_cons (dv 0) (pda_cons (dv 1) (pda_cons (dv 2) pda_nil)))) (pdg_tup rfl (gcons (dg 7 sc.nd) (gcons (dg 8 sc.nd) pdgs_nil)))))
    (pds_one (pds_ret (pdr_of (pd_tup (pda_cons (dv 3) (pda_cons (dv 5) (pda_cons (dv 7) (pda_cons (dv 8) pda_nil))))))))))))) rd_shot_at
end
end LW
namespace LW
open PySem PySem.Spec PyProof.Rows L2 DL
def m_turned (W : WD) : MS :=
  mSeq (mIf (mTNot (mT (mCall D_is_any_shot W (mCons (mVar 0) (mNil))))) (mRaise "InvalidShot" W) (mNext))
  (mSeq (mAsg (mVar 0) (mgTup 4 (mgCons (mgName 1) (mgCons (mgName 2) (mgCons (mgName 3) (mgCons (mgName 4) (mgNil)))))))
  (mRet (mrOf (mTup (mCons (mVar 1) (mCons (mVar 2) (mCons (mOp1 opNeg (mVar 3)) (mCons (mOp1 opNeg (mVar 4)) (mNil)))))))))
def D_turned : PSpec := fun ds Q E => ∃ v, ds = [v] ∧ (isAny v = false → E "InvalidShot") ∧ ∀ x y p q, v = .tuple [.int x, .int y, .int p, .int q] → isAny v = true → Q (.va (.tuple [.int x, .int y, .int (-p), .int (-q)]))
theorem len_turned : ∀ ds Q E, D_turned ds Q E → ds.length = 1 := by
  rintro _ Q E ⟨v, rfl, _⟩
  rfl
theorem rd_turned : ∀ ds Q E, D_turned ds Q E → m_turned (fun c _ => E c) (endP Q) (slots0 5 ds) := by
  rintro _ Q E ⟨v, rfl, q1, q2⟩
  unfold m_turned
  walk_at "rdn"
  refine ⟨v, rfl, _, rfl, _, rfl, ?_⟩
  cases h : isAny v with
  | false => exact q1 h
  | true =>
    obtain ⟨x, y, p, q, rfl, -⟩ := any_inv h
    rw [if_neg (by decide)]
    walk_at "rdn"
    exact q2 x y p q rfl h
section
variable {P : Program} {w : World} {K : PySem.W.Frag} {mg : Str → Option Value} {base : Heap} {CN : String → Option Addr}
theorem ok_turned {f : Addr} {fd : FuncData} (F : Fun K "turned" "turned" s_turned f fd) (g : G K mg CN) (c_is_any_shot : CalP P w K mg base CN 3 "is_any_shot" D_is_any_shot) : FnG P w K mg base 4 f fd ["shot"] (spP K CN D_turned) := by
  obtain ⟨e_InvalidShot, n_InvalidShot, t_InvalidShot⟩ := g.x_InvalidShot
  have sc := sc_turned
  exact fun_okP (m := m_turned) F sc (by decide) len_turned (fun cdv A outer s H E C W hw hr tk =>
    (pds_cons (pds_if (pdt_not (pdt_val (pd_call c_is_any_shot hr (by decide) tk (pda_cons (dv 0) pda_nil)))) (pds_one (pds_raise rfl tk t_InvalidShot n_InvalidShot)) pds_nil)
    (pds_cons (pds_asg (ps_asg (dv 0) (pdg_tup rfl (gcons (dg 1 sc.nd) (gcons (dg 2 sc.nd) (gcons (dg 3 sc.nd) (gcons (dg 4 sc.nd) pdgs_nil)))))))
    (pds_one (pds_ret (pdr_of (pd_tup (pda_cons (dv 1) (pda_cons (dv 2) (pda_cons (pd_un un_neg rl_neg (dv 3)) (pda_cons (pd_un un_neg rl_neg (dv 4)) pda_nil))))))))))) rd_turned
end
def m_scaled (W : WD) : MS :=
  mSeq (mDrop (mCall D_check_shot W (mCons (mVar 0) (mCons (mVar 1) (mNil)))))
  (mSeq (mIf (mTOr (mTNot (mT (mCall D_is_whole W (mCons (mVar 2) (mNil))))) (mT (mOp2 opLt (mVar 2) (mC (.int 1))))) (mRaise "InvalidNumber" W) (mNext))
  (mSeq (mAsg (mVar 0) (mgTup 2 (mgCons (mgName 3) (mgCons (mgName 4) (mgNil)))))
  (mSeq (mAsg (mVar 1) (mgTup 4 (mgCons (mgName 5) (mgCons (mgName 6) (mgCons (mgName 7) (mgCons (mgName 8) (mgNil)))))))
  (mRet (mrOf (mTup (mCons (mTup (mCons (mOp2 opMul (mVar 3) (mVar 2)) (mCons (mOp2 opMul (mVar 4) (mVar 2)) (mNil)))) (mCons (mTup (mCons (mOp2 opMul (mVar 5) (mVar 2)) (mCons (mOp2 opMul (mVar 6) (mVar 2)) (mCons (mVar 7) (mCons (mVar 8) (mNil)))))) (mNil)))))))))
def D_scaled : PSpec := fun ds Q E => ∃ t v k, ds = [t, v, k] ∧ (isTab t = false → E "InvalidTable") ∧ (isTab t = true → isShot t v = false → E "InvalidShot") ∧
  (isTab t = true → isShot t v = true → (∀ j : Int, k = .int j → j < 1) → E "InvalidNumber") ∧
  (∀ a b x y p q j, t = .tuple [.int a, .int b] → v = .tuple [.int x, .int y, .int p, .int q] → k = .int j → isTab t = true → isShot t v = true → 1 ≤ j → szD t ∧ szD v ∧ sz 1000 j ∧ Q (.va (.tuple [.tuple [.int (a * j), .int (b * j)], .tuple [.int (x * j), .int (y * j), .int p, .int q]])))
theorem len_scaled : ∀ ds Q E, D_scaled ds Q E → ds.length = 3 := by
  rintro _ Q E ⟨t, v, k, rfl, _⟩
  rfl
theorem rd_scaled : ∀ ds Q E, D_scaled ds Q E → m_scaled (fun c _ => E c) (endP Q) (slots0 9 ds) := by
  rintro _ Q E ⟨t, v, k, rfl, q1, q2, q3, q4⟩
  unfold m_scaled
  walk_at "rdn"
  refine ⟨t, v, rfl, q1, q2, fun h1 h2 => ⟨⟨_, rfl⟩, k, rfl, _, rfl, _, rfl, ?_⟩⟩
  obtain ⟨a, b, x, y, p, r, rfl, rfl, -⟩ := shot_inv h2
  cases k with
  | int j =>
    simp only [isInt]
    walk_at "rdn"
    by_cases hj : j < 1
    · rw [if_pos (decide_eq_true hj)]
      exact q3 h1 h2 fun j' e => by cases e; exact hj
    · rw [if_neg (by simpa using hj)]
      obtain ⟨z1, z2, z3, q⟩ := q4 a b x y p r j rfl rfl rfl h1 h2 (by omega)
      exact ⟨_, opMul_ok z1.1 z3 (by decide), _, opMul_ok z1.2 z3 (by decide), _, opMul_ok z2.1 z3 (by decide), _, opMul_ok z2.2.1 z3 (by decide), q⟩
  | _ => exact q3 h1 h2 fun j' e => nomatch e
section
variable {P : Program} {w : World} {K : PySem.W.Frag} {mg : Str → Option Value} {base : Heap} {CN : String → Option Addr}
theorem ok_scaled {f : Addr} {fd : FuncData} (F : Fun K "scaled" "scaled" s_scaled f fd) (g : G K mg CN) (c_check_shot : CalP P w K mg base CN 6 "check_shot" D_check_shot) (c_is_whole : CalP P w K mg base CN 1 "is_whole" D_is_whole) : FnG P w K mg base 7 f fd ["table", "shot", "many"] (spP K CN D_scaled) := by
  obtain ⟨e_InvalidNumber, n_InvalidNumber, t_InvalidNumber⟩ := g.x_InvalidNumber
  have sc := sc_scaled
  exact fun_okP (m := m_scaled) F sc (by decide) len_scaled (fun cdv A outer s H E C W hw hr tk =>
    (pds_cons (pds_drop (pd_call c_check_shot hr (by decide) tk (pda_cons (dv 0) (pda_cons (dv 1) pda_nil))))
    (pds_cons (pds_if (pdt_ofw (pdw_or (pdt_not (pdt_val (pd_call c_is_whole hr (by decide) tk (pda_cons (dv 2) pda_nil)))) (pdw_or1 (pdt_cmp op_lt rl_cmpI (dv 2) pd_int (nomark _))))) (pds_one (pds_raise rfl tk t_InvalidNumber n_InvalidNumber)) pds_nil)
    (pds_cons (pds_asg (ps_asg (dv 0) (pdg_tup rfl (gcons (dg 3 sc.nd) (gcons (dg 4 sc.nd) pdgs_nil)))))
    (pds_cons (pds_asg (ps_asg (dv 1) (pdg_tup rfl (gcons (dg 5 sc.nd) (gcons (dg 6 sc.nd) (gcons (dg 7 sc.nd) (gcons (dg 8 sc.nd) pdgs_nil)))))))
    (pds_one (pds_ret (pdr_of (pd_tup (pda_cons (pd_tup (pda_cons (pd_op or_mul rl_mul (dv 3) (dv 2)) (pda_cons (pd_op or_mul rl_mul (dv 4) (dv 2)) pda_nil))) (pda_cons (pd_tup (pda_cons (pd_op or_mul rl_mul (dv 5) (dv 2)) (pda_cons (pd_op or_mul rl_mul (dv 6) (dv 2)) (pda_cons (dv 7) (pda_cons (dv 8) pda_nil))))) pda_nil))))))))))) rd_scaled
end
def m_crossed (W : WD) : MS :=
  mSeq (mDrop (mCall D_check_shot W (mCons (mVar 0) (mCons (mVar 1) (mNil)))))
  (mSeq (mAsg (mVar 0) (mgTup 2 (mgCons (mgName 2) (mgCons (mgName 3) (mgNil)))))
  (mSeq (mAsg (mVar 1) (mgTup 4 (mgCons (mgName 4) (mgCons (mgName 5) (mgCons (mgName 6) (mgCons (mgName 7) (mgNil)))))))
  (mRet (mrOf (mTup (mCons (mTup (mCons (mVar 3) (mCons (mVar 2) (mNil)))) (mCons (mTup (mCons (mVar 5) (mCons (mVar 4) (mCons (mVar 7) (mCons (mVar 6) (mNil)))))) (mNil))))))))
def D_crossed : PSpec := fun ds Q E => ∃ t v, ds = [t, v] ∧ (isTab t = false → E "InvalidTable") ∧ (isTab t = true → isShot t v = false → E "InvalidShot") ∧
  (∀ a b x y p q, t = .tuple [.int a, .int b] → v = .tuple [.int x, .int y, .int p, .int q] → isTab t = true → isShot t v = true → Q (.va (.tuple [.tuple [.int b, .int a], .tuple [.int y, .int x, .int q, .int p]])))
theorem len_crossed : ∀ ds Q E, D_crossed ds Q E → ds.length = 2 := by
  rintro _ Q E ⟨t, v, rfl, _⟩
  rfl
theorem rd_crossed : ∀ ds Q E, D_crossed ds Q E → m_crossed (fun c _ => E c) (endP Q) (slots0 8 ds) := by
  rintro _ Q E ⟨t, v, rfl, q1, q2, q3⟩
  unfold m_crossed
  walk_at "rdn"
  refine ⟨t, v, rfl, q1, q2, fun h1 h2 => ⟨⟨_, rfl⟩, ?_⟩⟩
  obtain ⟨a, b, x, y, p, r, rfl, rfl, -⟩ := shot_inv h2
  walk_at "rdn"
  exact q3 a b x y p r rfl rfl h1 h2
section
variable {P : Program} {w : World} {K : PySem.W.Frag} {mg : Str → Option Value} {base : Heap} {CN : String → Option Addr}
theorem ok_crossed {f : Addr} {fd : FuncData} (F : Fun K "crossed" "crossed" s_crossed f fd) (g : G K mg CN) (c_check_shot : CalP P w K mg base CN 6 "check_shot" D_check_shot) : FnG P w K mg base 7 f fd ["table", "shot"] (spP K CN D_crossed) := by
  have sc := sc_crossed
  exact fun_okP (m := m_crossed) F sc (by decide) len_crossed (fun cdv A outer s H E C W hw hr tk =>
    (pds_cons (pds_drop (pd_call c_check_shot hr (by decide) tk (pda_cons (dv 0) (pda_cons (dv 1) pda_nil))))
    (pds_cons (pds_asg (ps_asg (dv 0) (pdg_tup rfl (gcons (dg 2 sc.nd) (gcons (dg 3 sc.nd) pdgs_nil)))))
    (pds_cons (pds_asg (ps_asg (dv 1) (pdg_tup rfl (gcons (dg 4 sc.nd) (gcons (dg 5 sc.nd) (gcons (dg 6 sc.nd) (gcons (dg 7 sc.nd) pdgs_nil)))))))
    (pds_one (pds_ret (pdr_of (pd_tup (pda_cons (pd_tup (pda_cons (dv 3) (pda_cons (dv 2) pda_nil))) (pda_cons (pd_tup (pda_cons (dv 5) (pda_cons (dv 4) (pda_cons (dv 7) (pda_cons (dv 6) pda_nil))))) pda_nil)))))))))) rd_crossed
end
def m__count (W : WD) : MS :=
  mSeq (mAsg (mLc (miSeq (mVar 0)) (mgTup 3 (mgCons (mgName 3) (mgCons (mgName 4) (mgCons (mgName 5) (mgNil))))) (mTYes) (mCall D_marks_passed wF (mCons (mVar 3) (mCons (mVar 4) (mCons (mVar 5) (mCons (mVar 1) (mNil)))))) [3, 4, 5]) (mgName 2))
  (mRet (mrOf (mOp2 opSub (mOp2 opAdd (mOp2 opIx (mVar 2) (mC (.int 0))) (mOp2 opIx (mVar 2) (mC (.int 1)))) (mCallB bSum (mCons (mSl opSl (mVar 2) (mPart (mC (.int 2))) mNoPart) (mNil))))))
def paD (t u : Int) : PyData → Option PyData
  | .tuple [.tuple [.int _, .int a, .int v], .int f, .int st] => some (.int (passed a v f st t u))
  | _ => none
theorem paD_map (t u : Int) : ∀ ms : List Mk, (ms.map Mk.d).filterMap (paD t u) = ms.map fun m => .int (m.pa t u)
  | [] => rfl
  | m :: ms => by
    show PyData.int (m.pa t u) :: (ms.map Mk.d).filterMap (paD t u) = _
    rw [paD_map t u ms]
    rfl
theorem ints_map (t u : Int) : ∀ ms : List Mk, ints? (ms.map fun m => .int (m.pa t u)) = some (ms.map fun m => m.pa t u)
  | [] => rfl
  | m :: ms => by
    show (ints? (ms.map fun m => .int (m.pa t u))).map (m.pa t u :: ·) = _
    rw [ints_map t u ms]
    rfl
def D__count : PSpec := fun ds Q _ => ∃ m0 m1 ms t u, ds = [.list ((m0 :: m1 :: ms).map Mk.d), .tuple [.int t, .int u]] ∧ (∀ m ∈ m0 :: m1 :: ms, m.ok) ∧ ms.length < 1000 ∧ 1 ≤ u ∧ sz 8000 t ∧ sz 8000 u ∧ Q (.va (.int (m0.pa t u + m1.pa t u - (ms.map fun m => m.pa t u).sum)))
theorem len__count : ∀ ds Q E, D__count ds Q E → ds.length = 2 := by
  rintro _ Q E ⟨m0, m1, ms, t, u, rfl, _⟩
  rfl
theorem rd__count : ∀ ds Q E, D__count ds Q E → m__count (fun c _ => E c) (endP Q) (slots0 6 ds) := by
  rintro _ Q E ⟨m0, m1, ms, t, u, rfl, ok, lm, u1, zt, zu, q⟩
  unfold m__count
  obtain ⟨l, hl⟩ : ∃ l, l = m0 :: m1 :: ms := ⟨_, rfl⟩
  have ll : l.length = ms.length + 2 := by rw [hl]; rfl
  rw [← hl] at ok ⊢
  refine seq_run (fun s => ∃ x3 x4 x5, s = [.va (.list (l.map Mk.d)), .va (.tuple [.int t, .int u]), .va (.list (l.map fun m => .int (m.pa t u))), x3, x4, x5]) (fun N1 h1 => ?_) ?_
  · walk_at "rdn"
    refine ⟨rfl, ?_⟩
    refine lcL_run (fun s => ∃ x3 x4 x5, s = [.va (.list (l.map Mk.d)), .va (.tuple [.int t, .int u]), .no, x3, x4, x5]) (paD t u) _ ?_ _ [] ⟨_, _, _, rfl⟩ (by simp only [List.length_map, List.length_nil]; omega) ?_
    · rintro d hd s ⟨x3, x4, x5, rfl⟩ Y N hY hN
      obtain ⟨m, hm, rfl⟩ := List.mem_map.mp hd
      obtain ⟨o1, o2, o3⟩ := ok m hm
      simp only [swipe]
      unfold Mk.d
      walk_at "rdn"
      refine ⟨_, _, _, _, _, _, _, rfl, o1, u1, o2, zt, zu, o3, _, rfl, ?_⟩
      exact hY _ _ rfl ⟨_, _, _, rfl⟩
    · rintro s' ⟨x3, x4, x5, rfl⟩
      rw [List.nil_append, paD_map]
      simp only [sback]
      walk_at "rdn"
      exact h1 _ ⟨_, _, _, rfl⟩
  rintro _ ⟨x3, x4, x5, rfl⟩
  rw [hl]
  walk_at "rdn"
  have es : bSum [.list (ms.map fun m => .int (m.pa t u))] = some (.int (ms.map fun m => m.pa t u).sum) := by
    show (ints? _).map _ = _
    rw [ints_map]
    rfl
  have ec : ∀ (x y : PyData) (l : List PyData), cutL (x :: y :: l) (some 2) none = l := fun x y l => by
    unfold cutL sIx
    simp
  rw [ec]
  exact ⟨_, es, _, rfl, q⟩
section
variable {P : Program} {w : World} {K : PySem.W.Frag} {mg : Str → Option Value} {base : Heap} {CN : String → Option Addr}
theorem ok__count {f : Addr} {fd : FuncData} (F : Fun K "_count" "_count" s__count f fd) (g : G K mg CN) (c_marks_passed : CalP P w K mg base CN 1 "marks_passed" D_marks_passed) : FnG P w K mg base 2 f fd ["marks", "time"] (spP K CN D__count) := by
  have sc := sc__count
  exact fun_okP (m := m__count) F sc (by decide) len__count (fun cdv A outer s H E C W hw hr tk =>
    (pds_cons (pds_setLc (ps_setLc (i := 2) (own := [("line", 3), ("first", 4), ("step", 5)]) rfl sc.nd rfl rfl rfl (pdi_seq (dv 0)) (blkOk_by (N := ["marks", "time", "passed", "line", "first", "step"]) (sc := (defScope s__count)) (by decide +kernel)) (fun _ _ _ _ _ => (pdgv_tup rfl (gvcons (dgv 3 (vs := [3, 4, 5]) sc.nd) (gvcons (dgv 4 (vs := [3, 4, 5]) sc.nd) (gvcons (dgv 5 (vs := [3, 4, 5]) sc.nd) pdgsv_nil))))) (fun _ _ _ _ _ => pdts_nil) (fun _ _ _ _ _ => (pd_call c_marks_passed hr (by decide) takesF (pda_cons (dv 3) (pda_cons (dv 4) (pda_cons (dv 5) (pda_cons (dv 1) pda_nil))))))))
    (pds_one (pds_ret (pdr_of (pd_op op_sub rl_sub (pd_op or_add rl_add (pd_ix ix_seq rl_ix (dv 2) pd_int) (pd_ix ix_seq rl_ix (dv 2) pd_int)) (pd_callB (cr_sum2 rfl) rc_sum g.b_sum (by decide +kernel) (pda_cons (pd_slA (dv 2) pd_int) pda_nil)))))))) rd__count
end
def m_side_marks (W : WD) : MS :=
  mSeq (mAsg (mVar 0) (mgTup 3 (mgCons (mgName 1) (mgCons (mgName 2) (mgCons (mgName 3) (mgNil))))))
  (mRet (mrOf (mTup (mCons (mVar 0) (mCons (mCall D_mark_from W (mCons (mOp2 opAdd (mVar 2) (mC (.int 1))) (mCons (mC (.int 0)) (mCons (mVar 1) (mNil))))) (mCons (mVar 1) (mNil)))))))
def sideM (s a : Int) : Int := a + 1 + (0 - (a + 1)) % s
def D_side_marks : PSpec := fun ds Q _ => ∃ s a v, ds = [.tuple [.int s, .int a, .int v]] ∧ 1 ≤ s ∧ Q (.va (.tuple [.tuple [.int s, .int a, .int v], .int (sideM s a), .int s]))
theorem len_side_marks : ∀ ds Q E, D_side_marks ds Q E → ds.length = 1 := by
  rintro _ Q E ⟨s, a, v, rfl, _⟩
  rfl
theorem rd_side_marks : ∀ ds Q E, D_side_marks ds Q E → m_side_marks (fun c _ => E c) (endP Q) (slots0 4 ds) := by
  rintro _ Q E ⟨s, a, v, rfl, h, q⟩
  unfold m_side_marks
  walk_at "rdn"
  exact ⟨_, _, _, rfl, h, _, rfl, q⟩
section
variable {P : Program} {w : World} {K : PySem.W.Frag} {mg : Str → Option Value} {base : Heap} {CN : String → Option Addr}
theorem ok_side_marks {f : Addr} {fd : FuncData} (F : Fun K "side_marks" "side_marks" s_side_marks f fd) (g : G K mg CN) (c_mark_from : CalP P w K mg base CN 1 "mark_from" D_mark_from) : FnG P w K mg base 2 f fd ["line"] (spP K CN D_side_marks) := by
  have sc := sc_side_marks
  exact fun_okP (m := m_side_marks) F sc (by decide) len_side_marks (fun cdv A outer s H E C W hw hr tk =>
    (pds_cons (pds_asg (ps_asg (dv 0) (pdg_tup rfl (gcons (dg 1 sc.nd) (gcons (dg 2 sc.nd) (gcons (dg 3 sc.nd) pdgs_nil))))))
    (pds_one (pds_ret (pdr_of (pd_tup (pda_cons (dv 0) (pda_cons (pd_call c_mark_from hr (by decide) tk (pda_cons (pd_op or_add rl_add (dv 2) pd_int) (pda_cons pd_int (pda_cons (dv 1) pda_nil)))) (pda_cons (dv 1) pda_nil))))))))) rd_side_marks
end
def m_corner_marks (W : WD) : MS :=
  mSeq (mAsg (mVar 0) (mgTup 2 (mgCons (mgName 1) (mgCons (mgName 2) (mgNil)))))
  (mSeq (mIf (mTOr (mT (mOp2 opEq (mOp2 opIx (mVar 1) (mC (.int 2))) (mC (.int 0)))) (mT (mOp2 opEq (mOp2 opIx (mVar 2) (mC (.int 2))) (mC (.int 0))))) (mRet (mrOf (mLst (mNil)))) (mNext))
  (mSeq (mAsg (mCall D_side_marks W (mCons (mVar 1) (mNil))) (mgTup 3 (mgCons (mgName 3) (mgCons (mgName 4) (mgCons (mgName 5) (mgNil))))))
  (mSeq (mAsg (mCall D_other_at_marks W (mCons (mVar 1) (mCons (mVar 4) (mCons (mVar 5) (mCons (mVar 2) (mNil)))))) (mgTup 2 (mgCons (mgName 6) (mgCons (mgName 7) (mgNil)))))
  (mSeq (mAsg (mOp2 opMul (mOp2 opIx (mVar 2) (mC (.int 0))) (mOp2 opIx (mVar 1) (mC (.int 2)))) (mgName 8))
  (mSeq (mAsg (mCall D_first_within W (mCons (mVar 6) (mCons (mVar 7) (mCons (mVar 8) (mCons (mC (.int 0)) (mCons (mC (.int 0)) (mNil))))))) (mgName 9))
  (mSeq (mIf (mT (mOp2 opIsN2 (mVar 9) (mC .none))) (mRet (mrOf (mLst (mNil)))) (mNext))
  (mRet (mrOf (mLst (mCons (mTup (mCons (mVar 1) (mCons (mOp2 opAdd (mVar 4) (mOp2 opMul (mVar 5) (mVar 9))) (mCons (mOp2 opMul (mVar 5) (mOp2 opFdiv (mVar 8) (mCallB bGcd (mCons (mVar 6) (mCons (mVar 8) (mNil)))))) (mNil))))) (mNil)))))))))))
def cornD (s a v f c g : Int) : Option Int → PyData
  | none => .list []
  | some k => .list [Mk.d ⟨s, a, v, f + s * k, s * (c / (Nat.gcd g.natAbs c.natAbs : Nat))⟩]
def cornW (s a v s' a' v' : Int) : Two := wit (v' * s) (a' * v + v' * (sideM s a - a)) (s' * v) 0 0
def D_corner_marks : PSpec := fun ds Q _ => ∃ s a v s' a' v', ds = [.tuple [.tuple [.int s, .int a, .int v], .tuple [.int s', .int a', .int v']]] ∧ 1 ≤ s ∧ 1 ≤ s' ∧ 0 ≤ v ∧ 0 ≤ v' ∧ (sz 600 s ∧ sz 600 a ∧ sz 600 v ∧ sz 600 s' ∧ sz 600 a' ∧ sz 600 v') ∧
  (v = 0 ∨ v' = 0 → Q (.va (.list []))) ∧ (0 < v → 0 < v' → ∀ o, (cornW s a v s' a' v').Ans o → Q (.va (cornD s a v (sideM s a) (s' * v) (v' * s) o)))
theorem len_corner_marks : ∀ ds Q E, D_corner_marks ds Q E → ds.length = 1 := by
  rintro _ Q E ⟨s, a, v, s', a', v', rfl, _⟩
  rfl
theorem sz_sideM {s a : Int} (h : 1 ≤ s) (zs : sz 600 s) (za : sz 600 a) : sz 602 (sideM s a) := by
  unfold sideM
  exact sz_add (sz_add za (by unfold sz; exact Nat.one_lt_two_pow (by decide))) (sz_mono (sz_mod zs (by omega)) (by decide))
theorem rd_corner_marks : ∀ ds Q E, D_corner_marks ds Q E → m_corner_marks (fun c _ => E c) (endP Q) (slots0 10 ds) := by
  rintro _ Q E ⟨s, a, v, s', a', v', rfl, s1, s1', v0, v0', ⟨zs, za, zv, zs', za', zv'⟩, q0, q⟩
  unfold m_corner_marks
  have zf := sz_sideM s1 zs za
  refine seq_run (fun st => st = [.va (.tuple [.tuple [.int s, .int a, .int v], .tuple [.int s', .int a', .int v']]), .va (.tuple [.int s, .int a, .int v]), .va (.tuple [.int s', .int a', .int v']), .no, .no, .no, .no, .no, .no, .no]) (fun N h => ?_) ?_
  · walk_at "rdn"
    exact h _ rfl
  rintro _ rfl
  by_cases cv : v = 0 ∨ v' = 0
  · refine seq_run (fun _ => False) (fun N h => ?_) (fun _ z => z.elim)
    refine if_run true (fun Q h' => ?_) (fun _ => ?_) (fun hc => by cases hc)
    · walk_at "rdn"
      by_cases e : v = 0
      · rw [if_pos (decide_eq_true e)]
        exact h'
      · rw [if_neg (by simpa using e), decide_eq_true (show v' = 0 by omega)]
        exact h'
    · walk_at "rdn"
      exact q0 cv
  have vp : 0 < v := by omega
  have vp' : 0 < v' := by omega
  refine seq_run (fun st => st = [.va (.tuple [.tuple [.int s, .int a, .int v], .tuple [.int s', .int a', .int v']]), .va (.tuple [.int s, .int a, .int v]), .va (.tuple [.int s', .int a', .int v']), .no, .no, .no, .no, .no, .no, .no]) (fun N h => ?_) ?_
  · refine if_run false (fun Q h' => ?_) (fun hc => by cases hc) (fun _ => h _ rfl)
    walk_at "rdn"
    rw [if_neg (by simpa using show ¬ v = 0 by omega), decide_eq_false (show ¬ v' = 0 by omega)]
    exact h'
  rintro _ rfl
  generalize hf : sideM s a = f at *
  have zw : sz 1300 (a' * v + v' * (f - a)) := sz_mono (sz_add (sz_mono (sz_mul za' zv) (l := 1203) (by decide)) (sz_mul zv' (sz_sub zf (sz_mono za (by decide))))) (by decide)
  have zg : sz 1200 (v' * s) := sz_mul zv' zs
  have zc : sz 1200 (s' * v) := sz_mul zs' zv
  have c1 : 1 ≤ s' * v := Int.mul_pos (by omega) vp
  refine seq_run (fun st => st = [.va (.tuple [.tuple [.int s, .int a, .int v], .tuple [.int s', .int a', .int v']]), .va (.tuple [.int s, .int a, .int v]), .va (.tuple [.int s', .int a', .int v']), .va (.tuple [.int s, .int a, .int v]), .va (.int f), .va (.int s), .no, .no, .no, .no]) (fun N h => ?_) ?_
  · walk_at "rdn"
    refine ⟨s, a, v, rfl, s1, _, rfl, ?_⟩
    walk_at "rdn"
    rw [hf]
    exact h _ rfl
  rintro _ rfl
  refine seq_run (fun st => st = [.va (.tuple [.tuple [.int s, .int a, .int v], .tuple [.int s', .int a', .int v']]), .va (.tuple [.int s, .int a, .int v]), .va (.tuple [.int s', .int a', .int v']), .va (.tuple [.int s, .int a, .int v]), .va (.int f), .va (.int s), .va (.int (v' * s)), .va (.int (a' * v + v' * (f - a))), .no, .no]) (fun N h => ?_) ?_
  · walk_at "rdn"
    refine ⟨s, a, v, f, s, s', a', v', rfl, sz_mono za (by decide), sz_mono zv (by decide), sz_mono zf (by decide), sz_mono zs (by decide), sz_mono za' (by decide), sz_mono zv' (by decide), _, rfl, ?_⟩
    walk_at "rdn"
    exact h _ rfl
  rintro _ rfl
  refine seq_run (fun st => st = [.va (.tuple [.tuple [.int s, .int a, .int v], .tuple [.int s', .int a', .int v']]), .va (.tuple [.int s, .int a, .int v]), .va (.tuple [.int s', .int a', .int v']), .va (.tuple [.int s, .int a, .int v]), .va (.int f), .va (.int s), .va (.int (v' * s)), .va (.int (a' * v + v' * (f - a))), .va (.int (s' * v)), .no]) (fun N h => ?_) ?_
  · walk_at "rdn"
    exact ⟨_, opMul_ok zs' zv (by decide), h _ rfl⟩
  rintro _ rfl
  refine seq_run (fun st => ∃ o, st = [.va (.tuple [.tuple [.int s, .int a, .int v], .tuple [.int s', .int a', .int v']]), .va (.tuple [.int s, .int a, .int v]), .va (.tuple [.int s', .int a', .int v']), .va (.tuple [.int s, .int a, .int v]), .va (.int f), .va (.int s), .va (.int (v' * s)), .va (.int (a' * v + v' * (f - a))), .va (.int (s' * v)), .va (optD o)] ∧ (cornW s a v s' a' v').Ans o) (fun N h => ?_) ?_
  · walk_at "rdn"
    refine ⟨v' * s, a' * v + v' * (f - a), s' * v, 0, 0, rfl, c1, sz_mono zg (by decide), sz_mono zw (by decide), sz_mono zc (by decide), by unfold sz; decide, by unfold sz; decide, fun o an => ⟨_, rfl, h _ ⟨o, rfl, ?_⟩⟩⟩
    unfold cornW
    rw [hf]
    exact an
  rintro _ ⟨o, rfl, an⟩
  have qq := q vp vp' o an
  cases o with
  | none =>
    refine seq_run (fun _ => False) (fun N h => ?_) (fun _ z => z.elim)
    refine if_run true (fun Q h' => ?_) (fun _ => ?_) (fun hc => by cases hc)
    · walk_at "rdn"
      exact h'
    · walk_at "rdn"
      exact qq
  | some k =>
    refine seq_run (fun st => st = [.va (.tuple [.tuple [.int s, .int a, .int v], .tuple [.int s', .int a', .int v']]), .va (.tuple [.int s, .int a, .int v]), .va (.tuple [.int s', .int a', .int v']), .va (.tuple [.int s, .int a, .int v]), .va (.int f), .va (.int s), .va (.int (v' * s)), .va (.int (a' * v + v' * (f - a))), .va (.int (s' * v)), .va (.int k)]) (fun N h => ?_) ?_
    · refine if_run false (fun Q h' => ?_) (fun hc => by cases hc) (fun _ => h _ rfl)
      walk_at "rdn"
      exact h'
    rintro _ rfl
    have zk : sz 2500 k := by
      have k0 := an.1.1.1
      have k1 : k ≤ 2 * (s' * v * (s' * v)) := an.2 k rfl
      exact sz_of_le (sz_mono (sz_mul (show sz 10 2 by unfold sz; decide) (sz_mul zc zc)) (by decide)) (by omega)
    walk_at "rdn"
    have gp := gcd_pos (t := v' * s) (b := s' * v) c1
    have gs := sz_gcd (t := v' * s) c1 zc
    exact ⟨_, opMul_ok zs zk (by decide), _, rfl, _, opFdiv_ok gp gs (by decide), _, opMul_ok zs (sz_div zc gp) (by decide), qq⟩
section
variable {P : Program} {w : World} {K : PySem.W.Frag} {mg : Str → Option Value} {base : Heap} {CN : String → Option Addr}
theorem ok_corner_marks {f : Addr} {fd : FuncData} (F : Fun K "corner_marks" "corner_marks" s_corner_marks f fd) (g : G K mg CN) (c_first_within : CalP P w K mg base CN 3 "first_within" D_first_within) (c_other_at_marks : CalP P w K mg base CN 1 "other_at_marks" D_other_at_marks) (c_side_marks : CalP P w K mg base CN 2 "side_marks" D_side_marks) : FnG P w K mg base 4 f fd ["lines"] (spP K CN D_corner_marks) := by
  have sc := sc_corner_marks
  exact fun_okP (m := m_corner_marks) F sc (by decide) len_corner_marks (fun cdv A outer s H E C W hw hr tk =>
    (pds_cons (pds_asg (ps_asg (dv 0) (pdg_tup rfl (gcons (dg 1 sc.nd) (gcons (dg 2 sc.nd) pdgs_nil)))))
    (pds_cons (pds_if (pdt_ofw (pdw_or (pdt_cmp (or_eqD (RoomG.u64 hr)) rl_eq (pd_ix ix_seq rl_ix (dv 1) pd_int) pd_int (nomark _)) (pdw_or1 (pdt_cmp (or_eqD (RoomG.u64 hr)) rl_eq (pd_ix ix_seq rl_ix (dv 2) pd_int) pd_int (nomark _))))) (pds_one (pds_ret (pdr_of (pd_lst pda_nil)))) pds_nil)
    (pds_cons (pds_asg (ps_asg (pd_call c_side_marks hr (by decide) tk (pda_cons (dv 1) pda_nil)) (pdg_tup rfl (gcons (dg 3 sc.nd) (gcons (dg 4 sc.nd) (gcons (dg 5 sc.nd) pdgs_nil))))))
    (pds_cons (pds_asg (ps_asg (pd_call c_other_at_marks hr (by decide) tk (pda_cons (dv 1) (pda_cons (dv 4) (pda_cons (dv 5) (pda_cons (dv 2) pda_nil))))) (pdg_tup rfl (gcons (dg 6 sc.nd) (gcons (dg 7 sc.nd) pdgs_nil)))))
    (pds_cons (pds_asg (ps_asg (pd_op or_mul rl_mul (pd_ix ix_seq rl_ix (dv 2) pd_int) (pd_ix ix_seq rl_ix (dv 1) pd_int)) (dg 8 sc.nd)))
    (pds_cons (pds_asg (ps_asg (pd_call c_first_within hr (by decide) tk (pda_cons (dv 6) (pda_cons (dv 7) (pda_cons (dv 8) (pda_cons pd_int (pda_cons pd_int pda_nil)))))) (dg 9 sc.nd)))
    (pds_cons (pds_if (pdt_cmp op_isN rl_isN (dv 9) pd_non (nomark _)) (pds_one (pds_ret (pdr_of (pd_lst pda_nil)))) pds_nil)
    (pds_one (pds_ret (pdr_of (pd_lst (pda_cons (pd_tup (pda_cons (dv 1) (pda_cons (pd_op or_add rl_add (dv 4) (pd_op or_mul rl_mul (dv 5) (dv 9))) (pda_cons (pd_op or_mul rl_mul (dv 5) (pd_op op_fdivW rl_fdiv (dv 8) (pd_gcd g.b_gcd (pda_cons (dv 6) (pda_cons (dv 8) pda_nil))))) pda_nil)))) pda_nil))))))))))))) rd_corner_marks
end
def m__hit_marks (W : WD) : MS :=
  mRet (mrOf (mOp2 opAdd (mLc (miSeq (mVar 0)) (mgName 1) (mTYes) (mCall D_side_marks wF (mCons (mVar 1) (mNil))) [1]) (mCall D_corner_marks W (mCons (mVar 0) (mNil)))))
def cornL (s a v f c g : Int) : Option Int → List Mk
  | none => []
  | some k => [⟨s, a, v, f + s * k, s * (c / (Nat.gcd g.natAbs c.natAbs : Nat))⟩]
theorem cornD_L {s a v f c g : Int} {o : Option Int} : cornD s a v f c g o = .list ((cornL s a v f c g o).map Mk.d) := by cases o <;> rfl
def side2 (s a v s' a' v' : Int) : List Mk := [⟨s, a, v, sideM s a, s⟩, ⟨s', a', v', sideM s' a', s'⟩]
def D__hit_marks : PSpec := fun ds Q _ => ∃ s a v s' a' v', ds = [.tuple [.tuple [.int s, .int a, .int v], .tuple [.int s', .int a', .int v']]] ∧ 1 ≤ s ∧ 1 ≤ s' ∧ 0 ≤ v ∧ 0 ≤ v' ∧ (sz 600 s ∧ sz 600 a ∧ sz 600 v ∧ sz 600 s' ∧ sz 600 a' ∧ sz 600 v') ∧
  (v = 0 ∨ v' = 0 → Q (.va (.list ((side2 s a v s' a' v').map Mk.d)))) ∧ (0 < v → 0 < v' → ∀ o, (cornW s a v s' a' v').Ans o → Q (.va (.list ((side2 s a v s' a' v' ++ cornL s a v (sideM s a) (s' * v) (v' * s) o).map Mk.d))))
theorem len__hit_marks : ∀ ds Q E, D__hit_marks ds Q E → ds.length = 1 := by
  rintro _ Q E ⟨s, a, v, s', a', v', rfl, _⟩
  rfl
def sideD : PyData → Option PyData
  | .tuple [.int s, .int a, .int v] => some (Mk.d ⟨s, a, v, sideM s a, s⟩)
  | _ => none
theorem rd__hit_marks : ∀ ds Q E, D__hit_marks ds Q E → m__hit_marks (fun c _ => E c) (endP Q) (slots0 2 ds) := by
  rintro _ Q E ⟨s, a, v, s', a', v', rfl, s1, s1', v0, v0', zz, q0, q⟩
  unfold m__hit_marks
  walk_at "rdn"
  refine ⟨rfl, ?_⟩
  refine lcL_run (fun st => ∃ x, st = [.va (.tuple [.tuple [.int s, .int a, .int v], .tuple [.int s', .int a', .int v']]), x]) sideD _ ?_ _ [] ⟨_, rfl⟩ (by simp) ?_
  · rintro d hd st ⟨x, rfl⟩ Y N hY hN
    simp only [List.mem_cons, List.not_mem_nil, or_false] at hd
    simp only [swipe]
    rcases hd with rfl | rfl
    · walk_at "rdn"
      exact ⟨s, a, v, rfl, s1, _, rfl, hY _ _ rfl ⟨_, rfl⟩⟩
    · walk_at "rdn"
      exact ⟨s', a', v', rfl, s1', _, rfl, hY _ _ rfl ⟨_, rfl⟩⟩
  · rintro st ⟨x, rfl⟩
    simp only [sback]
    walk_at "rdn"
    refine ⟨s, a, v, s', a', v', rfl, s1, s1', v0, v0', zz, fun h => ⟨_, rfl, _, rfl, q0 h⟩, fun h1 h2 o an => ⟨_, rfl, ?_⟩⟩
    have := q h1 h2 o an
    rw [cornD_L]
    cases o with
    | none => exact ⟨_, rfl, this⟩
    | some k => exact ⟨_, rfl, this⟩
/-- how many marks of a line lie behind its start, up to a time -/
def nM (s a v t u : Int) : Int := passed a v (sideM s a) s t u
/-- of the first n indexes those at which g i + b is a multiple of c -/
def cornC (g b c : Int) : Nat → Nat
  | 0 => 0
  | n + 1 => cornC g b c n + if (g * n + b) % c = 0 then 1 else 0
def hitsN (s a v s' a' v' t u : Int) : Int := nM s a v t u + nM s' a' v' t u - (if 0 < v ∧ 0 < v' then (cornC (v' * s) (a' * v + v' * (sideM s a - a)) (s' * v) (nM s a v t u).toNat : Int) else 0)
theorem nM_nonneg {s a v t u : Int} (hs : 1 ≤ s) : 0 ≤ nM s a v t u := by
  unfold nM passed
  split
  · omega
  · have := Int.ediv_nonneg (show 0 ≤ a + v * t / u - sideM s a by omega) (show 0 ≤ s by omega)
    omega
theorem btw_wit {g b c k : Int} (hc : 1 ≤ c) : Btw g (b - 0) c g (b - 0) c k ↔ 0 ≤ k ∧ (g * k + b) % c = 0 := by
  unfold Btw
  constructor
  · rintro ⟨h0, j, h1, h2⟩
    refine ⟨h0, ?_⟩
    rw [show g * k + b = c * j by omega]
    exact Int.mul_emod_right _ _
  · rintro ⟨h0, h⟩
    have := Int.mul_ediv_add_emod (g * k + b) c
    exact ⟨h0, (g * k + b) / c, by omega, by omega⟩
theorem step_div {e m : Int} (he : 1 ≤ e) : (m + 1) / e = m / e + if (m + 1) % e = 0 then 1 else 0 := by
  have e1 := Int.mul_ediv_add_emod m e
  have e2 := Int.emod_nonneg m (show e ≠ 0 by omega)
  have e3 := Int.emod_lt_of_pos m (show 0 < e by omega)
  by_cases h : m % e + 1 = e
  · have k : m + 1 = e * (m / e + 1) := by rw [Int.mul_add]; omega
    rw [if_pos (by rw [k]; exact Int.mul_emod_right _ _), k, Int.mul_ediv_cancel_left _ (by omega)]
  · have k : m + 1 = (m % e + 1) + e * (m / e) := by omega
    rw [if_neg (by rw [k, Int.add_mul_emod_self_left, Int.emod_eq_of_lt (by omega) (by omega)]; omega), k, Int.add_mul_ediv_left _ _ (by omega), Int.ediv_eq_zero_of_lt (by omega) (by omega)]
    omega
theorem dvd_red {g c i : Int} (hc : 1 ≤ c) : (g * i) % c = 0 ↔ i % (c / (Nat.gcd g.natAbs c.natAbs : Nat)) = 0 := by
  have g0 := gcd_pos (t := g) hc
  have e1 := Int.ediv_mul_cancel (gcd_dvd_l g c)
  have e2 := Int.ediv_mul_cancel (gcd_dvd_r g c)
  obtain ⟨-, p, cop⟩ := low_facts (t := g) hc
  generalize g / (Nat.gcd g.natAbs c.natAbs : Nat) = G at *
  generalize c / (Nat.gcd g.natAbs c.natAbs : Nat) = C at *
  generalize ((Nat.gcd g.natAbs c.natAbs : Nat) : Int) = d at *
  constructor
  · intro h
    have h := Int.dvd_of_emod_eq_zero h
    rw [← e1, ← e2, show G * d * i = (G * i) * d by grind] at h
    have h2 : C ∣ G * i := Int.dvd_of_mul_dvd_mul_right (by omega) h
    have h3 : C.natAbs ∣ G.natAbs * i.natAbs := by rw [← Int.natAbs_mul]; exact Int.natAbs_dvd_natAbs.mpr h2
    have h4 : C.natAbs ∣ i.natAbs := (Nat.Coprime.dvd_of_dvd_mul_left (k := C.natAbs) (m := G.natAbs) (n := i.natAbs) (by rw [Nat.Coprime, Nat.gcd_comm]; exact cop) h3)
    exact Int.emod_eq_zero_of_dvd (Int.natAbs_dvd_natAbs.mp h4)
  · intro h
    obtain ⟨j, hj⟩ := Int.dvd_of_emod_eq_zero h
    refine Int.emod_eq_zero_of_dvd ⟨G * j, ?_⟩
    rw [← e1, ← e2, hj]
    grind
theorem cornC_none {g b c : Int} (h : ∀ i : Int, 0 ≤ i → (g * i + b) % c ≠ 0) : ∀ n, cornC g b c n = 0
  | 0 => rfl
  | n + 1 => by
    rw [cornC, cornC_none h n, if_neg (h n (by omega))]
theorem cornC_some {g b c k : Int} (hc : 1 ≤ c) (k0 : 0 ≤ k) (hk : (g * k + b) % c = 0) (least : ∀ i : Int, 0 ≤ i → (g * i + b) % c = 0 → k ≤ i) : ∀ n : Nat, (cornC g b c n : Int) = if (n : Int) ≤ k then 0 else (n - 1 - k) / (c / (Nat.gcd g.natAbs c.natAbs : Nat)) + 1
  | 0 => by rw [if_pos (by omega)]; rfl
  | n + 1 => by
    have ih := cornC_some hc k0 hk least n
    have cp := div_gcd_pos (t := g) hc
    have iff : (g * n + b) % c = 0 ↔ ((n : Int) - k) % (c / (Nat.gcd g.natAbs c.natAbs : Nat)) = 0 := by
      rw [← dvd_red hc]
      rw [show g * n + b = (g * (n - k)) + (g * k + b) by rw [Int.mul_sub]; omega, Int.add_emod, hk, Int.add_zero, Int.emod_emod]
    rw [cornC, Int.natCast_add, ih]
    generalize hC : c / (Nat.gcd g.natAbs c.natAbs : Nat) = C at *
    by_cases h1 : (n : Int) + 1 ≤ k
    · rw [if_pos (show (n : Int) ≤ k by omega), if_pos (show ((n + 1 : Nat) : Int) ≤ k by omega), if_neg (show ¬ (g * n + b) % c = 0 from fun z => by have := least n (by omega) z; omega)]
      rfl
    · by_cases h2 : (n : Int) ≤ k
      · have e : (n : Int) = k := by omega
        rw [if_pos h2, if_neg (show ¬ ((n + 1 : Nat) : Int) ≤ k by omega), if_pos (show (g * n + b) % c = 0 by rw [e]; exact hk)]
        rw [show ((n + 1 : Nat) : Int) - 1 - k = 0 by omega, Int.zero_ediv]
        rfl
      · rw [if_neg h2, if_neg (show ¬ ((n + 1 : Nat) : Int) ≤ k by omega)]
        have s := step_div (e := C) (m := n - 1 - k) cp
        rw [show ((n + 1 : Nat) : Int) - 1 - k = n - 1 - k + 1 by omega, s]
        rw [show (n : Int) - 1 - k + 1 = n - k by omega]
        by_cases h3 : (g * n + b) % c = 0
        · rw [if_pos h3, if_pos (iff.mp h3)]; omega
        · rw [if_neg h3, if_neg (fun z => h3 (iff.mpr z))]; omega
theorem div_sub_mul {r s k e : Int} (hs : 1 ≤ s) (he : 1 ≤ e) : (r - s * k) / (s * e) = (r / s - k) / e := by
  rw [Int.mul_comm s e, Int.mul_comm e s, ← Int.ediv_ediv_of_nonneg (by omega), show r - s * k = r + s * (-k) by rw [Int.mul_neg]; omega, Int.add_mul_ediv_left _ _ (by omega)]
  rfl
theorem corn_pa {a v s t u k e : Int} (hs : 1 ≤ s) (k0 : 0 ≤ k) (he : 1 ≤ e) : passed a v (sideM s a + s * k) (s * e) t u = if nM s a v t u ≤ k then 0 else (nM s a v t u - 1 - k) / e + 1 := by
  unfold nM passed
  generalize a + v * t / u = r
  generalize sideM s a = f
  have e1 := Int.mul_ediv_add_emod (r - f) s
  have e2 := Int.emod_nonneg (r - f) (show s ≠ 0 by omega)
  have e3 := Int.emod_lt_of_pos (r - f) (show 0 < s by omega)
  have sk := Int.mul_nonneg (show 0 ≤ s by omega) k0
  by_cases h : r < f
  · rw [if_pos (by omega), if_pos h, if_pos k0]
  · rw [if_neg h]
    by_cases h2 : r < f + s * k
    · rw [if_pos h2, if_pos]
      refine Classical.byContradiction fun z => ?_
      have := Int.mul_le_mul_of_nonneg_left (show k ≤ (r - f) / s by omega) (show 0 ≤ s by omega)
      omega
    · rw [if_neg h2, if_neg]
      · rw [show r - (f + s * k) = (r - f) - s * k by omega, div_sub_mul hs he, show (r - f) / s + 1 - 1 - k = (r - f) / s - k by omega]
      · intro z
        have := Int.mul_le_mul_of_nonneg_left (show (r - f) / s + 1 ≤ k by omega) (show 0 ≤ s by omega)
        rw [Int.mul_add] at this
        omega
theorem hits_of {s a v s' a' v' t u : Int} {o : Option Int} (hs : 1 ≤ s) (hs' : 1 ≤ s') (hv : 0 < v) (hv' : 0 < v') (an : (cornW s a v s' a' v').Ans o) :
    nM s a v t u + nM s' a' v' t u - ((cornL s a v (sideM s a) (s' * v) (v' * s) o).map fun m => m.pa t u).sum = hitsN s a v s' a' v' t u := by
  unfold hitsN
  rw [if_pos ⟨hv, hv'⟩]
  have c1 : 1 ≤ s' * v := Int.mul_pos (by omega) hv
  have an := an.1
  generalize hb : a' * v + v' * (sideM s a - a) = b at *
  have an : Least (fun k => 0 ≤ k ∧ (v' * s * k + b) % (s' * v) = 0) o := by
    refine least_iff (fun k => btw_wit c1) ?_
    unfold cornW wit at an
    rw [hb] at an
    exact an
  have n0 := nM_nonneg (a := a) (v := v) (t := t) (u := u) hs
  have cp := div_gcd_pos (t := v' * s) c1
  cases o with
  | none =>
    rw [cornC_none (fun i i0 h => an i ⟨i0, h⟩)]
    rfl
  | some k =>
    rw [cornC_some c1 an.1.1 an.1.2 (fun i i0 h => an.2 i ⟨i0, h⟩)]
    have := corn_pa (a := a) (v := v) (t := t) (u := u) hs an.1.1 cp
    rw [show ((nM s a v t u).toNat : Int) = nM s a v t u by omega, ← this]
    show _ - (passed a v (sideM s a + s * k) (s * (s' * v / _)) t u + 0) = _
    omega
section
variable {P : Program} {w : World} {K : PySem.W.Frag} {mg : Str → Option Value} {base : Heap} {CN : String → Option Addr}
theorem ok__hit_marks {f : Addr} {fd : FuncData} (F : Fun K "_hit_marks" "_hit_marks" s__hit_marks f fd) (g : G K mg CN) (c_corner_marks : CalP P w K mg base CN 4 "corner_marks" D_corner_marks) (c_side_marks : CalP P w K mg base CN 2 "side_marks" D_side_marks) : FnG P w K mg base 5 f fd ["lines"] (spP K CN D__hit_marks) := by
  have sc := sc__hit_marks
  exact fun_okP (m := m__hit_marks) F sc (by decide) len__hit_marks (fun cdv A outer s H E C W hw hr tk =>
    (pds_one (pds_ret (pdr_of (pd_op or_add rl_add (pd_lc (pe_lc (own := [("line", 1)]) rfl sc.nd (pdi_seq (dv 0)) (blkOk_by (N := ["lines", "line"]) (sc := (defScope s__hit_marks)) (by decide +kernel)) (fun _ _ _ _ _ => (dgv 1 (vs := [1]) sc.nd)) (fun _ _ _ _ _ => pdts_nil) (fun _ _ _ _ _ => (pd_call c_side_marks hr (by decide) takesF (pda_cons (dv 1) pda_nil))))) (pd_call c_corner_marks hr (by decide) tk (pda_cons (dv 0) pda_nil))))))) rd__hit_marks
end
def m_count_hits (W : WD) : MS :=
  mSeq (mDrop (mCall D_check_shot W (mCons (mVar 0) (mCons (mVar 1) (mNil)))))
  (mSeq (mDrop (mCall D_check_time W (mCons (mVar 2) (mNil))))
  (mRet (mrOf (mCall D__count W (mCons (mCall D__hit_marks W (mCons (mCall D_lines_of W (mCons (mVar 0) (mCons (mVar 1) (mNil)))) (mNil))) (mCons (mVar 2) (mNil)))))))
def hitsD : PyData → PyData → PyData → PyData
  | .tuple [.int a, .int b], .tuple [.int x, .int y, .int p, .int q], .tuple [.int n, .int m] => .int (hitsN a (lineA p x) (lineV p) b (lineA q y) (lineV q) n m)
  | _, _, _ => .none
def D_count_hits : PSpec := fun ds Q E => ∃ t v f, ds = [t, v, f] ∧ (isTab t = false → E "InvalidTable") ∧ (isTab t = true → isShot t v = false → E "InvalidShot") ∧ (isTab t = true → isShot t v = true → isFrac f = false → E "InvalidTime") ∧ (isTab t = true → isShot t v = true → isFrac f = true → szH 600 t ∧ szH 600 v ∧ szH 8000 f ∧ Q (.va (hitsD t v f)))
theorem len_count_hits : ∀ ds Q E, D_count_hits ds Q E → ds.length = 3 := by
  rintro _ Q E ⟨t, v, f, rfl, _⟩
  rfl
theorem rd_count_hits : ∀ ds Q E, D_count_hits ds Q E → m_count_hits (fun c _ => E c) (endP Q) (slots0 3 ds) := by
  rintro _ Q E ⟨t, v, f, rfl, q1, q2, q3, q4⟩
  unfold m_count_hits
  walk_at "rdn"
  refine ⟨t, v, rfl, q1, q2, fun h1 h2 => ⟨⟨_, rfl⟩, f, rfl, fun h3 => ⟨⟨_, rfl⟩, ?_⟩, q3 h1 h2⟩⟩
  obtain ⟨z1, z2, z3, q⟩ := q4 h1 h2 h3
  obtain ⟨a, b, x, y, p, r, rfl, rfl, -⟩ := shot_inv h2
  obtain ⟨n, m, rfl, hm, -⟩ := frac_inv h3
  simp only [isTab, Bool.and_eq_true, decide_eq_true_eq] at h1
  refine ⟨a, b, x, y, p, r, rfl, _, rfl, ?_⟩
  rw [lineD_eq, lineD_eq]
  have v0 := lineV_nonneg p
  have v0' := lineV_nonneg r
  have zA := sz_lineA (v := p) z2.1
  have zB := sz_lineA (v := r) z2.2.1
  have zV := sz_lineV z2.2.2.1
  have zU := sz_lineV z2.2.2.2
  have q : Q (.va (.int (hitsN a (lineA p x) (lineV p) b (lineA r y) (lineV r) n m))) := q
  refine ⟨a, lineA p x, lineV p, b, lineA r y, lineV r, rfl, h1.1, h1.2, v0, v0', ⟨z1.1, zA, zV, z1.2, zB, zU⟩, ?_, ?_⟩
  · intro hz
    refine ⟨_, rfl, ⟨_, _, [], _, _, rfl, ?_, by decide, hm, z3.1, z3.2, _, rfl, ?_⟩⟩
    · intro mk hmk
      simp only [List.mem_cons, List.not_mem_nil, or_false] at hmk
      rcases hmk with rfl | rfl
      · exact ⟨h1.1, sz_mono zV (by decide), sz_mono z1.1 (by decide)⟩
      · exact ⟨h1.2, sz_mono zU (by decide), sz_mono z1.2 (by decide)⟩
    · unfold hitsN at q
      rw [if_neg (by omega)] at q
      exact q
  · intro hV hU o an
    refine ⟨_, rfl, ⟨_, _, cornL a (lineA p x) (lineV p) (sideM a (lineA p x)) (b * lineV p) (lineV r * a) o, _, _, rfl, ?_, ?_, hm, z3.1, z3.2, _, rfl, ?_⟩⟩
    · intro mk hmk
      simp only [List.mem_cons] at hmk
      rcases hmk with rfl | rfl | hmk
      · exact ⟨h1.1, sz_mono zV (by decide), sz_mono z1.1 (by decide)⟩
      · exact ⟨h1.2, sz_mono zU (by decide), sz_mono z1.2 (by decide)⟩
      · cases o with
        | none => cases hmk
        | some k =>
          simp only [cornL, List.mem_singleton] at hmk
          rw [hmk]
          have c1 : 1 ≤ b * lineV p := Int.mul_pos (by omega) hV
          have cp := div_gcd_pos (t := lineV r * a) c1
          have gp := gcd_pos (t := lineV r * a) c1
          have zc := sz_mul z1.2 zV
          refine ⟨?_, sz_mono zV (by decide), sz_mono (sz_mul z1.1 (sz_div zc gp)) (by decide)⟩
          have := Int.mul_pos (show 0 < a by omega) (show (0 : Int) < b * lineV p / (Nat.gcd (lineV r * a).natAbs (b * lineV p).natAbs : Nat) by omega)
          exact this
    · cases o <;> simp [cornL]
    · have := hits_of (t := n) (u := m) h1.1 h1.2 hV hU an
      have e : ∀ z : Int, z = hitsN a (lineA p x) (lineV p) b (lineA r y) (lineV r) n m → Q (.va (.int z)) := fun z hz => by rw [hz]; exact q
      exact e _ this
section
variable {P : Program} {w : World} {K : PySem.W.Frag} {mg : Str → Option Value} {base : Heap} {CN : String → Option Addr}
theorem ok_count_hits {f : Addr} {fd : FuncData} (F : Fun K "count_hits" "count_hits" s_count_hits f fd) (g : G K mg CN) (c__count : CalP P w K mg base CN 2 "_count" D__count) (c__hit_marks : CalP P w K mg base CN 5 "_hit_marks" D__hit_marks) (c_check_shot : CalP P w K mg base CN 6 "check_shot" D_check_shot) (c_check_time : CalP P w K mg base CN 4 "check_time" D_check_time) (c_lines_of : CalP P w K mg base CN 2 "lines_of" D_lines_of) : FnG P w K mg base 7 f fd ["table", "shot", "time"] (spP K CN D_count_hits) := by
  have sc := sc_count_hits
  exact fun_okP (m := m_count_hits) F sc (by decide) len_count_hits (fun cdv A outer s H E C W hw hr tk =>
    (pds_cons (pds_drop (pd_call c_check_shot hr (by decide) tk (pda_cons (dv 0) (pda_cons (dv 1) pda_nil))))
    (pds_cons (pds_drop (pd_call c_check_time hr (by decide) tk (pda_cons (dv 2) pda_nil)))
    (pds_one (pds_ret (pdr_of (pd_call c__count hr (by decide) tk (pda_cons (pd_call c__hit_marks hr (by decide) tk (pda_cons (pd_call c_lines_of hr (by decide) tk (pda_cons (dv 0) (pda_cons (dv 1) pda_nil))) pda_nil)) (pda_cons (dv 2) pda_nil))))))))) rd_count_hits
end
end LW
namespace LW
open PySem PySem.Spec PyProof.Rows L2 DL
def m__time_of_count (W : WD) : MS :=
  mSeq (mIf (mT (mOp2 opEq (mOp2 opIx (mVar 1) (mC (.int 2))) (mC (.int 0)))) (mRet (mrOf (mC .none))) (mNext))
  (mSeq (mAsg (mCall D_side_marks W (mCons (mVar 1) (mNil))) (mgTup 3 (mgCons (mgName 3) (mgCons (mgName 4) (mgCons (mgName 5) (mgNil))))))
  (mSeq (mAsgM [6, 7] [mrOf (mC (.int 0)), mrOf (mOp2 opSub (mVar 2) (mC (.int 1)))])
  (mSeq (mWhile (mT (mOp2 opLt (mVar 6) (mVar 7))) (mSeq (mAsg (mOp2 opFdiv (mOp2 opAdd (mVar 6) (mVar 7)) (mC (.int 2))) (mgName 8))
  (mIf (mT (mOp2 opLt (mCall D__count W (mCons (mVar 0) (mCons (mCall D_mark_time W (mCons (mVar 1) (mCons (mOp2 opAdd (mVar 4) (mOp2 opMul (mVar 5) (mVar 8))) (mNil)))) (mNil)))) (mVar 2))) (mAsg (mOp2 opAdd (mVar 8) (mC (.int 1))) (mgName 6)) (mAsg (mVar 8) (mgName 7)))))
  (mRet (mrOf (mCall D_mark_time W (mCons (mVar 1) (mCons (mOp2 opAdd (mVar 4) (mOp2 opMul (mVar 5) (mVar 6))) (mNil)))))))))
/-- the count of marks (both lines, less the corners) up to a time -/
def cntM : List Mk → Int × Int → Int
  | m0 :: m1 :: ms, t => m0.pa t.1 t.2 + m1.pa t.1 t.2 - (ms.map fun m => m.pa t.1 t.2).sum
  | _, _ => 0
/-- the time of a line's mark -/
def mkT (s a v j : Int) : Int × Int := lowP (sideM s a + s * j - a) v
def D__time_of_count : PSpec := fun ds Q _ => ∃ m0 m1 ms s a v n, ds = [.list ((m0 :: m1 :: ms).map Mk.d), .tuple [.int s, .int a, .int v], .int n] ∧ (∀ m ∈ m0 :: m1 :: ms, m.ok) ∧ ms.length < 1000 ∧ 1 ≤ s ∧ 0 ≤ v ∧ sz 600 s ∧ sz 600 a ∧ sz 600 v ∧ 1 ≤ n ∧ sz 2000 n ∧ (v = 0 → Q (.va .none)) ∧
  (0 < v → ∃ j : Int, 0 ≤ j ∧ j < n ∧ (∀ i : Int, 0 ≤ i → i < n → (cntM (m0 :: m1 :: ms) (mkT s a v i) < n ↔ i < j)) ∧ Q (.va (fracD (sideM s a + s * j - a) v)))
theorem len__time_of_count : ∀ ds Q E, D__time_of_count ds Q E → ds.length = 3 := by
  rintro _ Q E ⟨m0, m1, ms, s, a, v, n, rfl, _⟩
  rfl
theorem if_run' {t : MT} {sd : DSt} {R : Bool → DSt → Prop} (c : Bool) (ht : ∀ Q : Bool → DSt → Prop, Q c sd → t sd Q) (h : R c sd) : t sd R := ht _ h
theorem rd__time_of_count : ∀ ds Q E, D__time_of_count ds Q E → m__time_of_count (fun c _ => E c) (endP Q) (slots0 9 ds) := by
  rintro _ Q E ⟨m0, m1, ms, s, a, v, n, rfl, ok, lm, s1, v0, zs, za, zv, n1, zn, q0, q1⟩
  unfold m__time_of_count
  generalize hms : (m0 :: m1 :: ms).map Mk.d = M
  by_cases hv : v = 0
  · refine seq_step fun N hN => ?_
    walk_at "rdn"
    rw [if_pos (decide_eq_true hv)]
    exact q0 hv
  have hv' : 0 < v := by omega
  obtain ⟨j, j0, j1, thr, q⟩ := q1 hv'
  have zf := sz_sideM s1 zs za
  have zt : ∀ i : Int, 0 ≤ i → i < n → sz 2700 (sideM s a + s * i - a) := fun i i0 i1 =>
    sz_mono (sz_sub (sz_add (sz_mono zf (l := 2600) (by decide)) (sz_mul zs (sz_le zn (show i.natAbs ≤ n.natAbs by omega)))) (sz_mono za (by decide))) (by decide)
  have s2 : sz 2 2 := by unfold sz; decide
  refine seq_step fun N hN => ?_
  walk_at "rdn"
  rw [if_neg (by simpa using hv)]
  subst hN
  refine seq_step fun N hN => ?_
  walk_at "rdn"
  refine ⟨s, a, v, rfl, s1, _, rfl, ?_⟩
  walk_at "rdn"
  subst hN
  refine seq_step fun N hN => ?_
  walk_at "rdn"
  subst hN
  refine seq_run (fun st => ∃ x7 x8, st = [.va (.list M), .va (.tuple [.int s, .int a, .int v]), .va (.int n), .va (.tuple [.int s, .int a, .int v]), .va (.int (sideM s a)), .va (.int s), .va (.int j), x7, x8]) (fun N hN => ?_) ?_
  · refine whileM (fun k st => ∃ lo hi x8, st = [.va (.list M), .va (.tuple [.int s, .int a, .int v]), .va (.int n), .va (.tuple [.int s, .int a, .int v]), .va (.int (sideM s a)), .va (.int s), .va (.int lo), .va (.int hi), x8] ∧ 0 ≤ lo ∧ lo ≤ j ∧ j ≤ hi ∧ hi < n ∧ k = (hi - lo).toNat) ⟨0, n - 1, _, rfl, by omega, j0, by omega, by omega, rfl⟩ ?_
    rintro k st N' ⟨lo, hi, x8, rfl, l0, lj, jh, hn, rfl⟩ hN'
    by_cases c : lo < hi
    · refine if_run' true (fun Q h => ?_) ?_
      · walk_at "rdn"
        rw [decide_eq_true c]
        exact h
      simp only [if_true]
      have e1 : lo ≤ (lo + hi) / 2 := by omega
      have e2 : (lo + hi) / 2 < hi := by omega
      refine seq_step fun N2 hN2 => ?_
      walk_at "rdn"
      refine ⟨_, opFdiv_ok (by decide) s2 (by decide), ?_⟩
      subst hN2
      generalize hm : (lo + hi) / 2 = mi at *
      have zmi : sz 2000 mi := sz_le zn (by omega)
      have th := thr mi (by omega) (by omega)
      have zl := sz_lowP (t := sideM s a + s * mi - a) (b := v) (by omega) (zt mi (by omega) (by omega)) zv
      obtain ⟨-, lp, -⟩ := lowP_facts (t := sideM s a + s * mi - a) (b := v) (by omega)
      refine if_run (decide (cntM (m0 :: m1 :: ms) (mkT s a v mi) < n)) (fun Q h => ?_) (fun h => ?_) (fun h => ?_)
      · walk_at "rdn"
        refine ⟨_, opMul_ok zs zmi (by decide), _, rfl, s, a, v, _, rfl, by omega, sz_mono zv (by decide), _, rfl, ?_⟩
        refine ⟨m0, m1, ms, (lowP (sideM s a + s * mi - a) v).1, (lowP (sideM s a + s * mi - a) v).2, by rw [hms]; rfl, ok, lm, lp, sz_mono zl.1 (by decide), sz_mono zl.2 (by decide), _, rfl, _, rfl, _, rfl, ?_⟩
        exact h
      · have h := th.mp (of_decide_eq_true h)
        walk_at "rdn"
        exact hN' (hi - (mi + 1)).toNat _ (by omega) ⟨_, _, _, rfl, by omega, by omega, jh, hn, rfl⟩
      · have h : ¬ mi < j := fun z => of_decide_eq_false h (th.mpr z)
        walk_at "rdn"
        exact hN' (mi - lo).toNat _ (by omega) ⟨_, _, _, rfl, l0, lj, by omega, by omega, rfl⟩
    · refine if_run' false (fun Q h => ?_) ?_
      · walk_at "rdn"
        rw [decide_eq_false c]
        exact h
      simp only [Bool.false_eq_true, if_false]
      have : lo = j := by omega
      rw [this]
      exact hN _ ⟨_, _, rfl⟩
  rintro _ ⟨x7, x8, rfl⟩
  have zj : sz 2000 j := sz_le zn (by omega)
  walk_at "rdn"
  exact ⟨_, opMul_ok zs zj (by decide), _, rfl, s, a, v, _, rfl, by omega, sz_mono zv (by decide), _, rfl, q⟩
section
variable {P : Program} {w : World} {K : PySem.W.Frag} {mg : Str → Option Value} {base : Heap} {CN : String → Option Addr}
theorem ok__time_of_count {f : Addr} {fd : FuncData} (F : Fun K "_time_of_count" "_time_of_count" s__time_of_count f fd) (g : G K mg CN) (c__count : CalP P w K mg base CN 2 "_count" D__count) (c_mark_time : CalP P w K mg base CN 2 "mark_time" D_mark_time) (c_side_marks : CalP P w K mg base CN 2 "side_marks" D_side_marks) : FnG P w K mg base 3 f fd ["marks", "line", "many"] (spP K CN D__time_of_count) := by
  have sc := sc__time_of_count
  exact fun_okP (m := m__time_of_count) F sc (by decide) len__time_of_count (fun cdv A outer s H E C W hw hr tk =>
    (pds_cons (pds_if (pdt_cmp (or_eqD (RoomG.u64 hr)) rl_eq (pd_ix ix_seq rl_ix (dv 1) pd_int) pd_int (nomark _)) (pds_one (pds_ret (pdr_of pd_non))) pds_nil)
    (pds_cons (pds_asg (ps_asg (pd_call c_side_marks hr (by decide) tk (pda_cons (dv 1) pda_nil)) (pdg_tup rfl (gcons (dg 3 sc.nd) (gcons (dg 4 sc.nd) (gcons (dg 5 sc.nd) pdgs_nil))))))
    (pds_cons (pds_par2 (ps_par2 (i := 6) (j := 7) rfl sc.nd rfl rfl (by decide) rfl rfl (pdar_cons (pdr_of pd_int) (pdar_cons (pdr_of (pd_op op_sub rl_sub (dv 2) pd_int)) pdar_nil)) rfl))
    (pds_cons (pds_while (ps_while psw (pdt_cmp op_lt rl_cmpI (dv 6) (dv 7) (nomark _)) (pds_cons (pds_asg (ps_asg (pd_op op_fdivW rl_fdiv (pd_op or_add rl_add (dv 6) (dv 7)) pd_int) (dg 8 sc.nd)))
    (pds_one (pds_if (pdt_cmp op_lt rl_cmpI (pd_call c__count hr (by decide) tk (pda_cons (dv 0) (pda_cons (pd_call c_mark_time hr (by decide) tk (pda_cons (dv 1) (pda_cons (pd_op or_add rl_add (dv 4) (pd_op or_mul rl_mul (dv 5) (dv 8))) pda_nil))) pda_nil))) (dv 2) (nomark _)) (pds_one (pds_asg (ps_asg (pd_op or_add rl_add (dv 8) pd_int) (dg 6 sc.nd)))) (pds_one (pds_asg (ps_asg (dv 8) (dg 7 sc.nd)))))))))
    (pds_one (pds_ret (pdr_of (pd_call c_mark_time hr (by decide) tk (pda_cons (dv 1) (pda_cons (pd_op or_add rl_add (dv 4) (pd_op or_mul rl_mul (dv 5) (dv 6))) pda_nil))))))))))) rd__time_of_count
end
def m__word (W : WD) : MS :=
  mSeq (mAsg (mVar 1) (mgTup 2 (mgCons (mgName 2) (mgCons (mgName 3) (mgNil)))))
  (mSeq (mAsg (mC (.str "")) (mgName 4))
  (mSeq (mFor (miEnumT (mCons (mVar 0) (mNil))) (mgTup 2 (mgCons (mgName 5) (mgCons (mgTup 3 (mgCons (mgName 6) (mgCons (mgName 7) (mgCons (mgName 8) (mgNil))))) (mgNil)))) (mSeq (mAsg (mOp2 opAdd (mOp2 opMul (mVar 7) (mVar 3)) (mOp2 opMul (mVar 8) (mVar 2))) (mgName 9))
  (mIf (mTAnd (mT (mOp2 opGt (mVar 8) (mC (.int 0)))) (mT (mOp2 opEq (mOp2 opMod (mVar 9) (mOp2 opMul (mVar 6) (mVar 3))) (mC (.int 0))))) (mAsg (mOp2 opAdd (mVar 4) (mOp2 opIx (mC (.tuple [(.str "W"), (.str "E"), (.str "S"), (.str "N")])) (mOp2 opAdd (mOp2 opMul (mC (.int 2)) (mVar 5)) (mOp2 opMod (mOp2 opFdiv (mVar 9) (mOp2 opMul (mVar 6) (mVar 3))) (mC (.int 2)))))) (mgName 4)) (mNext))))
  (mRet (mrOf (mVar 4)))))
/-- the letter of a line in the word of a time -/
def letW (s a v n m : Int) (e w : Str) : Str := if 0 < v ∧ (a * m + v * n) % (s * m) = 0 then (if (a * m + v * n) / (s * m) % 2 = 0 then w else e) else ""
def wordW (s a v s' a' v' n m : Int) : Str := letW s a v n m "E" "W" ++ letW s' a' v' n m "N" "S"
theorem letW_len (s a v n m : Int) {e w : Str} (he : e.length = 1) (hw : w.length = 1) : (letW s a v n m e w).length ≤ 1 := by
  unfold letW
  split
  · split
    · rw [hw]; decide
    · rw [he]; decide
  · decide
def D__word : PSpec := fun ds Q _ => ∃ s a v s' a' v' n m, ds = [.tuple [.tuple [.int s, .int a, .int v], .tuple [.int s', .int a', .int v']], .tuple [.int n, .int m]] ∧ 1 ≤ s ∧ 1 ≤ s' ∧ 1 ≤ m ∧ (sz 2000 s ∧ sz 2000 a ∧ sz 2000 v ∧ sz 2000 s' ∧ sz 2000 a' ∧ sz 2000 v' ∧ sz 6000 n ∧ sz 6000 m) ∧ Q (.va (.str (wordW s a v s' a' v' n m)))
theorem len__word : ∀ ds Q E, D__word ds Q E → ds.length = 2 := by
  rintro _ Q E ⟨s, a, v, s', a', v', n, m, rfl, _⟩
  rfl
theorem str_e_app (x : Str) : ("" : Str) ++ x = x := by
  obtain ⟨l⟩ := x
  show (⟨#[] ++ l⟩ : Str) = ⟨l⟩
  rw [Array.empty_append]
theorem rd__word : ∀ ds Q E, D__word ds Q E → m__word (fun c _ => E c) (endP Q) (slots0 10 ds) := by
  rintro _ Q E ⟨s, a, v, s', a', v', n, m, rfl, s1, s1', m1, ⟨zs, za, zv, zs', za', zv', zn, zm⟩, q⟩
  unfold m__word
  generalize hL0 : PyData.tuple [.tuple [.int s, .int a, .int v], .tuple [.int s', .int a', .int v']] = L0
  have s2 : sz 2 2 := by unfold sz; decide
  refine seq_step fun N hN => ?_
  walk_at "rdn"
  subst hN
  refine seq_step fun N hN => ?_
  walk_at "rdn"
  subst hN
  refine seq_step fun N hN => ?_
  simp only [mFor, miEnumT]
  rw [← hL0]
  walk_at "rdn"
  rw [hL0]
  have one : ∀ (s a v : Int) (i : Int) (e w w0 : Str) (x9 : S) (D : DE), (i = 0 ∧ e = "E" ∧ w = "W" ∨ i = 1 ∧ e = "N" ∧ w = "S") → 1 ≤ s → sz 2000 s → sz 2000 a → sz 2000 v → w0.length ≤ 10 →
      (∀ x9, D.nx [.va L0, .va (.tuple [.int n, .int m]), .va (.int n), .va (.int m), .va (.str (w0 ++ letW s a v n m e w)), .va (.int i), .va (.int s), .va (.int a), .va (.int v), x9]) →
      mSeq (mAsg (mOp2 opAdd (mOp2 opMul (mVar 7) (mVar 3)) (mOp2 opMul (mVar 8) (mVar 2))) (mgName 9))
        (mIf (mTAnd (mT (mOp2 opGt (mVar 8) (mC (.int 0)))) (mT (mOp2 opEq (mOp2 opMod (mVar 9) (mOp2 opMul (mVar 6) (mVar 3))) (mC (.int 0))))) (mAsg (mOp2 opAdd (mVar 4) (mOp2 opIx (mC (.tuple [(.str "W"), (.str "E"), (.str "S"), (.str "N")])) (mOp2 opAdd (mOp2 opMul (mC (.int 2)) (mVar 5)) (mOp2 opMod (mOp2 opFdiv (mVar 9) (mOp2 opMul (mVar 6) (mVar 3))) (mC (.int 2)))))) (mgName 4)) (mNext))
        D [.va L0, .va (.tuple [.int n, .int m]), .va (.int n), .va (.int m), .va (.str w0), .va (.int i), .va (.int s), .va (.int a), .va (.int v), x9] := by
    intro s a v i e w w0 x9 D hi s1 zs za zv hw hD
    have SM : 0 < s * m := Int.mul_pos (by omega) (by omega)
    have zSM := sz_mul zs zm
    refine seq_step fun N2 hN2 => ?_
    walk_at "rdn"
    refine ⟨_, opMul_ok za zm (by decide), _, opMul_ok zv zn (by decide), _, rfl, ?_⟩
    subst hN2
    have hD := hD (.va (.int (a * m + v * n)))
    unfold letW at hD
    by_cases c1 : 0 < v
    · by_cases c2 : (a * m + v * n) % (s * m) = 0
      · rw [if_pos ⟨c1, c2⟩] at hD
        refine if_run true (fun Q h => ?_) (fun _ => ?_) (fun hc => by cases hc)
        · walk_at "rdn"
          rw [if_pos (decide_eq_true c1)]
          refine ⟨_, opMul_ok zs zm (by decide), _, opMod_ok SM, _, opEq_int, _, rfl, ?_⟩
          rw [decide_eq_true c2]
          exact h
        · walk_at "rdn"
          have zi : sz 2 i := by unfold sz; omega
          refine ⟨_, opMul_ok s2 zi (by decide), _, opMul_ok zs zm (by decide), _, opFdiv_ok SM zSM (by decide), _, opMod_ok (by decide), _, rfl, ?_⟩
          have r : (a * m + v * n) / (s * m) % 2 = 0 ∨ (a * m + v * n) / (s * m) % 2 = 1 := by omega
          have add : ∀ z : Str, z.length = 1 → opAdd (.str w0) (.str z) = some (.str (w0 ++ z)) := fun z hz => opAdd_s (by omega)
          rcases hi with ⟨rfl, rfl, rfl⟩ | ⟨rfl, rfl, rfl⟩ <;> rcases r with r | r
          · rw [r] at hD ⊢
            exact ⟨.str "W", rfl, _, add _ rfl, hD⟩
          · rw [r] at hD ⊢
            exact ⟨.str "E", rfl, _, add _ rfl, hD⟩
          · rw [r] at hD ⊢
            exact ⟨.str "S", rfl, _, add _ rfl, hD⟩
          · rw [r] at hD ⊢
            exact ⟨.str "N", rfl, _, add _ rfl, hD⟩
      · rw [if_neg (fun z => c2 z.2), str_nil] at hD
        refine if_run false (fun Q h => ?_) (fun hc => by cases hc) (fun _ => ?_)
        · walk_at "rdn"
          rw [if_pos (decide_eq_true c1)]
          refine ⟨_, opMul_ok zs zm (by decide), _, opMod_ok SM, _, opEq_int, _, rfl, ?_⟩
          rw [decide_eq_false c2]
          exact h
        · walk_at "rdn"
          exact hD
    · rw [if_neg (fun z => c1 z.1), str_nil] at hD
      refine if_run false (fun Q h => ?_) (fun hc => by cases hc) (fun _ => ?_)
      · walk_at "rdn"
        rw [if_neg (by simpa using c1)]
        exact h
      · walk_at "rdn"
        exact hD
  simp only [enumL, forL, mgTup_t, mgCons_c, mgName, mgNil_n, sset]
  refine ⟨rfl, rfl, ?_⟩
  refine one s a v 0 "E" "W" "" _ _ (.inl ⟨rfl, rfl, rfl⟩) s1 zs za zv (by decide) fun x9 => ?_
  simp only [sset]
  refine ⟨rfl, rfl, ?_⟩
  rw [str_e_app]
  refine one s' a' v' 1 "N" "S" _ _ _ (.inr ⟨rfl, rfl, rfl⟩) s1' zs' za' zv' (Nat.le_trans (letW_len s a v n m rfl rfl) (by decide)) fun x9 => ?_
  subst hN
  walk_at "rdn"
  exact q
section
variable {P : Program} {w : World} {K : PySem.W.Frag} {mg : Str → Option Value} {base : Heap} {CN : String → Option Addr}
theorem ok__word {f : Addr} {fd : FuncData} (F : Fun K "_word" "_word" s__word f fd) (g : G K mg CN)  : FnG P w K mg base 1 f fd ["lines", "time"] (spP K CN D__word) := by
  have sc := sc__word
  exact fun_okP (m := m__word) F sc (by decide) len__word (fun cdv A outer s H E C W hw hr tk =>
    (pds_cons (pds_asg (ps_asg (dv 1) (pdg_tup rfl (gcons (dg 2 sc.nd) (gcons (dg 3 sc.nd) pdgs_nil)))))
    (pds_cons (pds_asg (ps_asg pd_str (dg 4 sc.nd)))
    (pds_cons (pds_for (ps_for psw rfl (pdi_enumT (pi_enumT rfl g.b_enumerate (pda_cons (dv 0) pda_nil))) (pdg_tup rfl (gcons (dg 5 sc.nd) (gcons (pdg_tup rfl (gcons (dg 6 sc.nd) (gcons (dg 7 sc.nd) (gcons (dg 8 sc.nd) pdgs_nil)))) pdgs_nil))) (pds_cons (pds_asg (ps_asg (pd_op or_add rl_add (pd_op or_mul rl_mul (dv 7) (dv 3)) (pd_op or_mul rl_mul (dv 8) (dv 2))) (dg 9 sc.nd)))
    (pds_one (pds_if (pdt_ofw (pdw_and (pdt_cmp op_gt rl_cmpI (dv 8) pd_int (nomark _)) (pdw_and1 (pdt_cmp (or_eqD (RoomG.u64 hr)) rl_eq (pd_op op_mod rl_mod (dv 9) (pd_op or_mul rl_mul (dv 6) (dv 3))) pd_int (nomark _))))) (pds_one (pds_asg (ps_asg (pd_op or_add rl_add (dv 4) (pd_ix ix_seq rl_ix (pd_cst g.gl_CUSHIONS) (pd_op or_add rl_add (pd_op or_mul rl_mul pd_int (dv 5)) (pd_op op_mod rl_mod (pd_op op_fdivW rl_fdiv (dv 9) (pd_op or_mul rl_mul (dv 6) (dv 3))) pd_int)))) (dg 4 sc.nd)))) pds_nil)))))
    (pds_one (pds_ret (pdr_of (dv 4)))))))) rd__word
end
end LW
namespace LW
open PySem PySem.Spec PyProof.Rows L2 DL
theorem sideM_is {s a : Int} (hs : 1 ≤ s) : sideM s a = s * (a / s + 1) := by
  unfold sideM
  have e := Int.emod_add_mul_ediv a s
  have e1 := Int.emod_nonneg a (show s ≠ 0 by omega)
  have e2 := Int.emod_lt_of_pos a (show 0 < s by omega)
  have : (0 - (a + 1)) % s = s - 1 - a % s := by
    rw [show 0 - (a + 1) = (s - 1 - a % s) + s * (-(a / s) - 1) by rw [Int.mul_sub, Int.mul_neg]; omega, Int.add_mul_emod_self_left]
    exact Int.emod_eq_of_lt (by omega) (by omega)
  rw [this, Int.mul_add]
  omega
theorem nM_flo {s a v n m : Int} (hs : 1 ≤ s) (hm : 1 ≤ m) (hv : 0 ≤ v) (hn : 0 ≤ n) : nM s a v n m = (a * m + v * n) / (s * m) - a / s := by
  unfold nM passed
  have e0 : (a * m + v * n) / (s * m) = (a + v * n / m) / s := by
    rw [Int.mul_comm s m, ← Int.ediv_ediv_of_nonneg (by omega), Int.add_comm (a * m), Int.add_mul_ediv_right _ _ (by omega), Int.add_comm (v * n / m)]
  have h0 : 0 ≤ v * n / m := Int.ediv_nonneg (Int.mul_nonneg hv hn) (by omega)
  rw [e0, sideM_is hs]
  generalize v * n / m = w at *
  have e1 := Int.emod_add_mul_ediv a s
  have e2 := Int.emod_nonneg a (show s ≠ 0 by omega)
  have e3 := Int.emod_lt_of_pos a (show 0 < s by omega)
  have f1 := Int.emod_add_mul_ediv (a + w) s
  have f2 := Int.emod_nonneg (a + w) (show s ≠ 0 by omega)
  have f3 := Int.emod_lt_of_pos (a + w) (show 0 < s by omega)
  have mono : a / s ≤ (a + w) / s := Int.ediv_le_ediv (by omega) (by omega)
  by_cases h : a + w < s * (a / s + 1)
  · rw [if_pos h]
    have : (a + w) / s < a / s + 1 := (Int.ediv_lt_iff_lt_mul (by omega)).mpr (by rw [Int.mul_comm]; exact h)
    omega
  · rw [if_neg h]
    rw [show a + w - s * (a / s + 1) = a + w + s * (-(a / s + 1)) by rw [Int.mul_neg]; omega, Int.add_mul_ediv_left _ _ (by omega)]
    omega
theorem nM_neg {s a v n m : Int} (hs : 1 ≤ s) (hm : 1 ≤ m) (hv : 0 ≤ v) (hn : n ≤ 0) : nM s a v n m = 0 := by
  unfold nM passed
  have e2 := Int.emod_nonneg (0 - (a + 1)) (show s ≠ 0 by omega)
  have h0 : v * n / m ≤ 0 := by
    have : v * n ≤ 0 := Int.mul_nonpos_of_nonneg_of_nonpos hv hn
    have := Int.ediv_le_ediv (show 0 < m by omega) this
    rw [Int.zero_ediv] at this
    exact this
  rw [if_pos (by unfold sideM; omega)]
theorem hitsN_neg {s a v s' a' v' n m : Int} (hs : 1 ≤ s) (hs' : 1 ≤ s') (hm : 1 ≤ m) (hv : 0 ≤ v) (hv' : 0 ≤ v') (hn : n ≤ 0) : hitsN s a v s' a' v' n m = 0 := by
  unfold hitsN
  rw [nM_neg hs hm hv hn, nM_neg hs' hm hv' hn]
  split <;> rfl
/-- a table and a shot on it, with sizes -/
structure Vd (k : Nat) (a b x y p q : Int) : Prop where
  a1 : 1 ≤ a
  b1 : 1 ≤ b
  x0 : 0 ≤ x
  x1 : x ≤ a
  y0 : 0 ≤ y
  y1 : y ≤ b
  w : p ≠ 0 ∨ q ≠ 0
  za : sz k a
  zb : sz k b
  zx : sz k x
  zy : sz k y
  zp : sz k p
  zq : sz k q
theorem Vd.tab {k : Nat} {a b x y p q : Int} (v : Vd k a b x y p q) : isTab (.tuple [.int a, .int b]) = true := by simp [isTab, v.a1, v.b1]
theorem Vd.shot {k : Nat} {a b x y p q : Int} (v : Vd k a b x y p q) : isShot (.tuple [.int a, .int b]) (.tuple [.int x, .int y, .int p, .int q]) = true := by
  have := v.w
  simp [isShot, v.x0, v.y0, v.x1, v.y1]
  omega
theorem Vd.mono {k l : Nat} {a b x y p q : Int} (v : Vd k a b x y p q) (h : k ≤ l) : Vd l a b x y p q := ⟨v.a1, v.b1, v.x0, v.x1, v.y0, v.y1, v.w, sz_mono v.za h, sz_mono v.zb h, sz_mono v.zx h, sz_mono v.zy h, sz_mono v.zp h, sz_mono v.zq h⟩
theorem frac_ok {n m : Int} (h1 : 1 ≤ m) (h2 : Nat.gcd n.natAbs m.natAbs = 1) : isFrac (.tuple [.int n, .int m]) = true := by simp [isFrac, h1, h2]
def rP (s A V n m : Int) : Int := (A * m + V * n) / (s * m)
def rD (s A V n m : Int) : Int := s * m * (rP s A V n m + 1) - (A * m + V * n)
def rF (s A V n m : Int) : Int := if rP s A V n m % 2 = 0 then s * m - rD s A V n m else rD s A V n m
def rW (s A V n m : Int) : Int := if rP s A V n m % 2 = 0 then V else -V
section
variable {s A V n m n' m' w0 w1 : Int}
theorem rD_facts (hs : 1 ≤ s) (hm : 1 ≤ m) : 0 < rD s A V n m ∧ rD s A V n m ≤ s * m := by
  have M0 : 0 < s * m := Int.mul_pos (by omega) (by omega)
  have e := Int.emod_add_mul_ediv (A * m + V * n) (s * m)
  have h0 := Int.emod_nonneg (A * m + V * n) (show s * m ≠ 0 by omega)
  have h1 := Int.emod_lt_of_pos (A * m + V * n) M0
  unfold rD rP
  rw [Int.mul_add]
  omega
theorem rP_of {P : Int} (hs : 1 ≤ s) (hm : 1 ≤ m) (h0 : s * m * P ≤ A * m + V * n) (h1 : A * m + V * n < s * m * (P + 1)) : rP s A V n m = P := by
  have M0 : 0 < s * m := Int.mul_pos (by omega) (by omega)
  rw [Int.mul_add] at h1
  exact ((Int.ediv_emod_unique M0).mpr ⟨show (A * m + V * n - s * m * P) + s * m * P = A * m + V * n by omega, by omega, by omega⟩).1
theorem rF_fold (hs : 1 ≤ s) (hm : 1 ≤ m) : foldI s (A * m + V * n) m = rF s A V n m := by
  have M0 : 0 < s * m := Int.mul_pos (by omega) (by omega)
  obtain ⟨d0, d1⟩ := rD_facts (A := A) (V := V) (n := n) hs hm
  have e : A * m + V * n = s * m * (rP s A V n m + 1) - rD s A V n m := by unfold rD; omega
  have e2 : 2 * s * m = 2 * (s * m) := Int.mul_assoc _ _ _
  unfold foldI rF
  rw [e2]
  generalize A * m + V * n = T at e ⊢
  generalize rP s A V n m = P at e ⊢
  generalize rD s A V n m = D at e d0 d1 ⊢
  by_cases hp : P % 2 = 0
  · have q : T % (2 * (s * m)) = s * m - D := by
      refine ((Int.ediv_emod_unique (q := P / 2) (by omega)).mpr ⟨?_, by omega, by omega⟩).2
      have : P = 2 * (P / 2) := by omega
      rw [e]
      generalize P / 2 = c at *
      subst this
      grind
    rw [q, if_pos (by omega), if_pos hp]
  · have q : T % (2 * (s * m)) = 2 * (s * m) - D := by
      refine ((Int.ediv_emod_unique (q := P / 2) (by omega)).mpr ⟨?_, by omega, by omega⟩).2
      have : P = 2 * (P / 2) + 1 := by omega
      rw [e]
      generalize P / 2 = c at *
      subst this
      grind
    rw [q, if_neg hp]
    split <;> omega
/-- a line goes on by w0 / w1, not farther than to its next cushion -/
theorem adv (hs : 1 ≤ s) (hm : 1 ≤ m) (hm' : 1 ≤ m') (hw : 1 ≤ w1) (hV : 0 ≤ V) (hw0 : 0 ≤ w0) (ht : n' * (m * w1) = (n * w1 + w0 * m) * m') (hle : V * w0 * m ≤ rD s A V n m * w1) :
    (V * w0 * m < rD s A V n m * w1 → rP s A V n' m' = rP s A V n m ∧ m * w1 * rD s A V n' m' = m' * (rD s A V n m * w1 - V * w0 * m)) ∧
    (V * w0 * m = rD s A V n m * w1 → rP s A V n' m' = rP s A V n m + 1 ∧ rD s A V n' m' = s * m' ∧ A * m' + V * n' = s * m' * (rP s A V n m + 1)) := by
  have M0 : 0 < s * m := Int.mul_pos (by omega) (by omega)
  have M1 : 0 < s * m' := Int.mul_pos (by omega) (by omega)
  have W0 : 0 < m * w1 := Int.mul_pos (by omega) (by omega)
  obtain ⟨d0, d1⟩ := rD_facts (A := A) (V := V) (n := n) hs hm
  have e : A * m + V * n = s * m * (rP s A V n m + 1) - rD s A V n m := by unfold rD; omega
  have key : m * w1 * (s * m' * (rP s A V n m + 1) - (A * m' + V * n')) = m' * (rD s A V n m * w1 - V * w0 * m) := by
    generalize rP s A V n m = P at *
    generalize rD s A V n m = D at *
    grind
  have key2 : m * w1 * ((A * m' + V * n') - s * m' * rP s A V n m) = m' * ((s * m - rD s A V n m) * w1 + V * w0 * m) := by
    generalize rP s A V n m = P at *
    generalize rD s A V n m = D at *
    grind
  have v0 : 0 ≤ V * w0 * m := Int.mul_nonneg (Int.mul_nonneg hV hw0) (by omega)
  have v1 : 0 ≤ (s * m - rD s A V n m) * w1 := Int.mul_nonneg (by omega) (by omega)
  have low : 0 ≤ (A * m' + V * n') - s * m' * rP s A V n m := nonneg_of_mul W0 (by rw [key2]; exact Int.mul_nonneg (by omega) (by omega))
  constructor
  · intro hlt
    have up : 0 < s * m' * (rP s A V n m + 1) - (A * m' + V * n') := pos_of_mul W0 (by rw [key]; exact Int.mul_pos (by omega) (by omega))
    have p : rP s A V n' m' = rP s A V n m := rP_of hs hm' (by omega) (by omega)
    refine ⟨p, ?_⟩
    rw [← key]
    unfold rD
    rw [p]
    try (unfold rD at key; rfl)
  · intro heq
    have z : m * w1 * (s * m' * (rP s A V n m + 1) - (A * m' + V * n')) = 0 := by rw [key, heq]; simp
    have z2 : s * m' * (rP s A V n m + 1) - (A * m' + V * n') = 0 := by
      rcases Int.mul_eq_zero.mp z with h | h
      · omega
      · exact h
    have p : rP s A V n' m' = rP s A V n m + 1 := rP_of hs hm' (by omega) (by rw [Int.mul_add (s * m') _ 1]; omega)
    refine ⟨p, ?_, by omega⟩
    have : rD s A V n' m' = s * m' * (rP s A V n m + 1 + 1) - (A * m' + V * n') := by unfold rD; rw [p]
    rw [this, Int.mul_add (s * m') _ 1]
    omega
/-- .. its folded number, as the ball's number and way tell it -/
theorem adv_place {R b : Int} (hs : 1 ≤ s) (hm : 1 ≤ m) (hm' : 1 ≤ m') (hw : 1 ≤ w1) (hV : 0 ≤ V) (hw0 : 0 ≤ w0) (ht : n' * (m * w1) = (n * w1 + w0 * m) * m') (hle : V * w0 * m ≤ rD s A V n m * w1)
    (hR : R * m = rF s A V n m * b) : (R * w1 + rW s A V n m * w0 * b) * m' = rF s A V n' m' * (b * w1) := by
  obtain ⟨h1, h2⟩ := adv hs hm hm' hw hV hw0 ht hle
  refine Int.eq_of_mul_eq_mul_left (show m ≠ 0 by omega) ?_
  have c : V * w0 * m < rD s A V n m * w1 ∨ V * w0 * m = rD s A V n m * w1 := by omega
  rcases c with c | c
  · obtain ⟨p, d⟩ := h1 c
    unfold rF rW at *
    rw [p]
    generalize rP s A V n m = P at *
    generalize rD s A V n m = D at *
    generalize rD s A V n' m' = D' at *
    by_cases hp : P % 2 = 0
    · simp only [if_pos hp] at *
      grind
    · simp only [if_neg hp] at *
      grind
  · obtain ⟨p, d, -⟩ := h2 c
    unfold rF rW at *
    rw [p, d]
    generalize rP s A V n m = P at *
    generalize rD s A V n m = D at *
    by_cases hp : P % 2 = 0
    · rw [if_neg (show ¬ (P + 1) % 2 = 0 by omega)]
      simp only [if_pos hp] at *
      grind
    · rw [if_pos (show (P + 1) % 2 = 0 by omega)]
      simp only [if_neg hp] at *
      grind
end
/-- both lines of a shot: side, start, speed of each -/
structure Ls where
  s : Int
  A : Int
  V : Int
  z : Int
  B : Int
  U : Int
structure Ls.Ok (L : Ls) : Prop where
  s1 : 1 ≤ L.s
  z1 : 1 ≤ L.z
  v0 : 0 ≤ L.V
  u0 : 0 ≤ L.U
  w : L.V ≠ 0 ∨ L.U ≠ 0
  a0 : -L.s ≤ L.A
  a1 : L.A ≤ L.s
  b0 : -L.z ≤ L.B
  b1 : L.B ≤ L.z
namespace Ls
variable (L : Ls) (t : Int × Int)
def P : Int := rP L.s L.A L.V t.1 t.2
def P' : Int := rP L.z L.B L.U t.1 t.2
def D : Int := rD L.s L.A L.V t.1 t.2
def D' : Int := rD L.z L.B L.U t.1 t.2
def F : Int := rF L.s L.A L.V t.1 t.2
def F' : Int := rF L.z L.B L.U t.1 t.2
def W : Int := rW L.s L.A L.V t.1 t.2
def W' : Int := rW L.z L.B L.U t.1 t.2
def first : Bool := decide (L.V ≠ 0) && (decide (L.U = 0) || decide (L.D t * L.U ≤ L.D' t * L.V))
def next : Int × Int := if L.first t = true then lowP ((L.P t + 1) * L.s - L.A) L.V else lowP ((L.P' t + 1) * L.z - L.B) L.U
def «at» : Nat → Int × Int
  | 0 => (0, 1)
  | k + 1 => L.next («at» k)
end Ls
def letter (s A V n m : Int) (e w : Str) : Str := if V ≠ 0 ∧ (A * m + V * n) % (s * m) = 0 then (if rP s A V n m % 2 = 0 then w else e) else ""
namespace Ls
variable (L : Ls) (t : Int × Int)
def word : Str := letter L.s L.A L.V t.1 t.2 "E" "W" ++ letter L.z L.B L.U t.1 t.2 "N" "S"
def place : PyData := .tuple [fracD (L.F t) t.2, fracD (L.F' t) t.2]
def row : PyData := .tuple [.tuple [.int t.1, .int t.2], .str (L.word t), L.place t]
/-- how long it is from t to the next hit -/
def wait : PyData := if L.first t = true then fracD (L.D t) (t.2 * L.V) else fracD (L.D' t) (t.2 * L.U)
end Ls
/-- the reduced fraction of D / (m V): its two numbers -/
theorem red {D m V : Int} (hD : 0 < D) (hm : 1 ≤ m) (hV : 0 < V) : ∃ u d : Int, fracD D (m * V) = .tuple [.int u, .int d] ∧ 1 ≤ d ∧ 0 < u ∧ Nat.gcd u.natAbs d.natAbs = 1 ∧ u * (m * V) = D * d ∧ d ≤ m * V ∧ u ≤ D := by
  have M : 0 < m * V := Int.mul_pos (by omega) hV
  obtain ⟨e, p, c⟩ := low_facts (t := D) (m := m * V) (by omega)
  have g := gcd_pos (t := D) (b := m * V) (by omega)
  have e2 := Int.ediv_mul_cancel (gcd_dvd_r D (m * V))
  have e1 := Int.ediv_mul_cancel (gcd_dvd_l D (m * V))
  refine ⟨_, _, rfl, p, ?_, c, e, ?_, ?_⟩
  · refine pos_of_mul (c := m * V) M ?_
    rw [Int.mul_comm, e]
    exact Int.mul_pos hD (by omega)
  · have : (m * V) / (Nat.gcd D.natAbs (m * V).natAbs : Nat) * 1 ≤ (m * V) / (Nat.gcd D.natAbs (m * V).natAbs : Nat) * (Nat.gcd D.natAbs (m * V).natAbs : Nat) := Int.mul_le_mul_of_nonneg_left (by omega) (by omega)
    omega
  · have q : 0 ≤ D / (Nat.gcd D.natAbs (m * V).natAbs : Nat) := Int.ediv_nonneg (by omega) (by omega)
    have : D / (Nat.gcd D.natAbs (m * V).natAbs : Nat) * 1 ≤ D / (Nat.gcd D.natAbs (m * V).natAbs : Nat) * (Nat.gcd D.natAbs (m * V).natAbs : Nat) := Int.mul_le_mul_of_nonneg_left (by omega) q
    omega
/-- what holds at each hit -/
structure Ls.Good (L : Ls) (k : Int) (t : Int × Int) : Prop where
  m1 : 1 ≤ t.2
  g : Nat.gcd t.1.natAbs t.2.natAbs = 1
  n0 : 0 ≤ t.1
  p0 : -1 ≤ L.P t
  p1 : L.P t ≤ k + 1
  q0 : -1 ≤ L.P' t
  q1 : L.P' t ≤ k + 1
/-- one step of the rolling -/
theorem Ls.step (L : Ls) (ok : L.Ok) {k : Int} {t : Int × Int} (G : L.Good k t) : ∃ w0 w1 : Int, L.wait t = .tuple [.int w0, .int w1] ∧ 1 ≤ w1 ∧ 0 < w0 ∧ Nat.gcd w0.natAbs w1.natAbs = 1 ∧
    fracD (t.1 * w1 + w0 * t.2) (t.2 * w1) = .tuple [.int (L.next t).1, .int (L.next t).2] ∧ 1 ≤ (L.next t).2 ∧ Nat.gcd (L.next t).1.natAbs (L.next t).2.natAbs = 1 ∧ (L.next t).1 * (t.2 * w1) = (t.1 * w1 + w0 * t.2) * (L.next t).2 ∧
    L.V * w0 * t.2 ≤ L.D t * w1 ∧ L.U * w0 * t.2 ≤ L.D' t * w1 ∧ (L.first t = true → L.V * w0 * t.2 = L.D t * w1) ∧ (L.first t = false → L.U * w0 * t.2 = L.D' t * w1) := by
  obtain ⟨n, m⟩ := t
  obtain ⟨s1, z1, v0, u0, w, a0, a1, b0, b1⟩ := ok
  have m1 : 1 ≤ m := G.m1
  obtain ⟨d0, d1⟩ := rD_facts (A := L.A) (V := L.V) (n := n) s1 m1
  obtain ⟨e0, e1⟩ := rD_facts (A := L.B) (V := L.U) (n := n) z1 m1
  have dd : L.D (n, m) = L.s * m * (L.P (n, m) + 1) - (L.A * m + L.V * n) := rfl
  have ee : L.D' (n, m) = L.z * m * (L.P' (n, m) + 1) - (L.B * m + L.U * n) := rfl
  have d0 : 0 < L.D (n, m) := d0
  have e0 : 0 < L.D' (n, m) := e0
  have hn0 : 0 ≤ n := G.n0
  have main : ∀ (V D s A P : Int), 0 < V → 0 < D → D = s * m * (P + 1) - (A * m + V * n) → ∃ w0 w1 : Int, fracD D (m * V) = .tuple [.int w0, .int w1] ∧ 1 ≤ w1 ∧ 0 < w0 ∧ Nat.gcd w0.natAbs w1.natAbs = 1 ∧ V * w0 * m = D * w1 ∧ w0 * (m * V) = D * w1 ∧
      fracD (n * w1 + w0 * m) (m * w1) = .tuple [.int (lowP ((P + 1) * s - A) V).1, .int (lowP ((P + 1) * s - A) V).2] ∧ 1 ≤ (lowP ((P + 1) * s - A) V).2 ∧ Nat.gcd (lowP ((P + 1) * s - A) V).1.natAbs (lowP ((P + 1) * s - A) V).2.natAbs = 1 ∧ (lowP ((P + 1) * s - A) V).1 * (m * w1) = (n * w1 + w0 * m) * (lowP ((P + 1) * s - A) V).2 := by
    intro V D s A P hV hD hd
    obtain ⟨u, d, r1, r2, r3, r4, r5, -, -⟩ := red hD m1 hV
    have M : 0 < m * d := Int.mul_pos (by omega) (by omega)
    have hr : fracD (n * d + u * m) (m * d) = fracD ((P + 1) * s - A) V := fracD_ratio (by omega) (by omega) (by grind)
    obtain ⟨f1, f2, f3⟩ := low_facts (t := (P + 1) * s - A) (m := V) (by omega)
    obtain ⟨h1, -, -⟩ := low_facts (t := n * d + u * m) (m := m * d) (by omega)
    have hr' := hr
    unfold fracD at hr'
    simp only [PyData.tuple.injEq, List.cons.injEq, PyData.int.injEq, and_true] at hr'
    refine ⟨u, d, r1, r2, r3, r4, by rw [← r5]; simp only [Int.mul_assoc, Int.mul_comm, Int.mul_left_comm], r5, hr, f2, f3, ?_⟩
    unfold lowP
    rw [← hr'.1, ← hr'.2]
    exact h1
  cases hf : L.first (n, m) with
  | true =>
    have hV : 0 < L.V := by
      unfold first at hf
      simp only [Bool.and_eq_true, decide_eq_true_eq] at hf
      omega
    obtain ⟨w0, w1, r1, r2, r3, r4, r5, r6, r7, r8, r9, r10⟩ := main L.V (L.D (n, m)) L.s L.A (L.P (n, m)) hV d0 dd
    have en : L.next (n, m) = lowP ((L.P (n, m) + 1) * L.s - L.A) L.V := by unfold next; rw [if_pos hf]
    have ew : L.wait (n, m) = fracD (L.D (n, m)) (m * L.V) := by unfold wait; rw [if_pos hf]
    rw [en, ew]
    refine ⟨w0, w1, r1, r2, r3, r4, r7, r8, r9, r10, by show L.V * w0 * m ≤ _; omega, ?_, fun _ => r5, fun h => by cases h⟩
    show L.U * w0 * m ≤ _
    unfold first at hf
    simp only [Bool.and_eq_true, Bool.or_eq_true, decide_eq_true_eq] at hf
    rcases hf.2 with h | h
    · rw [h]
      have : 0 ≤ L.D' (n, m) * w1 := Int.mul_nonneg (by omega) (by omega)
      simpa using this
    · refine Int.le_of_mul_le_mul_left (a := L.V) ?_ hV
      have : L.V * (L.U * w0 * m) = L.D (n, m) * L.U * w1 := by
        generalize L.D (n, m) = D at *
        grind
      rw [this, ← Int.mul_assoc, Int.mul_comm L.V]
      exact Int.mul_le_mul_of_nonneg_right h (by omega)
  | false =>
    have hU : 0 < L.U := by
      unfold first at hf
      simp only [Bool.and_eq_false_iff, Bool.or_eq_false_iff, decide_eq_false_iff_not] at hf
      omega
    obtain ⟨w0, w1, r1, r2, r3, r4, r5, r6, r7, r8, r9, r10⟩ := main L.U (L.D' (n, m)) L.z L.B (L.P' (n, m)) hU e0 ee
    have en : L.next (n, m) = lowP ((L.P' (n, m) + 1) * L.z - L.B) L.U := by unfold next; rw [if_neg (by rw [hf]; decide)]
    have ew : L.wait (n, m) = fracD (L.D' (n, m)) (m * L.U) := by unfold wait; rw [if_neg (by rw [hf]; decide)]
    rw [en, ew]
    refine ⟨w0, w1, r1, r2, r3, r4, r7, r8, r9, r10, ?_, by show L.U * w0 * m ≤ _; omega, fun h => (by cases h), fun _ => r5⟩
    show L.V * w0 * m ≤ _
    unfold first at hf
    simp only [Bool.and_eq_false_iff, Bool.or_eq_false_iff, decide_eq_false_iff_not] at hf
    by_cases hz : L.V = 0
    · rw [hz]
      have : 0 ≤ L.D (n, m) * w1 := Int.mul_nonneg (by omega) (by omega)
      simpa using this
    · have h : L.D' (n, m) * L.V < L.D (n, m) * L.U := by
        rcases hf with h | ⟨_, h⟩
        · exact absurd hz h
        · omega
      refine Int.le_of_mul_le_mul_left (a := L.U) ?_ hU
      have : L.U * (L.V * w0 * m) = L.D' (n, m) * L.V * w1 := by
        generalize L.D' (n, m) = D at *
        grind
      rw [this, ← Int.mul_assoc, Int.mul_comm L.U]
      exact Int.mul_le_mul_of_nonneg_right (by omega) (by omega)
theorem line_hit {s A V n m n' m' w0 w1 : Int} (hs : 1 ≤ s) (hm : 1 ≤ m) (hm' : 1 ≤ m') (hw : 1 ≤ w1) (hV : 0 < V) (hw0 : 0 < w0) (ht : n' * (m * w1) = (n * w1 + w0 * m) * m') (hle : V * w0 * m ≤ rD s A V n m * w1) :
    (A * m' + V * n') % (s * m') = 0 ↔ V * w0 * m = rD s A V n m * w1 := by
  obtain ⟨h1, h2⟩ := adv hs hm hm' hw (by omega) (by omega) ht hle
  have M1 : 0 < s * m' := Int.mul_pos (by omega) (by omega)
  have W0 : 0 < m * w1 := Int.mul_pos (by omega) (by omega)
  obtain ⟨d0, d1⟩ := rD_facts (A := A) (V := V) (n := n) hs hm
  constructor
  · intro h
    by_cases c : V * w0 * m = rD s A V n m * w1
    · exact c
    · exfalso
      obtain ⟨p, d⟩ := h1 (by omega)
      obtain ⟨f0, f1⟩ := rD_facts (A := A) (V := V) (n := n') hs hm'
      have v0 : 0 < V * w0 * m := Int.mul_pos (Int.mul_pos hV hw0) (by omega)
      have v1 : 0 ≤ (s * m - rD s A V n m) * w1 := Int.mul_nonneg (by omega) (by omega)
      have e : m * w1 * (s * m' - rD s A V n' m') = m' * ((s * m - rD s A V n m) * w1 + V * w0 * m) := by
        generalize rD s A V n m = D at *
        generalize rD s A V n' m' = D' at *
        grind
      have lt : 0 < s * m' - rD s A V n' m' := pos_of_mul W0 (by rw [e]; exact Int.mul_pos (by omega) (by omega))
      have eT : A * m' + V * n' = (s * m' - rD s A V n' m') + s * m' * rP s A V n' m' := by
        have : rD s A V n' m' = s * m' * (rP s A V n' m' + 1) - (A * m' + V * n') := rfl
        rw [Int.mul_add] at this
        omega
      rw [eT, Int.add_mul_emod_self_left, Int.emod_eq_of_lt (by omega) (by omega)] at h
      omega
  · intro h
    obtain ⟨-, -, e⟩ := h2 h
    rw [e]
    exact Int.mul_emod_right _ _
theorem eq_wait {D m V w0 w1 : Int} (hm : 1 ≤ m) (hV : 0 < V) (hw : 1 ≤ w1) (g : Nat.gcd w0.natAbs w1.natAbs = 1) : fracD D (m * V) = .tuple [.int w0, .int w1] ↔ V * w0 * m = D * w1 := by
  have M : 0 < m * V := Int.mul_pos (by omega) hV
  have e : w0 * (m * V) = V * w0 * m := by simp only [Int.mul_assoc, Int.mul_comm, Int.mul_left_comm]
  constructor
  · intro h
    obtain ⟨h1, -, -⟩ := low_facts (t := D) (m := m * V) (by omega)
    unfold fracD at h
    simp only [PyData.tuple.injEq, List.cons.injEq, PyData.int.injEq, and_true] at h
    rw [h.1, h.2] at h1
    omega
  · intro h
    exact low_unique (by omega) hw g (by omega)
theorem letter_is {s A V n m n' m' w0 w1 : Int} {e w : Str} (hs : 1 ≤ s) (hm : 1 ≤ m) (hm' : 1 ≤ m') (hw : 1 ≤ w1) (hV : 0 ≤ V) (hw0 : 0 < w0) (ht : n' * (m * w1) = (n * w1 + w0 * m) * m') (hle : V * w0 * m ≤ rD s A V n m * w1) :
    letter s A V n' m' e w = if V ≠ 0 ∧ (A * m' + V * n') % (s * m') = 0 then (if rW s A V n m > 0 then e else w) else "" := by
  unfold letter
  by_cases h : V ≠ 0 ∧ (A * m' + V * n') % (s * m') = 0
  · rw [if_pos h, if_pos h]
    obtain ⟨h1, h2⟩ := h
    have hV' : 0 < V := by omega
    rw [line_hit hs hm hm' hw hV' hw0 ht hle] at h2
    obtain ⟨p, -, -⟩ := (adv hs hm hm' hw hV (by omega) ht hle).2 h2
    rw [p]
    unfold rW
    by_cases c : rP s A V n m % 2 = 0
    · rw [if_pos c, if_neg (by omega), if_pos hV']
    · rw [if_neg c, if_pos (by omega), if_neg (by omega)]
  · rw [if_neg h, if_neg h]
theorem way_is {s A V n m n' m' w0 w1 : Int} (hs : 1 ≤ s) (hm : 1 ≤ m) (hm' : 1 ≤ m') (hw : 1 ≤ w1) (hV : 0 ≤ V) (hw0 : 0 < w0) (ht : n' * (m * w1) = (n * w1 + w0 * m) * m') (hle : V * w0 * m ≤ rD s A V n m * w1) :
    rW s A V n' m' = if V ≠ 0 ∧ (A * m' + V * n') % (s * m') = 0 then -rW s A V n m else rW s A V n m := by
  by_cases hz : V = 0
  · rw [if_neg (by simp [hz])]
    unfold rW
    rw [hz]
    split <;> split <;> rfl
  · have hV' : 0 < V := by omega
    have k := line_hit hs hm hm' hw hV' hw0 ht hle
    obtain ⟨h1, h2⟩ := adv hs hm hm' hw hV (by omega) ht hle
    by_cases h : V * w0 * m = rD s A V n m * w1
    · rw [if_pos ⟨hz, k.mpr h⟩]
      obtain ⟨p, -, -⟩ := h2 h
      unfold rW
      rw [p]
      by_cases c : rP s A V n m % 2 = 0
      · rw [if_neg (by omega), if_pos c]
      · rw [if_pos (by omega), if_neg c, Int.neg_neg]
    · rw [if_neg (fun z => h (k.mp z.2))]
      obtain ⟨p, -⟩ := h1 (by omega)
      unfold rW
      rw [p]
theorem place_is {s A V n m n' m' w0 w1 R b : Int} (hs : 1 ≤ s) (hm : 1 ≤ m) (hm' : 1 ≤ m') (hw : 1 ≤ w1) (hV : 0 ≤ V) (hw0 : 0 < w0) (ht : n' * (m * w1) = (n * w1 + w0 * m) * m') (hle : V * w0 * m ≤ rD s A V n m * w1)
    (hR : fracD (rF s A V n m) m = .tuple [.int R, .int b]) : fracD (R * w1 + rW s A V n m * w0 * b) (b * w1) = fracD (rF s A V n' m') m' := by
  obtain ⟨h1, h2, -⟩ := low_facts (t := rF s A V n m) (m := m) hm
  unfold fracD at hR
  simp only [PyData.tuple.injEq, List.cons.injEq, PyData.int.injEq, and_true] at hR
  rw [hR.1, hR.2] at h1
  rw [hR.2] at h2
  have B : 0 < b * w1 := Int.mul_pos (by omega) (by omega)
  exact fracD_ratio (by omega) hm' (adv_place hs hm hm' hw hV (by omega) ht hle h1)
namespace Ls
variable (L : Ls) (t : Int × Int)
def hit : Bool := decide (L.V ≠ 0 ∧ (L.A * t.2 + L.V * t.1) % (L.s * t.2) = 0)
def hit' : Bool := decide (L.U ≠ 0 ∧ (L.B * t.2 + L.U * t.1) % (L.z * t.2) = 0)
def O : PyData := if L.V = 0 then .none else fracD (L.D t) (t.2 * L.V)
def O' : PyData := if L.U = 0 then .none else fracD (L.D' t) (t.2 * L.U)
end Ls
/-- everything that a turn of the rolling's loop finds -/
structure Ls.Turn (L : Ls) (k : Int) (t : Int × Int) (w0 w1 : Int) : Prop where
  wait : L.wait t = .tuple [.int w0, .int w1]
  q1 : 1 ≤ w1
  q0 : 0 < w0
  now : fracD (t.1 * w1 + w0 * t.2) (t.2 * w1) = .tuple [.int (L.next t).1, .int (L.next t).2]
  eq1 : opEq (L.O t) (.tuple [.int w0, .int w1]) = some (.bool (L.hit (L.next t)))
  eq2 : opEq (L.O' t) (.tuple [.int w0, .int w1]) = some (.bool (L.hit' (L.next t)))
  word1 : letter L.s L.A L.V (L.next t).1 (L.next t).2 "E" "W" = if L.hit (L.next t) = true then (if L.W t > 0 then ("E" : Str) else ("W" : Str)) else ("" : Str)
  word2 : letter L.z L.B L.U (L.next t).1 (L.next t).2 "N" "S" = if L.hit' (L.next t) = true then (if L.W' t > 0 then ("N" : Str) else ("S" : Str)) else ("" : Str)
  way1 : L.W (L.next t) = if L.hit (L.next t) = true then -L.W t else L.W t
  way2 : L.W' (L.next t) = if L.hit' (L.next t) = true then -L.W' t else L.W' t
  pl1 : ∀ R b, fracD (L.F t) t.2 = .tuple [.int R, .int b] → fracD (R * w1 + L.W t * w0 * b) (b * w1) = fracD (L.F (L.next t)) (L.next t).2
  pl2 : ∀ R b, fracD (L.F' t) t.2 = .tuple [.int R, .int b] → fracD (R * w1 + L.W' t * w0 * b) (b * w1) = fracD (L.F' (L.next t)) (L.next t).2
  good : L.Good (k + 1) (L.next t)
  z0 : w0 ≤ L.s * t.2 ∨ w0 ≤ L.z * t.2
  z1 : w1 ≤ t.2 * L.V ∨ w1 ≤ t.2 * L.U
theorem Ls.turn (L : Ls) (ok : L.Ok) {k : Int} {t : Int × Int} (G : L.Good k t) : ∃ w0 w1 : Int, L.Turn k t w0 w1 := by
  obtain ⟨w0, w1, h1, h2, h3, h4, h5, h6, h7, h8, h9, h10, h11, h12⟩ := L.step ok G
  have m1 := G.m1
  obtain ⟨d0, d1⟩ := rD_facts (A := L.A) (V := L.V) (n := t.1) ok.s1 m1
  obtain ⟨e0, e1⟩ := rD_facts (A := L.B) (V := L.U) (n := t.1) ok.z1 m1
  have w0' : 0 ≤ w0 := by omega
  have a1 := adv ok.s1 m1 h6 h2 ok.v0 w0' h8 h9
  have a2 := adv ok.z1 m1 h6 h2 ok.u0 w0' h8 h10
  have n0 : 0 ≤ (L.next t).1 := by
    have W : 0 < t.2 * w1 := Int.mul_pos (by omega) (by omega)
    refine nonneg_of_mul W ?_
    rw [Int.mul_comm, h8]
    have : 0 ≤ t.1 * w1 := Int.mul_nonneg G.n0 (by omega)
    have : 0 ≤ w0 * t.2 := Int.mul_nonneg (by omega) (by omega)
    exact Int.mul_nonneg (by omega) (by omega)
  have c1 : L.V * w0 * t.2 < L.D t * w1 ∨ L.V * w0 * t.2 = L.D t * w1 := by omega
  have c2 : L.U * w0 * t.2 < L.D' t * w1 ∨ L.U * w0 * t.2 = L.D' t * w1 := by omega
  have g1 : -1 ≤ L.P (L.next t) ∧ L.P (L.next t) ≤ k + 1 + 1 := by
    have i0 := G.p0
    have i1 := G.p1
    rcases c1 with c | c
    · have := (a1.1 c).1
      show -1 ≤ rP _ _ _ _ _ ∧ rP _ _ _ _ _ ≤ _
      rw [this]
      exact ⟨i0, by show L.P t ≤ _; omega⟩
    · have := (a1.2 c).1
      show -1 ≤ rP _ _ _ _ _ ∧ rP _ _ _ _ _ ≤ _
      rw [this]
      exact ⟨by show _ ≤ L.P t + 1; omega, by show L.P t + 1 ≤ _; omega⟩
  have g2 : -1 ≤ L.P' (L.next t) ∧ L.P' (L.next t) ≤ k + 1 + 1 := by
    have i0 := G.q0
    have i1 := G.q1
    rcases c2 with c | c
    · have := (a2.1 c).1
      show -1 ≤ rP _ _ _ _ _ ∧ rP _ _ _ _ _ ≤ _
      rw [this]
      exact ⟨i0, by show L.P' t ≤ _; omega⟩
    · have := (a2.2 c).1
      show -1 ≤ rP _ _ _ _ _ ∧ rP _ _ _ _ _ ≤ _
      rw [this]
      exact ⟨by show _ ≤ L.P' t + 1; omega, by show L.P' t + 1 ≤ _; omega⟩
  have q : ∀ (s A V D : Int) (h : Bool), 0 ≤ V → (V ≠ 0 → ((A * (L.next t).2 + V * (L.next t).1) % (s * (L.next t).2) = 0 ↔ V * w0 * t.2 = D * w1)) → h = decide (V ≠ 0 ∧ (A * (L.next t).2 + V * (L.next t).1) % (s * (L.next t).2) = 0) → opEq (if V = 0 then .none else fracD D (t.2 * V)) (.tuple [.int w0, .int w1]) = some (.bool h) := by
    intro s A V D h hV hk hh
    by_cases hz : V = 0
    · rw [if_pos hz, hh, decide_eq_false (by simp [hz])]
      exact opEq_nt
    · rw [if_neg hz]
      have k2 := eq_wait (D := D) m1 (show 0 < V by omega) h2 h4
      rw [← hk hz] at k2
      have k3 := k2
      unfold fracD at k3 ⊢
      simp only [PyData.tuple.injEq, List.cons.injEq, PyData.int.injEq, and_true] at k3
      rw [opEq_tt, hh]
      congr 2
      rw [Bool.eq_iff_iff]
      simp only [Bool.and_eq_true, decide_eq_true_eq]
      exact ⟨fun z => ⟨hz, k3.mp z⟩, fun z => k3.mpr z.2⟩
  refine ⟨w0, w1, ⟨h1, h2, h3, h5, ?_, ?_, ?_, ?_, ?_, ?_, fun R b hR => place_is ok.s1 m1 h6 h2 ok.v0 h3 h8 h9 hR, fun R b hR => place_is ok.z1 m1 h6 h2 ok.u0 h3 h8 h10 hR, ⟨h6, h7, n0, g1.1, g1.2, g2.1, g2.2⟩, ?_, ?_⟩⟩
  · exact q L.s L.A L.V (L.D t) _ ok.v0 (fun hz => line_hit ok.s1 m1 h6 h2 (by have := ok.v0; omega) h3 h8 h9) rfl
  · exact q L.z L.B L.U (L.D' t) _ ok.u0 (fun hz => line_hit ok.z1 m1 h6 h2 (by have := ok.u0; omega) h3 h8 h10) rfl
  · rw [letter_is ok.s1 m1 h6 h2 ok.v0 h3 h8 h9]
    unfold hit
    simp only [decide_eq_true_eq]
    rfl
  · rw [letter_is ok.z1 m1 h6 h2 ok.u0 h3 h8 h10]
    unfold hit'
    simp only [decide_eq_true_eq]
    rfl
  · have := way_is ok.s1 m1 h6 h2 ok.v0 h3 h8 h9
    unfold hit
    simp only [decide_eq_true_eq]
    exact this
  · have := way_is ok.z1 m1 h6 h2 ok.u0 h3 h8 h10
    unfold hit'
    simp only [decide_eq_true_eq]
    exact this
  · unfold wait at h1
    by_cases hf : L.first t = true
    · rw [if_pos hf] at h1
      have hV : 0 < L.V := by
        unfold first at hf
        simp only [Bool.and_eq_true, decide_eq_true_eq] at hf
        have := ok.v0; omega
      obtain ⟨u, d, r1, -, -, -, -, -, r7⟩ := red (D := L.D t) d0 m1 hV
      rw [r1] at h1
      cases h1
      exact .inl (Int.le_trans r7 d1)
    · rw [if_neg hf] at h1
      have hU : 0 < L.U := by
        unfold first at hf
        simp only [Bool.not_eq_true, Bool.and_eq_false_iff, Bool.or_eq_false_iff, decide_eq_false_iff_not] at hf
        have := ok.u0; have := ok.w; omega
      obtain ⟨u, d, r1, -, -, -, -, -, r7⟩ := red (D := L.D' t) e0 m1 hU
      rw [r1] at h1
      cases h1
      exact .inr (Int.le_trans r7 e1)
  · unfold wait at h1
    by_cases hf : L.first t = true
    · rw [if_pos hf] at h1
      have hV : 0 < L.V := by
        unfold first at hf
        simp only [Bool.and_eq_true, decide_eq_true_eq] at hf
        have := ok.v0; omega
      obtain ⟨u, d, r1, -, -, -, -, r6, -⟩ := red (D := L.D t) d0 m1 hV
      rw [r1] at h1
      cases h1
      exact .inl r6
    · rw [if_neg hf] at h1
      have hU : 0 < L.U := by
        unfold first at hf
        simp only [Bool.not_eq_true, Bool.and_eq_false_iff, Bool.or_eq_false_iff, decide_eq_false_iff_not] at hf
        have := ok.u0; have := ok.w; omega
      obtain ⟨u, d, r1, -, -, -, -, r6, -⟩ := red (D := L.D' t) e0 m1 hU
      rw [r1] at h1
      cases h1
      exact .inr r6
theorem Ls.next_le (L : Ls) (ok : L.Ok) {k : Int} {t : Int × Int} (G : L.Good k t) : ((L.next t).1 ≤ (k + 3) * L.s ∨ (L.next t).1 ≤ (k + 3) * L.z) ∧ ((L.next t).2 ≤ L.V ∨ (L.next t).2 ≤ L.U) := by
  have main : ∀ (s A V P : Int), 1 ≤ s → -s ≤ A → A ≤ s → 0 < V → P ≤ k + 1 → 0 ≤ (P + 1) * s - A → (lowP ((P + 1) * s - A) V).1 ≤ (k + 3) * s ∧ (lowP ((P + 1) * s - A) V).2 ≤ V := by
    intro s A V P hs h0 h1 hV hP hq
    unfold lowP
    have e1 := Int.ediv_le_self (a := (P + 1) * s - A) (Nat.gcd ((P + 1) * s - A).natAbs V.natAbs : Nat) hq
    have e2 := Int.ediv_le_self (a := V) (Nat.gcd ((P + 1) * s - A).natAbs V.natAbs : Nat) (by omega)
    have : (P + 1) * s ≤ (k + 2) * s := Int.mul_le_mul_of_nonneg_right (by omega) (by omega)
    have : (k + 3) * s = (k + 2) * s + s := by rw [show k + 3 = (k + 2) + 1 by omega, Int.add_mul, Int.one_mul]
    exact ⟨by show (_ : Int) ≤ _; omega, e2⟩
  have pos : ∀ (s A V P : Int), 0 ≤ V → 0 < s * t.2 * (P + 1) - (A * t.2 + V * t.1) → 0 ≤ (P + 1) * s - A := by
    intro s A V P hV h
    have n0 := G.n0
    have m1 := G.m1
    have : 0 ≤ V * t.1 := Int.mul_nonneg hV n0
    refine nonneg_of_mul (c := t.2) (by omega) ?_
    have e : t.2 * ((P + 1) * s - A) = s * t.2 * (P + 1) - A * t.2 := by grind
    omega
  obtain ⟨d0, -⟩ := rD_facts (A := L.A) (V := L.V) (n := t.1) ok.s1 G.m1
  obtain ⟨e0, -⟩ := rD_facts (A := L.B) (V := L.U) (n := t.1) ok.z1 G.m1
  have p1 := pos L.s L.A L.V (L.P t) ok.v0 d0
  have p2 := pos L.z L.B L.U (L.P' t) ok.u0 e0
  unfold next
  by_cases hf : L.first t = true
  · rw [if_pos hf]
    have hV : 0 < L.V := by
      unfold first at hf
      simp only [Bool.and_eq_true, decide_eq_true_eq] at hf
      have := ok.v0; omega
    have := main L.s L.A L.V (L.P t) ok.s1 ok.a0 ok.a1 hV G.p1 p1
    exact ⟨.inl this.1, .inl this.2⟩
  · rw [if_neg hf]
    have hU : 0 < L.U := by
      unfold first at hf
      simp only [Bool.not_eq_true, Bool.and_eq_false_iff, Bool.or_eq_false_iff, decide_eq_false_iff_not] at hf
      have := ok.u0; have := ok.w; omega
    have := main L.z L.B L.U (L.P' t) ok.z1 ok.b0 ok.b1 hU G.q1 p2
    exact ⟨.inr this.1, .inr this.2⟩
def Ls.of (a b x y p q : Int) : Ls := ⟨a, lineA p x, lineV p, b, lineA q y, lineV q⟩
theorem Ls.of_ok {a b x y p q : Int} (a1 : 1 ≤ a) (b1 : 1 ≤ b) (x0 : 0 ≤ x) (x1 : x ≤ a) (y0 : 0 ≤ y) (y1 : y ≤ b) (w : p ≠ 0 ∨ q ≠ 0) : (Ls.of a b x y p q).Ok := by
  refine ⟨a1, b1, ?_, ?_, ?_, ?_, ?_, ?_, ?_⟩ <;> (simp only [of, lineA, lineV]; (try split) <;> (try split) <;> omega)
theorem start {s x v : Int} (hs : 1 ≤ s) (x0 : 0 ≤ x) (x1 : x ≤ s) : rF s (lineA v x) (lineV v) 0 1 = x ∧ rW s (lineA v x) (lineV v) 0 1 = (if (v > 0 ∧ x = s) ∨ (v < 0 ∧ x = 0) then -v else v) ∧ -1 ≤ rP s (lineA v x) (lineV v) 0 1 ∧ rP s (lineA v x) (lineV v) 0 1 ≤ 1 := by
  have main : ∀ A V P : Int, s * P ≤ A → A < s * P + s → rP s A V 0 1 = P := fun A V P h0 h1 => rP_of hs (by decide) (by simpa using h0) (by simp only [Int.mul_one, Int.mul_zero, Int.add_zero, Int.mul_add]; omega)
  have e : ∀ A V : Int, rD s A V 0 1 = s * (rP s A V 0 1 + 1) - A := fun A V => by unfold rD; simp
  unfold rF rW
  rw [e]
  by_cases hv : v < 0
  · have eA : lineA v x = -x := by unfold lineA; rw [if_pos hv]
    have eV : lineV v = -v := by unfold lineV; rw [if_pos hv]
    rw [eA, eV]
    by_cases hx : x = 0
    · rw [main (-x) (-v) 0 (by omega) (by omega)]
      rw [if_pos (by decide), if_pos (by decide), if_pos (by omega)]
      refine ⟨?_, rfl, by omega, by omega⟩
      simp only [Int.mul_one, Int.zero_add]; omega
    · rw [main (-x) (-v) (-1) (by omega) (by omega)]
      rw [if_neg (by decide), if_neg (by decide), if_neg (by omega)]
      refine ⟨?_, by omega, by omega, by omega⟩
      simp only [Int.reduceNeg, Int.reduceAdd, Int.mul_zero]; omega
  · have eA : lineA v x = x := by unfold lineA; rw [if_neg hv]
    have eV : lineV v = v := by unfold lineV; rw [if_neg hv]
    rw [eA, eV]
    by_cases hx : x = s
    · rw [main x v 1 (by omega) (by omega)]
      rw [if_neg (by decide), if_neg (by decide)]
      refine ⟨by omega, ?_, by omega, by omega⟩
      split <;> omega
    · rw [main x v 0 (by omega) (by omega)]
      rw [if_pos (by decide), if_pos (by decide), if_neg (by omega)]
      refine ⟨?_, rfl, by omega, by omega⟩
      simp only [Int.mul_one, Int.zero_add]; omega
theorem Ls.at_good (L : Ls) (ok : L.Ok) (p : -1 ≤ L.P (0, 1) ∧ L.P (0, 1) ≤ 1) (q : -1 ≤ L.P' (0, 1) ∧ L.P' (0, 1) ≤ 1) : ∀ k : Nat, L.Good k (L.at k)
  | 0 => ⟨show (1 : Int) ≤ 1 by decide, show Nat.gcd (0 : Int).natAbs (1 : Int).natAbs = 1 by decide, show (0 : Int) ≤ 0 by decide, p.1, show L.P (0, 1) ≤ ((0 : Nat) : Int) + 1 by have := p.2; omega, q.1, show L.P' (0, 1) ≤ ((0 : Nat) : Int) + 1 by have := q.2; omega⟩
  | k + 1 => by
    obtain ⟨_, _, T⟩ := L.turn ok (L.at_good ok p q k)
    have := T.good
    exact this
theorem Ls.at_sz (L : Ls) (ok : L.Ok) (gd : ∀ k : Nat, L.Good k (L.at k)) (za : sz 200 L.s) (zb : sz 200 L.z) (zV : sz 200 L.V) (zU : sz 200 L.U) : ∀ j : Nat, j ≤ 4000 → sz 220 (L.at j).1 ∧ sz 200 (L.at j).2
  | 0, _ => ⟨show sz 220 0 by unfold sz; decide, show sz 200 1 by unfold sz; decide⟩
  | i + 1, hi => by
    have h := L.next_le ok (gd i)
    have n0 := (gd (i + 1)).n0
    have m1 := (gd (i + 1)).m1
    have e : L.at (i + 1) = L.next (L.at i) := rfl
    rw [e] at n0 m1 ⊢
    have big : ∀ s : Int, 1 ≤ s → sz 200 s → (L.next (L.at i)).1 ≤ ((i : Int) + 3) * s → sz 220 (L.next (L.at i)).1 := by
      intro s hs zs hle
      have z13 : sz 13 ((i : Int) + 3) := by unfold sz; omega
      have : sz 213 (((i : Int) + 3) * s) := sz_mul z13 zs
      exact sz_mono (sz_le this (by omega)) (by decide)
    refine ⟨?_, ?_⟩
    · rcases h.1 with h | h
      · exact big _ ok.s1 za h
      · exact big _ ok.z1 zb h
    · rcases h.2 with h | h
      · exact sz_le zV (by omega)
      · exact sz_le zU (by omega)
theorem sz_lineVr {v : Int} (h : sz 200 v) : sz 200 (lineV v) := by unfold lineV; split; exact sz_neg h; exact h
/-- hits of one shot, with all that bounds them -/
structure LRow (L : Ls) : Prop where
  ok : L.Ok
  gd : ∀ k : Nat, L.Good k (L.at k)
  sz : ∀ j : Nat, j ≤ 4000 → DL.sz 220 (L.at j).1 ∧ DL.sz 200 (L.at j).2
theorem LRow.word (R : LRow L) (k : Nat) : PyData.strOk (L.word (L.at (k + 1))) = true := by
  obtain ⟨w0, w1, T⟩ := L.turn R.ok (R.gd k)
  have e : L.at (k + 1) = L.next (L.at k) := rfl
  rw [e]
  unfold Ls.word
  rw [T.word1, T.word2]
  split <;> split <;> (try split) <;> (try split) <;> decide +kernel
theorem rP_mono {s A V n m n' m' : Int} (hs : 1 ≤ s) (hm : 1 ≤ m) (hm' : 1 ≤ m') (hV : 0 ≤ V) (h : n * m' ≤ n' * m) : rP s A V n m ≤ rP s A V n' m' := by
  have M0 : 0 < s * m := Int.mul_pos (by omega) (by omega)
  have M1 : 0 < s * m' := Int.mul_pos (by omega) (by omega)
  refine (Int.le_ediv_iff_mul_le M1).mpr ?_
  refine Int.le_of_mul_le_mul_left (a := m) ?_ (by omega)
  obtain ⟨d0, d1⟩ := rD_facts (A := A) (V := V) (n := n) hs hm
  have dd : rD s A V n m = s * m * (rP s A V n m + 1) - (A * m + V * n) := rfl
  have e1 : m * (rP s A V n m * (s * m')) = ((A * m + V * n) - (s * m - rD s A V n m)) * m' := by
    generalize rP s A V n m = P at *
    generalize rD s A V n m = D at *
    grind
  have e2 : m * (A * m' + V * n') = (A * m + V * n) * m' + V * (n' * m - n * m') := by grind
  have p1 : 0 ≤ (s * m - rD s A V n m) * m' := Int.mul_nonneg (by omega) (by omega)
  have p2 : 0 ≤ V * (n' * m - n * m') := Int.mul_nonneg hV (by omega)
  rw [e1, e2, Int.sub_mul]
  omega
theorem rP_between {s A V n m n' m' v0 v1 N M : Int} (hs : 1 ≤ s) (hm : 1 ≤ m) (hm' : 1 ≤ m') (hV : 0 ≤ V) (hv1 : 1 ≤ v1) (hM : 1 ≤ M) (h0 : n * m' ≤ n' * m) (h1 : n' * M < N * m') (ht : N * (m * v1) = (n * v1 + v0 * m) * M) (hle : V * v0 * m ≤ rD s A V n m * v1) : rP s A V n' m' = rP s A V n m := by
  obtain ⟨d0, -⟩ := rD_facts (A := A) (V := V) (n := n) hs hm
  have W1 : 0 < m * m' := Int.mul_pos (by omega) (by omega)
  have lt : (n' * m - n * m') * v1 < v0 * (m * m') := by
    have e : (v0 * (m * m') - (n' * m - n * m') * v1) * M = (N * m' - n' * M) * (m * v1) := by grind
    have P : 0 < (N * m' - n' * M) * (m * v1) := Int.mul_pos (by omega) (Int.mul_pos (by omega) (by omega))
    rw [← e, Int.mul_comm] at P
    have := pos_of_mul (show 0 < M by omega) P
    omega
  have st : V * (n' * m - n * m') * m < rD s A V n m * (m * m') := by
    by_cases hz : V = 0
    · have : 0 < rD s A V n m * (m * m') := Int.mul_pos d0 W1
      have e : V * (n' * m - n * m') * m = 0 := by rw [hz]; simp
      omega
    · have VM : 0 < V * m := Int.mul_pos (by omega) (by omega)
      refine Int.lt_of_mul_lt_mul_right (a := v1) ?_ (by omega)
      have a1 : V * (n' * m - n * m') * m * v1 = (V * m) * ((n' * m - n * m') * v1) := by simp only [Int.mul_assoc, Int.mul_comm, Int.mul_left_comm]
      have a2 : (V * m) * ((n' * m - n * m') * v1) < (V * m) * (v0 * (m * m')) := Int.mul_lt_mul_of_pos_left lt VM
      have a3 : (V * m) * (v0 * (m * m')) = (V * v0 * m) * (m * m') := by simp only [Int.mul_assoc, Int.mul_comm, Int.mul_left_comm]
      have a4 : (V * v0 * m) * (m * m') ≤ (rD s A V n m * v1) * (m * m') := Int.mul_le_mul_of_nonneg_right hle (by omega)
      have a5 : (rD s A V n m * v1) * (m * m') = rD s A V n m * (m * m') * v1 := by simp only [Int.mul_assoc, Int.mul_comm, Int.mul_left_comm]
      omega
  have a := adv (A := A) (n := n) (n' := n') (m' := m') (w0 := n' * m - n * m') (w1 := m * m') hs hm hm' (by omega) hV (by omega) (by grind) (by omega)
  exact (a.1 st).1
/-- a turn, told by P and by the times -/
theorem Ls.turn2 (L : Ls) (ok : L.Ok) {k : Int} {t : Int × Int} (G : L.Good k t) :
    L.P (L.next t) = L.P t + (if L.hit (L.next t) = true then 1 else 0) ∧ L.P' (L.next t) = L.P' t + (if L.hit' (L.next t) = true then 1 else 0) ∧ (L.hit (L.next t) = true ∨ L.hit' (L.next t) = true) ∧ t.1 * (L.next t).2 < (L.next t).1 * t.2 ∧
    (∀ n' m' : Int, 1 ≤ m' → t.1 * m' ≤ n' * t.2 → n' * (L.next t).2 < (L.next t).1 * m' → L.P (n', m') = L.P t ∧ L.P' (n', m') = L.P' t) := by
  obtain ⟨w0, w1, h1, h2, h3, h4, h5, h6, h7, h8, h9, h10, h11, h12⟩ := L.step ok G
  have m1 := G.m1
  have a1 := adv ok.s1 m1 h6 h2 ok.v0 (by omega) h8 h9
  have a2 := adv ok.z1 m1 h6 h2 ok.u0 (by omega) h8 h10
  obtain ⟨d0, d1⟩ := rD_facts (A := L.A) (V := L.V) (n := t.1) ok.s1 m1
  obtain ⟨e0, e1⟩ := rD_facts (A := L.B) (V := L.U) (n := t.1) ok.z1 m1
  have line : ∀ (s A V : Int), 1 ≤ s → 0 ≤ V → V * w0 * t.2 ≤ rD s A V t.1 t.2 * w1 → rP s A V (L.next t).1 (L.next t).2 = rP s A V t.1 t.2 + (if decide (V ≠ 0 ∧ (A * (L.next t).2 + V * (L.next t).1) % (s * (L.next t).2) = 0) = true then 1 else 0) ∧ (V ≠ 0 → V * w0 * t.2 = rD s A V t.1 t.2 * w1 → decide (V ≠ 0 ∧ (A * (L.next t).2 + V * (L.next t).1) % (s * (L.next t).2) = 0) = true) := by
    intro s A V hs hV hle
    have a := adv (A := A) hs m1 h6 h2 hV (by omega) h8 hle
    by_cases hz : V = 0
    · have D0 : 0 < rD s A V t.1 t.2 * w1 := Int.mul_pos (rD_facts (A := A) (V := V) (n := t.1) hs m1).1 (by omega)
      have Z : V * w0 * t.2 = 0 := by rw [hz]; simp
      rw [(a.1 (by omega)).1, decide_eq_false (by simp [hz]), if_neg (by decide)]
      exact ⟨by omega, fun z => absurd hz z⟩
    · have k := line_hit (A := A) hs m1 h6 h2 (show 0 < V by omega) h3 h8 hle
      by_cases c : V * w0 * t.2 = rD s A V t.1 t.2 * w1
      · have hd : decide (V ≠ 0 ∧ (A * (L.next t).2 + V * (L.next t).1) % (s * (L.next t).2) = 0) = true := decide_eq_true ⟨hz, k.mpr c⟩
        rw [hd, if_pos rfl]
        exact ⟨(a.2 c).1, fun _ _ => rfl⟩
      · have hd : decide (V ≠ 0 ∧ (A * (L.next t).2 + V * (L.next t).1) % (s * (L.next t).2) = 0) = false := decide_eq_false fun z => c (k.mp z.2)
        rw [hd, if_neg (by decide)]
        exact ⟨by rw [(a.1 (by omega)).1]; omega, fun _ z => absurd z c⟩
  obtain ⟨p1, p2⟩ := line L.s L.A L.V ok.s1 ok.v0 h9
  obtain ⟨q1, q2⟩ := line L.z L.B L.U ok.z1 ok.u0 h10
  refine ⟨p1, q1, ?_, ?_, fun n' m' hm' g1 g2 => ⟨rP_between ok.s1 m1 hm' ok.v0 h2 h6 g1 g2 h8 h9, rP_between ok.z1 m1 hm' ok.u0 h2 h6 g1 g2 h8 h10⟩⟩
  · cases hf : L.first t with
    | true =>
      left
      refine p2 ?_ (h11 hf)
      unfold first at hf
      simp only [Bool.and_eq_true, decide_eq_true_eq] at hf
      exact hf.1
    | false =>
      right
      refine q2 ?_ (h12 hf)
      unfold first at hf
      simp only [Bool.and_eq_false_iff, Bool.or_eq_false_iff, decide_eq_false_iff_not] at hf
      have := ok.w
      omega
  · have W : 0 < t.2 * w1 := Int.mul_pos (by omega) (by omega)
    have : 0 < t.2 * w1 * ((L.next t).1 * t.2 - t.1 * (L.next t).2) := by
      have e : t.2 * w1 * ((L.next t).1 * t.2 - t.1 * (L.next t).2) = w0 * t.2 * (t.2 * (L.next t).2) := by grind
      rw [e]
      exact Int.mul_pos (Int.mul_pos h3 (by omega)) (Int.mul_pos (by omega) (by omega))
    have := pos_of_mul W this
    omega
/-- t is not behind u -/
def le (t u : Int × Int) : Prop := t.1 * u.2 ≤ u.1 * t.2
theorem le_trans' {t u v : Int × Int} (h1 : 1 ≤ t.2) (h2 : 1 ≤ u.2) (h3 : 1 ≤ v.2) (a : le t u) (b : le u v) : le t v := by
  unfold le at *
  refine Int.le_of_mul_le_mul_left (a := u.2) ?_ (by omega)
  have e1 : u.2 * (t.1 * v.2) = (t.1 * u.2) * v.2 := by simp only [Int.mul_assoc, Int.mul_comm, Int.mul_left_comm]
  have e2 : (t.1 * u.2) * v.2 ≤ (u.1 * t.2) * v.2 := Int.mul_le_mul_of_nonneg_right a (by omega)
  have e3 : (u.1 * t.2) * v.2 = (u.1 * v.2) * t.2 := by simp only [Int.mul_assoc, Int.mul_comm, Int.mul_left_comm]
  have e4 : (u.1 * v.2) * t.2 ≤ (v.1 * u.2) * t.2 := Int.mul_le_mul_of_nonneg_right b (by omega)
  have e5 : (v.1 * u.2) * t.2 = u.2 * (v.1 * t.2) := by simp only [Int.mul_assoc, Int.mul_comm, Int.mul_left_comm]
  omega
theorem at_le {L : Ls} (R : LRow L) : ∀ j d : Nat, le (L.at j) (L.at (j + d))
  | j, 0 => Int.le_refl _
  | j, d + 1 => by
    have h := (L.turn2 R.ok (R.gd (j + d))).2.2.2.1
    refine le_trans' (R.gd j).m1 (R.gd (j + d)).m1 (R.gd (j + (d + 1))).m1 (at_le R j d) ?_
    show (L.at (j + d)).1 * (L.next (L.at (j + d))).2 ≤ (L.next (L.at (j + d))).1 * (L.at (j + d)).2
    omega
theorem at_count {L : Ls} (R : LRow L) : ∀ j : Nat, (j : Int) ≤ (L.P (L.at j) - L.P (0, 1)) + (L.P' (L.at j) - L.P' (0, 1))
  | 0 => by show (0 : Int) ≤ (L.P (0, 1) - L.P (0, 1)) + (L.P' (0, 1) - L.P' (0, 1)); omega
  | j + 1 => by
    have ih := at_count R j
    obtain ⟨h1, h2, h3, -, -⟩ := L.turn2 R.ok (R.gd j)
    show ((j + 1 : Nat) : Int) ≤ (L.P (L.next (L.at j)) - L.P (0, 1)) + (L.P' (L.next (L.at j)) - L.P' (0, 1))
    rw [h1, h2]
    rcases h3 with h | h <;> rw [if_pos h] <;> split <;> omega
/-- whether a hit's word has a letter -/
def hasL (L : Ls) (t : Int × Int) : Nat → Bool
  | 0 => L.hit t && decide (L.P t % 2 = 0)
  | 1 => L.hit t && !decide (L.P t % 2 = 0)
  | 2 => L.hit' t && decide (L.P' t % 2 = 0)
  | _ => L.hit' t && !decide (L.P' t % 2 = 0)
theorem word_has {L : Ls} (R : LRow L) (k : Nat) : opIn (.str "W") (.str (L.word (L.at (k + 1)))) = some (.bool (hasL L (L.at (k + 1)) 0)) ∧ opIn (.str "E") (.str (L.word (L.at (k + 1)))) = some (.bool (hasL L (L.at (k + 1)) 1)) ∧ opIn (.str "S") (.str (L.word (L.at (k + 1)))) = some (.bool (hasL L (L.at (k + 1)) 2)) ∧ opIn (.str "N") (.str (L.word (L.at (k + 1)))) = some (.bool (hasL L (L.at (k + 1)) 3)) := by
  have e : L.at (k + 1) = L.next (L.at k) := rfl
  obtain ⟨w0, w1, T⟩ := L.turn R.ok (R.gd k)
  obtain ⟨p1, p2, h3, -, -⟩ := L.turn2 R.ok (R.gd k)
  rw [e]
  have W1 := T.word1
  have W2 := T.word2
  unfold letter at W1 W2
  have k1 : L.hit (L.next (L.at k)) = true ↔ (L.V ≠ 0 ∧ (L.A * (L.next (L.at k)).2 + L.V * (L.next (L.at k)).1) % (L.s * (L.next (L.at k)).2) = 0) := by unfold Ls.hit; exact decide_eq_true_iff
  have k2 : L.hit' (L.next (L.at k)) = true ↔ (L.U ≠ 0 ∧ (L.B * (L.next (L.at k)).2 + L.U * (L.next (L.at k)).1) % (L.z * (L.next (L.at k)).2) = 0) := by unfold Ls.hit'; exact decide_eq_true_iff
  unfold Ls.word letter hasL
  have f1 : L.P (L.next (L.at k)) = rP L.s L.A L.V (L.next (L.at k)).1 (L.next (L.at k)).2 := rfl
  have f2 : L.P' (L.next (L.at k)) = rP L.z L.B L.U (L.next (L.at k)).1 (L.next (L.at k)).2 := rfl
  rw [f1, f2]
  simp only [← k1, ← k2]
  clear W1 W2 k1 k2 T p1 p2 f1 f2
  generalize L.hit (L.next (L.at k)) = a at *
  generalize L.hit' (L.next (L.at k)) = b at *
  by_cases c1 : rP L.s L.A L.V (L.next (L.at k)).1 (L.next (L.at k)).2 % 2 = 0
  · by_cases c2 : rP L.z L.B L.U (L.next (L.at k)).1 (L.next (L.at k)).2 % 2 = 0
    · simp only [if_pos c1, if_pos c2, decide_eq_true c1, decide_eq_true c2]
      cases a <;> cases b
      · simp at h3
      · exact ⟨rfl, rfl, rfl, rfl⟩
      · exact ⟨rfl, rfl, rfl, rfl⟩
      · exact ⟨rfl, rfl, rfl, rfl⟩
    · simp only [if_pos c1, if_neg c2, decide_eq_true c1, decide_eq_false c2]
      cases a <;> cases b
      · simp at h3
      · exact ⟨rfl, rfl, rfl, rfl⟩
      · exact ⟨rfl, rfl, rfl, rfl⟩
      · exact ⟨rfl, rfl, rfl, rfl⟩
  · by_cases c2 : rP L.z L.B L.U (L.next (L.at k)).1 (L.next (L.at k)).2 % 2 = 0
    · simp only [if_neg c1, if_pos c2, decide_eq_false c1, decide_eq_true c2]
      cases a <;> cases b
      · simp at h3
      · exact ⟨rfl, rfl, rfl, rfl⟩
      · exact ⟨rfl, rfl, rfl, rfl⟩
      · exact ⟨rfl, rfl, rfl, rfl⟩
    · simp only [if_neg c1, if_neg c2, decide_eq_false c1, decide_eq_false c2]
      cases a <;> cases b
      · simp at h3
      · exact ⟨rfl, rfl, rfl, rfl⟩
      · exact ⟨rfl, rfl, rfl, rfl⟩
      · exact ⟨rfl, rfl, rfl, rfl⟩
theorem fm_some {α β : Type} (f : α → β) : ∀ l : List α, l.filterMap (fun i => some (f i)) = l.map f
  | [] => rfl
  | i :: l => by rw [List.filterMap_cons, fm_some f l]; rfl
def Ls.N (L : Ls) (t : Int × Int) : Int := hitsN L.s L.A L.V L.z L.B L.U t.1 t.2
/-- whether the j-th mark of the first line is a corner -/
def Ls.corn (L : Ls) (j : Int) : Prop := (L.U * L.s * j + (L.B * L.V + L.U * (sideM L.s L.A - L.A))) % (L.z * L.V) = 0
theorem Ls.n1_is (L : Ls) (ok : L.Ok) {t : Int × Int} (m1 : 1 ≤ t.2) (n0 : 0 ≤ t.1) : nM L.s L.A L.V t.1 t.2 = L.P t - L.P (0, 1) ∧ nM L.z L.B L.U t.1 t.2 = L.P' t - L.P' (0, 1) := by
  rw [nM_flo ok.s1 m1 ok.v0 n0, nM_flo ok.z1 m1 ok.u0 n0]
  unfold P P' rP
  simp only [Int.mul_one, Int.mul_zero, Int.add_zero]
  exact ⟨trivial, trivial⟩
theorem Ls.N_is (L : Ls) (ok : L.Ok) {t : Int × Int} (m1 : 1 ≤ t.2) (n0 : 0 ≤ t.1) : L.N t = (L.P t - L.P (0, 1)) + (L.P' t - L.P' (0, 1)) - (if 0 < L.V ∧ 0 < L.U then (cornC (L.U * L.s) (L.B * L.V + L.U * (sideM L.s L.A - L.A)) (L.z * L.V) (L.P t - L.P (0, 1)).toNat : Int) else 0) := by
  obtain ⟨h1, h2⟩ := L.n1_is ok m1 n0
  unfold N hitsN
  rw [h1, h2]
theorem Ls.P0 (L : Ls) : L.P (0, 1) = L.A / L.s := by
  unfold P rP
  simp only [Int.mul_one, Int.mul_zero, Int.add_zero]
theorem Ls.sideM0 (L : Ls) (ok : L.Ok) : sideM L.s L.A = L.s * (L.P (0, 1) + 1) := by
  rw [sideM_is ok.s1, L.P0]
/-- at a hit of the first line: it is a corner if the mark is one -/
theorem Ls.corn_hit (L : Ls) (ok : L.Ok) {t : Int × Int} (m1 : 1 ≤ t.2) (h : L.hit t = true) (hU : 0 < L.U) : L.corn (L.P t - L.P (0, 1) - 1) ↔ L.hit' t = true := by
  unfold hit at h
  have h := of_decide_eq_true h
  obtain ⟨hV, h⟩ := h
  have V0 : 0 < L.V := by have := ok.v0; omega
  have z1 := ok.z1
  have s1 := ok.s1
  have SM : 0 < L.s * t.2 := Int.mul_pos (by omega) (by omega)
  have e := Int.mul_ediv_add_emod (L.A * t.2 + L.V * t.1) (L.s * t.2)
  have eP : L.P t = (L.A * t.2 + L.V * t.1) / (L.s * t.2) := rfl
  rw [h, ← eP] at e
  have e3 : L.V * (L.B * t.2 + L.U * t.1) = t.2 * (L.U * L.s * (L.P t - L.P (0, 1) - 1) + (L.B * L.V + L.U * (L.s * (L.P (0, 1) + 1) - L.A))) := by
    generalize L.P t = P at *
    generalize L.P (0, 1) = P0 at *
    grind
  unfold corn hit'
  rw [L.sideM0 ok]
  generalize L.U * L.s * (L.P t - L.P (0, 1) - 1) + (L.B * L.V + L.U * (L.s * (L.P (0, 1) + 1) - L.A)) = w at *
  rw [decide_eq_true_iff]
  constructor
  · intro k
    refine ⟨by omega, ?_⟩
    obtain ⟨u, hu⟩ := Int.dvd_of_emod_eq_zero k
    refine Int.emod_eq_zero_of_dvd ⟨u, ?_⟩
    refine Int.eq_of_mul_eq_mul_left (a := L.V) (by omega) ?_
    rw [e3, hu]
    simp only [Int.mul_assoc, Int.mul_comm, Int.mul_left_comm]
  · rintro ⟨-, k⟩
    obtain ⟨u, hu⟩ := Int.dvd_of_emod_eq_zero k
    refine Int.emod_eq_zero_of_dvd ⟨u, ?_⟩
    refine Int.eq_of_mul_eq_mul_left (a := t.2) (by omega) ?_
    rw [← e3, hu]
    simp only [Int.mul_assoc, Int.mul_comm, Int.mul_left_comm]
theorem Ls.N_next (L : Ls) (ok : L.Ok) {k : Int} {t : Int × Int} (G : L.Good k t) (hp : L.P (0, 1) ≤ L.P t) : L.N (L.next t) = L.N t + 1 := by
  obtain ⟨h1, h2, h3, h4, -⟩ := L.turn2 ok G
  obtain ⟨_, _, T⟩ := L.turn ok G
  have G2 := T.good
  rw [L.N_is ok G.m1 G.n0, L.N_is ok G2.m1 G2.n0]
  by_cases c : 0 < L.V ∧ 0 < L.U
  · rw [if_pos c, if_pos c]
    cases a : L.hit (L.next t) with
    | false =>
      rw [a] at h1 h3
      simp only [Bool.false_eq_true, if_false, false_or] at h1 h3
      rw [h3, if_pos rfl] at h2
      rw [h1, h2, Int.add_zero]
      omega
    | true =>
      have ch := L.corn_hit ok G2.m1 a c.2
      rw [a, if_pos rfl] at h1
      rw [h1, h2, show (L.P t + 1 - L.P (0, 1)).toNat = (L.P t - L.P (0, 1)).toNat + 1 by omega, cornC]
      rw [h1] at ch
      unfold corn at ch
      rw [show L.P t + 1 - L.P (0, 1) - 1 = ((L.P t - L.P (0, 1)).toNat : Int) by omega] at ch
      cases b : L.hit' (L.next t) with
      | false =>
        rw [b] at ch
        have nc : ¬ (L.U * L.s * ((L.P t - L.P (0, 1)).toNat : Int) + (L.B * L.V + L.U * (sideM L.s L.A - L.A))) % (L.z * L.V) = 0 := fun z => by have := ch.mp z; cases this
        rw [if_neg nc]
        simp only [Bool.false_eq_true, if_false]
        omega
      | true =>
        have nc : (L.U * L.s * ((L.P t - L.P (0, 1)).toNat : Int) + (L.B * L.V + L.U * (sideM L.s L.A - L.A))) % (L.z * L.V) = 0 := ch.mpr b
        rw [if_pos nc]
        simp only [if_true]
        omega
  · rw [if_neg c, if_neg c, h1, h2]
    have nb : ¬ (L.hit (L.next t) = true ∧ L.hit' (L.next t) = true) := by
      rintro ⟨a, b⟩
      unfold hit at a
      unfold hit' at b
      have a := (of_decide_eq_true a).1
      have b := (of_decide_eq_true b).1
      have := ok.v0; have := ok.u0
      omega
    cases a : L.hit (L.next t) <;> cases b : L.hit' (L.next t) <;> simp [a, b] at h3 nb ⊢ <;> omega
theorem LRow.P_ge {L : Ls} (R : LRow L) : ∀ k : Nat, L.P (0, 1) ≤ L.P (L.at k)
  | 0 => Int.le_refl _
  | k + 1 => by
    have := (L.turn2 R.ok (R.gd k)).1
    have ih := R.P_ge k
    show L.P (0, 1) ≤ L.P (L.next (L.at k))
    rw [this]
    split <;> omega
/-- the k-th hit's time has k hits up to it -/
theorem LRow.N_at {L : Ls} (R : LRow L) : ∀ k : Nat, L.N (L.at k) = k
  | 0 => by
    show L.N (0, 1) = 0
    exact hitsN_neg R.ok.s1 R.ok.z1 (by decide) R.ok.v0 R.ok.u0 (by decide)
  | k + 1 => by
    have := L.N_next R.ok (R.gd k) (R.P_ge k)
    have ih := R.N_at k
    show L.N (L.next (L.at k)) = _
    rw [this, ih]
    omega
/-- t is ahead of u -/
def lt (t u : Int × Int) : Prop := t.1 * u.2 < u.1 * t.2
theorem LRow.lt_next {L : Ls} (R : LRow L) (k : Nat) : lt (L.at k) (L.at (k + 1)) := (L.turn2 R.ok (R.gd k)).2.2.2.1
theorem LRow.within {L : Ls} (R : LRow L) {k : Nat} {t : Int × Int} (m1 : 1 ≤ t.2) (h1 : le (L.at k) t) (h2 : lt t (L.at (k + 1))) : L.P t = L.P (L.at k) ∧ L.P' t = L.P' (L.at k) := (L.turn2 R.ok (R.gd k)).2.2.2.2 t.1 t.2 m1 h1 h2
theorem le_nonneg {t u : Int × Int} (h1 : 1 ≤ t.2) (h2 : 1 ≤ u.2) (h0 : 0 ≤ t.1) (h : le t u) : 0 ≤ u.1 := by
  unfold le at h
  have : 0 ≤ t.1 * u.2 := Int.mul_nonneg h0 (by omega)
  refine nonneg_of_mul (c := t.2) (by omega) ?_
  rw [Int.mul_comm]
  omega
/-- a time between the k-th hit and the next one has k hits up to it -/
theorem LRow.N_within {L : Ls} (R : LRow L) {k : Nat} {t : Int × Int} (m1 : 1 ≤ t.2) (h1 : le (L.at k) t) (h2 : lt t (L.at (k + 1))) : L.N t = k := by
  obtain ⟨p, q⟩ := R.within m1 h1 h2
  have n0 := le_nonneg (R.gd k).m1 m1 (R.gd k).n0 h1
  rw [L.N_is R.ok m1 n0, p, q, ← L.N_is R.ok (R.gd k).m1 (R.gd k).n0]
  exact R.N_at k
theorem Ls.P_mono (L : Ls) (ok : L.Ok) {t u : Int × Int} (h1 : 1 ≤ t.2) (h2 : 1 ≤ u.2) (h : le t u) : L.P t ≤ L.P u ∧ L.P' t ≤ L.P' u := ⟨rP_mono ok.s1 h1 h2 ok.v0 h, rP_mono ok.z1 h1 h2 ok.u0 h⟩
/-- every time from 0 on lies between two hits -/
theorem LRow.find {L : Ls} (R : LRow L) {t : Int × Int} (m1 : 1 ≤ t.2) (n0 : 0 ≤ t.1) : ∃ k : Nat, le (L.at k) t ∧ lt t (L.at (k + 1)) := by
  have far : ∃ k : Nat, lt t (L.at k) := by
    refine Classical.byContradiction fun z => ?_
    have al : ∀ k : Nat, le (L.at k) t := fun k => by
      refine Classical.byContradiction fun w => z ⟨k, ?_⟩
      unfold le at w
      unfold lt
      omega
    have b := at_count R ((L.P t - L.P (0, 1)) + (L.P' t - L.P' (0, 1)) + 1).toNat
    have m := L.P_mono R.ok (R.gd _).m1 m1 (al ((L.P t - L.P (0, 1)) + (L.P' t - L.P' (0, 1)) + 1).toNat)
    omega
  have main : ∀ k : Nat, lt t (L.at k) → ∃ k : Nat, le (L.at k) t ∧ lt t (L.at (k + 1)) := by
    intro k
    induction k with
    | zero =>
      intro h
      have h : t.1 * 1 < 0 * t.2 := h
      omega
    | succ k ih =>
      intro h
      by_cases c : lt t (L.at k)
      · exact ih c
      · refine ⟨k, ?_, h⟩
        unfold lt at c
        unfold le
        omega
  obtain ⟨k, h⟩ := far
  exact main k h
theorem pair_eq {t u : Int × Int} (h1 : 1 ≤ t.2) (h2 : 1 ≤ u.2) (g1 : Nat.gcd t.1.natAbs t.2.natAbs = 1) (g2 : Nat.gcd u.1.natAbs u.2.natAbs = 1) (e : t.1 * u.2 = u.1 * t.2) : t = u := by
  have a := low_unique (X := t.1) (B := t.2) (r := u.1) (b := u.2) h1 h2 g2 (by omega)
  have b := low_unique (X := t.1) (B := t.2) (r := t.1) (b := t.2) h1 h1 g1 rfl
  rw [a] at b
  simp only [PyData.tuple.injEq, List.cons.injEq, PyData.int.injEq, and_true] at b
  exact Prod.ext b.1.symm b.2.symm
/-- a hit's time is one of the rolling's -/
theorem LRow.hit_at {L : Ls} (R : LRow L) {t : Int × Int} (m1 : 1 ≤ t.2) (n0 : 0 < t.1) (g : Nat.gcd t.1.natAbs t.2.natAbs = 1) (h : L.hit t = true ∨ L.hit' t = true) : ∃ k : Nat, L.at (k + 1) = t ∧ L.N t = k + 1 := by
  obtain ⟨k, h1, h2⟩ := R.find m1 (by omega)
  have e : L.at k = t := by
    refine pair_eq (R.gd k).m1 m1 (R.gd k).g g ?_
    refine Classical.byContradiction fun ne => ?_
    have lt1 : (L.at k).1 * t.2 < t.1 * (L.at k).2 := by unfold le at h1; omega
    obtain ⟨p, q⟩ := R.within m1 h1 h2
    have one : ∀ (s A V : Int), 1 ≤ s → 0 < V → (A * t.2 + V * t.1) % (s * t.2) = 0 → rP s A V t.1 t.2 = rP s A V (L.at k).1 (L.at k).2 → False := by
      intro s A V s1 V0 hh e
      have mk := (R.gd k).m1
      have SM : 0 < s * t.2 := Int.mul_pos (by omega) (by omega)
      have e1 := Int.mul_ediv_add_emod (A * t.2 + V * t.1) (s * t.2)
      have eP : rP s A V t.1 t.2 = (A * t.2 + V * t.1) / (s * t.2) := rfl
      rw [hh, ← eP] at e1
      obtain ⟨d0, d1⟩ := rD_facts (A := A) (V := V) (n := (L.at k).1) s1 mk
      have d : rD s A V (L.at k).1 (L.at k).2 = s * (L.at k).2 * (rP s A V (L.at k).1 (L.at k).2 + 1) - (A * (L.at k).2 + V * (L.at k).1) := rfl
      rw [← e] at d
      rw [d] at d1
      have : 0 < V * (t.1 * (L.at k).2 - (L.at k).1 * t.2) := Int.mul_pos V0 (by omega)
      have m := Int.mul_le_mul_of_nonneg_left d1 (show 0 ≤ t.2 by omega)
      generalize rP s A V t.1 t.2 = P at *
      have e2 : t.2 * (s * (L.at k).2 * (P + 1) - (A * (L.at k).2 + V * (L.at k).1)) = t.2 * (s * (L.at k).2) + V * (t.1 * (L.at k).2 - (L.at k).1 * t.2) := by
        grind
      omega
    rcases h with h | h
    · unfold Ls.hit at h
      have h := of_decide_eq_true h
      exact one L.s L.A L.V R.ok.s1 (by have := R.ok.v0; omega) h.2 p
    · unfold Ls.hit' at h
      have h := of_decide_eq_true h
      exact one L.z L.B L.U R.ok.z1 (by have := R.ok.u0; omega) h.2 q
  cases k with
  | zero =>
    rw [← e] at n0
    have n0 : (0 : Int) < 0 := n0
    omega
  | succ k =>
    refine ⟨k, e, ?_⟩
    rw [← e, R.N_at]
    omega
theorem mkT_le {s A V j n m : Int} (hs : 1 ≤ s) (hV : 0 < V) (hm : 1 ≤ m) : (mkT s A V j).1 * m ≤ n * (mkT s A V j).2 ↔ A / s + 1 + j ≤ rP s A V n m := by
  obtain ⟨e, p, -⟩ := lowP_facts (t := sideM s A + s * j - A) (b := V) hV
  have SM : 0 < s * m := Int.mul_pos (by omega) (by omega)
  have h1 : (mkT s A V j).1 * m ≤ n * (mkT s A V j).2 ↔ (sideM s A + s * j - A) * m ≤ V * n := by
    unfold mkT
    generalize lowP (sideM s A + s * j - A) V = T at *
    have e1 : (T.1 * m) * V = ((sideM s A + s * j - A) * m) * T.2 := by grind
    have e2 : (n * T.2) * V = (V * n) * T.2 := by grind
    constructor
    · intro h
      refine Int.le_of_mul_le_mul_right (a := T.2) ?_ (by omega)
      rw [← e1, ← e2]
      exact Int.mul_le_mul_of_nonneg_right h (by omega)
    · intro h
      refine Int.le_of_mul_le_mul_right (a := V) ?_ hV
      rw [e1, e2]
      exact Int.mul_le_mul_of_nonneg_right h (by omega)
  rw [h1]
  unfold rP
  rw [Int.le_ediv_iff_mul_le SM, sideM_is hs]
  have e3 : (s * (A / s + 1) + s * j - A) * m = (A / s + 1 + j) * (s * m) - A * m := by
    generalize A / s = P
    grind
  rw [e3]
  omega
theorem mkT_lt {s A V j n m : Int} (hs : 1 ≤ s) (hV : 0 < V) (hm : 1 ≤ m) : (mkT s A V j).1 * m < n * (mkT s A V j).2 ↔ j < rP s A V n m - A / s - (if (A * m + V * n) % (s * m) = 0 then 1 else 0) := by
  have SM : 0 < s * m := Int.mul_pos (by omega) (by omega)
  obtain ⟨e, p, -⟩ := lowP_facts (t := sideM s A + s * j - A) (b := V) hV
  have le := mkT_le (A := A) (j := j) (n := n) hs hV hm
  have eq : (mkT s A V j).1 * m = n * (mkT s A V j).2 ↔ (A * m + V * n) = s * m * (A / s + 1 + j) := by
    rw [sideM_is hs] at e
    have d : mkT s A V j = lowP (s * (A / s + 1) + s * j - A) V := by unfold mkT; rw [sideM_is hs]
    rw [d]
    rw [sideM_is hs] at p
    generalize lowP (s * (A / s + 1) + s * j - A) V = T at *
    generalize A / s = P at *
    constructor
    · intro h
      refine Int.eq_of_mul_eq_mul_right (a := T.2) (by omega) ?_
      have e1 : V * n * T.2 = V * (T.1 * m) := by rw [h]; simp only [Int.mul_assoc]
      grind
    · intro h
      refine Int.eq_of_mul_eq_mul_left (a := V) (by omega) ?_
      grind
  have dm := Int.mul_ediv_add_emod (A * m + V * n) (s * m)
  have q0 := Int.emod_nonneg (A * m + V * n) (show s * m ≠ 0 by omega)
  have eP : rP s A V n m = (A * m + V * n) / (s * m) := rfl
  rw [← eP] at dm
  constructor
  · intro h
    have h1 := le.mp (by omega)
    have h2 : ¬ A * m + V * n = s * m * (A / s + 1 + j) := fun z => by have := eq.mpr z; omega
    split
    · rename_i c
      rw [c] at dm
      have : ¬ A / s + 1 + j = rP s A V n m := fun z => h2 (by rw [z]; omega)
      omega
    · omega
  · intro h
    have h1 := le.mpr (by split at h <;> omega)
    have h2 : ¬ (mkT s A V j).1 * m = n * (mkT s A V j).2 := fun z => by
      have z := eq.mp z
      have : (A * m + V * n) % (s * m) = 0 := by rw [z]; exact Int.mul_emod_right _ _
      rw [if_pos this] at h
      have : s * m * rP s A V n m = s * m * (A / s + 1 + j) := by omega
      have := Int.eq_of_mul_eq_mul_left (by omega) this
      omega
    omega
theorem mkT_facts {s A V j : Int} (hs : 1 ≤ s) (hV : 0 < V) (j0 : 0 ≤ j) : 1 ≤ (mkT s A V j).2 ∧ 0 < (mkT s A V j).1 ∧ Nat.gcd (mkT s A V j).1.natAbs (mkT s A V j).2.natAbs = 1 := by
  obtain ⟨e, p, g⟩ := lowP_facts (t := sideM s A + s * j - A) (b := V) hV
  refine ⟨p, ?_, g⟩
  have sj := Int.mul_nonneg (show 0 ≤ s by omega) j0
  have pos : 0 < sideM s A + s * j - A := by
    have := Int.emod_nonneg (0 - (A + 1)) (show s ≠ 0 by omega)
    unfold sideM
    omega
  refine pos_of_mul (c := V) hV ?_
  rw [Int.mul_comm]
  show 0 < (lowP _ _).1 * V
  rw [e]
  exact Int.mul_pos pos (by omega)
/-- at a hit of a line its mark's time is this time -/
theorem mkT_hit {s A V j n m : Int} (hs : 1 ≤ s) (hV : 0 < V) (hm : 1 ≤ m) (j0 : 0 ≤ j) (g : Nat.gcd n.natAbs m.natAbs = 1) (h : (A * m + V * n) % (s * m) = 0) (hj : j = rP s A V n m - A / s - 1) : mkT s A V j = (n, m) := by
  obtain ⟨p, -, g2⟩ := mkT_facts (A := A) hs hV j0
  refine pair_eq p hm g2 g ?_
  have h1 := (mkT_le (A := A) (j := j) (n := n) hs hV hm).mpr (by omega)
  have h2 : ¬ _ := fun z => absurd ((mkT_lt (A := A) (j := j) (n := n) hs hV hm).mp z) (by rw [if_pos h]; omega)
  show (mkT s A V j).1 * m = n * (mkT s A V j).2
  omega
theorem LRow.N_lt {L : Ls} (R : LRow L) {t : Int × Int} (m1 : 1 ≤ t.2) (n0 : 0 ≤ t.1) (n : Nat) : L.N t < n ↔ lt t (L.at n) := by
  obtain ⟨k, h1, h2⟩ := R.find m1 n0
  rw [R.N_within m1 h1 h2]
  constructor
  · intro h
    have h : k + 1 ≤ n := by omega
    have le1 := at_le R (k + 1) (n - (k + 1))
    rw [show k + 1 + (n - (k + 1)) = n by omega] at le1
    unfold lt at *
    unfold le at le1
    have a := (R.gd (k + 1)).m1
    have b := (R.gd n).m1
    refine Classical.byContradiction fun z => ?_
    have := frac_trans (a := L.at (k + 1)) (b := L.at n) (c := t) a b m1 le1 (by omega)
    omega
  · intro h
    refine Classical.byContradiction fun z => ?_
    have le1 := at_le R n (k - n)
    rw [show n + (k - n) = k by omega] at le1
    have := le_trans' (R.gd n).m1 (R.gd k).m1 m1 le1 h1
    unfold lt at h
    unfold le at this
    omega
/-- how many marks of each line lie ahead of the n-th hit -/
theorem LRow.ahead {L : Ls} (R : LRow L) (k : Nat) : (0 ≤ L.P (L.at k) - L.P (0, 1) ∧ L.P (L.at k) - L.P (0, 1) ≤ k) ∧ (0 ≤ L.P' (L.at k) - L.P' (0, 1) ∧ L.P' (L.at k) - L.P' (0, 1) ≤ k) := by
  induction k with
  | zero =>
    have e : L.at 0 = (0, 1) := rfl
    rw [e]
    omega
  | succ k ih =>
    obtain ⟨p, q, -⟩ := L.turn2 R.ok (R.gd k)
    have e : L.at (k + 1) = L.next (L.at k) := rfl
    rw [e, p, q]
    split <;> split <;> omega
/-- the times that _time_of_count finds for both lines -/
def Ls.t1 (L : Ls) (k : Nat) : Option (Int × Int) := if L.V = 0 then none else some (mkT L.s L.A L.V (L.P (L.at k) - L.P (0, 1)))
def Ls.t2 (L : Ls) (k : Nat) : Option (Int × Int) := if L.U = 0 then none else some (mkT L.z L.B L.U (L.P' (L.at k) - L.P' (0, 1)))
theorem line_thr {L : Ls} (R : LRow L) {s A V : Int} (hs : 1 ≤ s) (hV : 0 < V) {k : Nat} {j : Int} (j0 : 0 ≤ j) (hj : j = rP s A V (L.at (k + 1)).1 (L.at (k + 1)).2 - A / s - (if (A * (L.at (k + 1)).2 + V * (L.at (k + 1)).1) % (s * (L.at (k + 1)).2) = 0 then 1 else 0)) :
    (∀ i : Int, 0 ≤ i → (L.N (mkT s A V i) < ((k + 1 : Nat) : Int) ↔ i < j)) ∧ le (L.at (k + 1)) (mkT s A V j) ∧ ((A * (L.at (k + 1)).2 + V * (L.at (k + 1)).1) % (s * (L.at (k + 1)).2) = 0 → mkT s A V j = L.at (k + 1)) := by
  have G := R.gd (k + 1)
  refine ⟨fun i i0 => ?_, ?_, fun h => ?_⟩
  · obtain ⟨p, q, -⟩ := mkT_facts (A := A) hs hV i0
    rw [R.N_lt p (by omega), hj]
    exact mkT_lt hs hV G.m1
  · have : ¬ (mkT s A V j).1 * (L.at (k + 1)).2 < (L.at (k + 1)).1 * (mkT s A V j).2 := fun z => absurd ((mkT_lt hs hV G.m1).mp z) (by rw [← hj]; omega)
    unfold le
    omega
  · rw [if_pos h] at hj
    exact mkT_hit hs hV G.m1 j0 G.g h hj
theorem LRow.ahead_is {L : Ls} (R : LRow L) (k : Nat) : (L.V ≠ 0 → L.P (L.at k) - L.P (0, 1) = rP L.s L.A L.V (L.at (k + 1)).1 (L.at (k + 1)).2 - L.A / L.s - (if (L.A * (L.at (k + 1)).2 + L.V * (L.at (k + 1)).1) % (L.s * (L.at (k + 1)).2) = 0 then 1 else 0)) ∧
    (L.U ≠ 0 → L.P' (L.at k) - L.P' (0, 1) = rP L.z L.B L.U (L.at (k + 1)).1 (L.at (k + 1)).2 - L.B / L.z - (if (L.B * (L.at (k + 1)).2 + L.U * (L.at (k + 1)).1) % (L.z * (L.at (k + 1)).2) = 0 then 1 else 0)) := by
  obtain ⟨p, q, -⟩ := L.turn2 R.ok (R.gd k)
  have p0 := L.P0
  have q0 : L.P' (0, 1) = L.B / L.z := by
    unfold Ls.P' rP
    simp only [Int.mul_one, Int.mul_zero, Int.add_zero]
  have e : L.at (k + 1) = L.next (L.at k) := rfl
  rw [e, ← p0, ← q0]
  constructor
  · intro hV
    have d : (L.hit (L.next (L.at k)) = true) ↔ (L.A * (L.next (L.at k)).2 + L.V * (L.next (L.at k)).1) % (L.s * (L.next (L.at k)).2) = 0 := by
      unfold Ls.hit
      rw [decide_eq_true_iff]
      exact ⟨fun z => z.2, fun z => ⟨hV, z⟩⟩
    have f : L.P (L.next (L.at k)) = rP L.s L.A L.V (L.next (L.at k)).1 (L.next (L.at k)).2 := rfl
    rw [← f, p]
    by_cases c : L.hit (L.next (L.at k)) = true
    · rw [if_pos c, if_pos (d.mp c)]; omega
    · rw [if_neg c, if_neg (fun z => c (d.mpr z))]; omega
  · intro hU
    have d : (L.hit' (L.next (L.at k)) = true) ↔ (L.B * (L.next (L.at k)).2 + L.U * (L.next (L.at k)).1) % (L.z * (L.next (L.at k)).2) = 0 := by
      unfold Ls.hit'
      rw [decide_eq_true_iff]
      exact ⟨fun z => z.2, fun z => ⟨hU, z⟩⟩
    have f : L.P' (L.next (L.at k)) = rP L.z L.B L.U (L.next (L.at k)).1 (L.next (L.at k)).2 := rfl
    rw [← f, q]
    by_cases c : L.hit' (L.next (L.at k)) = true
    · rw [if_pos c, if_pos (d.mp c)]; omega
    · rw [if_neg c, if_neg (fun z => c (d.mpr z))]; omega
theorem LRow.earl_at {L : Ls} (R : LRow L) (k : Nat) : earl [L.t1 k, L.t2 k] = some (L.at (k + 1)) := by
  have ok := R.ok
  have G := R.gd (k + 1)
  obtain ⟨⟨a0, a1⟩, ⟨b0, b1⟩⟩ := R.ahead k
  obtain ⟨i1, i2⟩ := R.ahead_is k
  have T1 : ∀ t, L.t1 k = some t → 1 ≤ t.2 ∧ Nat.gcd t.1.natAbs t.2.natAbs = 1 ∧ le (L.at (k + 1)) t := by
    intro t h
    unfold Ls.t1 at h
    split at h
    · cases h
    · rename_i hV
      cases h
      have V0 : 0 < L.V := by have := ok.v0; omega
      obtain ⟨p, -, g⟩ := mkT_facts (A := L.A) ok.s1 V0 a0
      exact ⟨p, g, (line_thr R ok.s1 V0 a0 (i1 hV)).2.1⟩
  have T2 : ∀ t, L.t2 k = some t → 1 ≤ t.2 ∧ Nat.gcd t.1.natAbs t.2.natAbs = 1 ∧ le (L.at (k + 1)) t := by
    intro t h
    unfold Ls.t2 at h
    split at h
    · cases h
    · rename_i hU
      cases h
      have U0 : 0 < L.U := by have := ok.u0; omega
      obtain ⟨p, -, g⟩ := mkT_facts (A := L.B) ok.z1 U0 b0
      exact ⟨p, g, (line_thr R ok.z1 U0 b0 (i2 hU)).2.1⟩
  have T : ∀ t, some t ∈ [L.t1 k, L.t2 k] → 1 ≤ t.2 ∧ Nat.gcd t.1.natAbs t.2.natAbs = 1 ∧ le (L.at (k + 1)) t := by
    intro t h
    simp only [List.mem_cons, List.not_mem_nil, or_false] at h
    rcases h with h | h
    · exact T1 t h.symm
    · exact T2 t h.symm
  have mem : some (L.at (k + 1)) ∈ [L.t1 k, L.t2 k] := by
    have h3 := (L.turn2 ok (R.gd k)).2.2.1
    have e : L.at (k + 1) = L.next (L.at k) := rfl
    rw [← e] at h3
    simp only [List.mem_cons, List.not_mem_nil, or_false]
    rcases h3 with h | h
    · left
      unfold Ls.hit at h
      have h := of_decide_eq_true h
      have V0 : 0 < L.V := by have := ok.v0; omega
      unfold Ls.t1
      rw [if_neg h.1, (line_thr R ok.s1 V0 a0 (i1 h.1)).2.2 h.2]
    · right
      unfold Ls.hit' at h
      have h := of_decide_eq_true h
      have U0 : 0 < L.U := by have := ok.u0; omega
      unfold Ls.t2
      rw [if_neg h.1, (line_thr R ok.z1 U0 b0 (i2 h.1)).2.2 h.2]
  obtain ⟨r, hr, le1⟩ := earl_le (fun t h => (T t h).1) mem
  obtain ⟨rp, rg, le2⟩ := T r (earl_mem hr)
  rw [hr]
  congr 1
  refine pair_eq rp G.m1 rg G.g ?_
  unfold le at le2
  omega
theorem LRow.at_szG {L : Ls} (R : LRow L) (za : DL.sz 600 L.s) (zb : DL.sz 600 L.z) (zV : DL.sz 600 L.V) (zU : DL.sz 600 L.U) {k : Nat} (hk : DL.sz 300 (k : Int)) : DL.sz 910 (L.at (k + 1)).1 ∧ DL.sz 600 (L.at (k + 1)).2 := by
  have h := L.next_le R.ok (R.gd k)
  have G := R.gd (k + 1)
  have e : L.at (k + 1) = L.next (L.at k) := rfl
  rw [e] at G ⊢
  have zk : DL.sz 301 ((k : Int) + 3) := sz_add hk (sz_mono (k := 2) (by unfold DL.sz; decide) (by decide))
  have n0 := G.n0
  have m1 := G.m1
  refine ⟨?_, ?_⟩
  · rcases h.1 with h | h
    · exact sz_mono (sz_le (sz_mul zk za) (by omega)) (by decide)
    · exact sz_mono (sz_le (sz_mul zk zb) (by omega)) (by decide)
  · rcases h.2 with h | h
    · exact sz_le zV (by omega)
    · exact sz_le zU (by omega)
theorem of_row {a b x y p q : Int} (a1 : 1 ≤ a) (b1 : 1 ≤ b) (x0 : 0 ≤ x) (x1 : x ≤ a) (y0 : 0 ≤ y) (y1 : y ≤ b) (w : p ≠ 0 ∨ q ≠ 0) (za : sz 200 a) (zb : sz 200 b) (zp : sz 200 p) (zq : sz 200 q) : LRow (Ls.of a b x y p q) := by
  have ok := Ls.of_ok a1 b1 x0 x1 y0 y1 w
  obtain ⟨-, -, h1, h2⟩ := start (v := p) a1 x0 x1
  obtain ⟨-, -, h3, h4⟩ := start (v := q) b1 y0 y1
  have gd := (Ls.of a b x y p q).at_good ok ⟨h1, h2⟩ ⟨h3, h4⟩
  exact ⟨ok, gd, (Ls.of a b x y p q).at_sz ok gd za zb (sz_lineVr zp) (sz_lineVr zq)⟩
theorem gcd_lin {T R B k : Int} (e : R = T + B * k ∨ R = -T + B * k) : Nat.gcd R.natAbs B.natAbs = Nat.gcd T.natAbs B.natAbs := by
  refine Nat.dvd_antisymm (Nat.dvd_gcd ?_ (Nat.gcd_dvd_right _ _)) (Nat.dvd_gcd ?_ (Nat.gcd_dvd_right _ _))
  · have h1 := gcd_dvd_l R B
    have h2 := gcd_dvd_r R B
    refine Int.ofNat_dvd_left.mp ?_
    rcases e with e | e
    · rw [show T = R - B * k by omega]
      exact Int.dvd_sub h1 (Int.dvd_mul_of_dvd_left h2)
    · rw [show T = B * k - R by omega]
      exact Int.dvd_sub (Int.dvd_mul_of_dvd_left h2) h1
  · have h1 := gcd_dvd_l T B
    have h2 := gcd_dvd_r T B
    refine Int.ofNat_dvd_left.mp ?_
    rcases e with e | e
    · rw [e]; exact Int.dvd_add h1 (Int.dvd_mul_of_dvd_left h2)
    · rw [e]; exact Int.dvd_add (Int.dvd_neg.mpr h1) (Int.dvd_mul_of_dvd_left h2)
theorem place_frac1 {s a v n m : Int} (hs : 1 ≤ s) (hm : 1 ≤ m) : placeN s a v n m = fracD (foldI s (lineA v a * m + lineV v * n) m) m := by
  have g0 := gcd_pos (t := lineA v a * m + lineV v * n) hm
  obtain ⟨-, hB, hc⟩ := low_facts (t := lineA v a * m + lineV v * n) hm
  have e1 := Int.ediv_mul_cancel (gcd_dvd_l (lineA v a * m + lineV v * n) m)
  have e2 := Int.ediv_mul_cancel (gcd_dvd_r (lineA v a * m + lineV v * n) m)
  have q : placeN s a v n m = foldD s ((lineA v a * m + lineV v * n) / (Nat.gcd (lineA v a * m + lineV v * n).natAbs m.natAbs : Nat)) (m / (Nat.gcd (lineA v a * m + lineV v * n).natAbs m.natAbs : Nat)) := rfl
  rw [q]
  generalize lineA v a * m + lineV v * n = T at *
  generalize ((Nat.gcd T.natAbs m.natAbs : Nat) : Int) = g at *
  generalize hT : T / g = t0 at *
  generalize hb : m / g = B at *
  obtain ⟨R, k, eR, lR, cR⟩ := fold_is (T := t0) hs hB
  rw [eR]
  refine (low_unique hm hB (by rw [gcd_lin lR, hc]) ?_).symm
  have em : T % (2 * s * m) = g * (t0 % (2 * s * B)) := by
    rw [← e1, ← e2, Int.mul_comm t0 g, show 2 * s * (B * g) = g * (2 * s * B) by simp only [Int.mul_assoc, Int.mul_comm, Int.mul_left_comm]]
    exact Int.mul_emod_mul_of_pos _ _ g0
  unfold foldI
  rw [em]
  have es : s * m = g * (s * B) := by rw [← e2]; simp only [Int.mul_assoc, Int.mul_comm, Int.mul_left_comm]
  have es2 : 2 * s * m = g * (2 * s * B) := by rw [← e2]; simp only [Int.mul_assoc, Int.mul_comm, Int.mul_left_comm]
  rw [es, es2]
  generalize t0 % (2 * s * B) = r at *
  rcases cR with ⟨rfl, h⟩ | ⟨rfl, h⟩
  · rw [if_pos (Int.mul_le_mul_of_nonneg_left h (by omega)), ← e2]
    simp only [Int.mul_assoc, Int.mul_comm, Int.mul_left_comm]
  · have : g * (s * B) < g * r := Int.mul_lt_mul_of_pos_left h g0
    rw [if_neg (by omega), ← e2, ← Int.mul_sub]
    simp only [Int.mul_assoc, Int.mul_comm, Int.mul_left_comm]
end LW
namespace LW
open PySem PySem.Spec PyProof.Rows L2 DL
def m_nth_hit (W : WD) : MS :=
  mSeq (mDrop (mCall D_check_shot W (mCons (mVar 0) (mCons (mVar 1) (mNil)))))
  (mSeq (mIf (mTOr (mTNot (mT (mCall D_is_whole W (mCons (mVar 2) (mNil))))) (mT (mOp2 opLt (mVar 2) (mC (.int 0))))) (mRaise "InvalidIndex" W) (mNext))
  (mSeq (mAsg (mCall D_lines_of W (mCons (mVar 0) (mCons (mVar 1) (mNil)))) (mgName 3))
  (mSeq (mAsg (mCall D__hit_marks W (mCons (mVar 3) (mNil))) (mgName 4))
  (mSeq (mAsg (mCall D_earliest W (mCons (mLc (miSeq (mVar 3)) (mgName 6) (mTYes) (mCall D__time_of_count wF (mCons (mVar 4) (mCons (mVar 6) (mCons (mOp2 opAdd (mVar 2) (mC (.int 1))) (mNil))))) [6]) (mNil))) (mgName 5))
  (mRet (mrOf (mTup (mCons (mVar 5) (mCons (mCall D__word W (mCons (mVar 3) (mCons (mVar 5) (mNil)))) (mCons (mCall D_place_at W (mCons (mVar 0) (mCons (mVar 1) (mCons (mVar 5) (mNil))))) (mNil)))))))))))
def isIdx : PyData → Bool
  | .int i => decide (0 ≤ i)
  | _ => false
theorem idx_inv {d : PyData} (h : isIdx d = true) : ∃ k : Nat, d = .int (k : Int) := by
  unfold isIdx at h
  split at h
  · rename_i i
    have h := of_decide_eq_true h
    exact ⟨i.toNat, by rw [Int.toNat_of_nonneg h]⟩
  · cases h
def nthD : PyData → PyData → PyData → PyData
  | .tuple [.int a, .int b], .tuple [.int x, .int y, .int p, .int q], .int i => (Ls.of a b x y p q).row ((Ls.of a b x y p q).at (i.toNat + 1))
  | _, _, _ => .none
def D_nth_hit : PSpec := fun ds Q E => ∃ t v i, ds = [t, v, i] ∧ (isTab t = false → E "InvalidTable") ∧ (isTab t = true → isShot t v = false → E "InvalidShot") ∧ (isTab t = true → isShot t v = true → isIdx i = false → E "InvalidIndex") ∧
  (isTab t = true → isShot t v = true → isIdx i = true → szH 200 t ∧ szH 200 v ∧ (∀ k : Int, i = .int k → sz 300 k) ∧ Q (.va (nthD t v i)))
theorem len_nth_hit : ∀ ds Q E, D_nth_hit ds Q E → ds.length = 3 := by
  rintro _ Q E ⟨t, v, i, rfl, _⟩
  rfl
theorem place_L {a b x y p q : Int} (a1 : 1 ≤ a) (b1 : 1 ≤ b) {t : Int × Int} (m1 : 1 ≤ t.2) : PyData.tuple [placeN a x p t.1 t.2, placeN b y q t.1 t.2] = (Ls.of a b x y p q).place t := by
  unfold Ls.place
  rw [place_frac1 a1 m1, place_frac1 b1 m1, rF_fold a1 m1, rF_fold b1 m1]
  rfl
theorem word_L {a b x y p q : Int} (t : Int × Int) : wordW a (lineA p x) (lineV p) b (lineA q y) (lineV q) t.1 t.2 = (Ls.of a b x y p q).word t := by
  have e : ∀ (s a v n m : Int) (e w : Str), 0 ≤ v → letW s a v n m e w = letter s a v n m e w := by
    intro s a v n m e w hv
    unfold letW letter rP
    have : (0 < v ∧ (a * m + v * n) % (s * m) = 0) ↔ (v ≠ 0 ∧ (a * m + v * n) % (s * m) = 0) := by
      constructor
      · rintro ⟨h1, h2⟩; exact ⟨by omega, h2⟩
      · rintro ⟨h1, h2⟩; exact ⟨by omega, h2⟩
    by_cases c : 0 < v ∧ (a * m + v * n) % (s * m) = 0
    · rw [if_pos c, if_pos (this.mp c)]
    · rw [if_neg c, if_neg (fun z => c (this.mpr z))]
  unfold wordW Ls.word
  rw [e _ _ _ _ _ _ _ (lineV_nonneg p), e _ _ _ _ _ _ _ (lineV_nonneg q)]
  rfl
/-- the marks of a table and a shot: both lines', then the corners' -/
theorem cntM_is {a b x y p q : Int} {o : Option Int} (a1 : 1 ≤ a) (b1 : 1 ≤ b) (hV : 0 < lineV p) (hU : 0 < lineV q) (an : (cornW a (lineA p x) (lineV p) b (lineA q y) (lineV q)).Ans o) (t : Int × Int) :
    cntM (side2 a (lineA p x) (lineV p) b (lineA q y) (lineV q) ++ cornL a (lineA p x) (lineV p) (sideM a (lineA p x)) (b * lineV p) (lineV q * a) o) t = (Ls.of a b x y p q).N t := hits_of a1 b1 hV hU an
theorem cntM_is0 {a b x y p q : Int} (h : lineV p = 0 ∨ lineV q = 0) (t : Int × Int) : cntM (side2 a (lineA p x) (lineV p) b (lineA q y) (lineV q)) t = (Ls.of a b x y p q).N t := by
  unfold Ls.N hitsN
  rw [if_neg (show ¬ (0 < (Ls.of a b x y p q).V ∧ 0 < (Ls.of a b x y p q).U) from fun z => by have z1 : 0 < lineV p := z.1; have z2 : 0 < lineV q := z.2; omega)]
  rfl
theorem rd_nth_hit : ∀ ds Q E, D_nth_hit ds Q E → m_nth_hit (fun c _ => E c) (endP Q) (slots0 7 ds) := by
  rintro _ Q E ⟨t, v, i, rfl, q1, q2, q3, q4⟩
  unfold m_nth_hit
  refine seq_step fun N hN => ?_
  walk_at "rdn"
  refine ⟨t, v, rfl, q1, q2, fun h1 h2 => ⟨⟨_, rfl⟩, ?_⟩⟩
  subst hN
  cases hi : isIdx i with
  | false =>
    refine seq_step fun N hN => ?_
    refine if_run true (fun Q h => ?_) (fun _ => ?_) (fun hc => by cases hc)
    · walk_at "rdn"
      refine ⟨i, rfl, _, rfl, _, rfl, ?_⟩
      cases hw : isInt i with
      | false =>
        simp only [Bool.not_false, if_true]
        exact h
      | true =>
        simp only [Bool.not_true, Bool.false_eq_true, if_false]
        cases i with
        | int k =>
          refine ⟨_, rfl, _, rfl, ?_⟩
          have : k < 0 := by
            have := of_decide_eq_false hi
            omega
          show Q (decide (k < 0)) _
          rw [decide_eq_true this]
          exact h
        | _ => cases hw
    · exact q3 h1 h2 hi
  | true =>
    obtain ⟨z1, z2, z3, q⟩ := q4 h1 h2 hi
    obtain ⟨a, b, x, y, p, r, rfl, rfl, x0, xa, y0, yb, w⟩ := shot_inv h2
    obtain ⟨k, rfl⟩ := idx_inv hi
    have zk := z3 k rfl
    simp only [isTab, Bool.and_eq_true, decide_eq_true_eq] at h1
    refine seq_step fun N hN => ?_
    refine if_run false (fun Q h => ?_) (fun hc => by cases hc) (fun _ => ?_)
    · walk_at "rdn"
      refine ⟨_, rfl, _, rfl, _, rfl, ?_⟩
      simp only [isInt, Bool.not_true, Bool.false_eq_true, if_false]
      show Q (decide ((k : Int) < 0)) _
      rw [decide_eq_false (by omega)]
      exact h
    walk_at "rdn"
    subst hN
    have R := of_row h1.1 h1.2 x0 xa y0 yb w z1.1 z1.2 z2.2.2.1 z2.2.2.2
    have q : Q (.va ((Ls.of a b x y p r).row ((Ls.of a b x y p r).at (k + 1)))) := q
    have v0 := lineV_nonneg p
    have v0' := lineV_nonneg r
    have up : ∀ {z : Int}, sz 200 z → sz 600 z := fun h => sz_mono h (by decide)
    have zA := up (sz_lineA (v := p) z2.1)
    have zB := up (sz_lineA (v := r) z2.2.1)
    have zV := up (sz_lineV z2.2.2.1)
    have zU := up (sz_lineV z2.2.2.2)
    have za := up z1.1
    have zb := up z1.2
    obtain ⟨zt1, zt2⟩ := R.at_szG za zb zV zU zk
    have G := R.gd (k + 1)
    refine seq_step fun N hN => ?_
    walk_at "rdn"
    refine ⟨a, b, x, y, p, r, rfl, _, rfl, ?_⟩
    rw [lineD_eq, lineD_eq]
    subst hN
    have fin : ∀ (ms : List Mk), (∀ t, cntM (side2 a (lineA p x) (lineV p) b (lineA r y) (lineV r) ++ ms) t = (Ls.of a b x y p r).N t) → (∀ m ∈ side2 a (lineA p x) (lineV p) b (lineA r y) (lineV r) ++ ms, m.ok) → ms.length < 1000 →
        (mSeq (mAsg (mCall D_earliest (fun c _ => E c) (mCons (mLc (miSeq (mVar 3)) (mgName 6) (mTYes) (mCall D__time_of_count wF (mCons (mVar 4) (mCons (mVar 6) (mCons (mOp2 opAdd (mVar 2) (mC (.int 1))) (mNil))))) [6]) (mNil))) (mgName 5))
          (mRet (mrOf (mTup (mCons (mVar 5) (mCons (mCall D__word (fun c _ => E c) (mCons (mVar 3) (mCons (mVar 5) (mNil)))) (mCons (mCall D_place_at (fun c _ => E c) (mCons (mVar 0) (mCons (mVar 1) (mCons (mVar 5) (mNil))))) (mNil)))))))) (endP Q)
          [.va (.tuple [.int a, .int b]), .va (.tuple [.int x, .int y, .int p, .int r]), .va (.int k), .va (.tuple [.tuple [.int a, .int (lineA p x), .int (lineV p)], .tuple [.int b, .int (lineA r y), .int (lineV r)]]), .va (.list ((side2 a (lineA p x) (lineV p) b (lineA r y) (lineV r) ++ ms).map Mk.d)), .no, .no] := by
      intro ms hc hok hl
      generalize hM : (side2 a (lineA p x) (lineV p) b (lineA r y) (lineV r) ++ ms).map Mk.d = M
      obtain ⟨⟨a0, a1⟩, ⟨b0, b1⟩⟩ := R.ahead k
      obtain ⟨i1, i2⟩ := R.ahead_is k
      have zk1 : sz 2000 ((k : Int) + 1) := sz_mono (sz_add zk (sz_mono (k := 1) (by unfold sz; decide) (by decide))) (by decide)
      have eN : ((k + 1 : Nat) : Int) = (k : Int) + 1 := by omega
      refine seq_step fun N hN => ?_
      walk_at "rdn"
      refine ⟨rfl, ?_⟩
      simp only [lcL, swipe]
      walk_at "rdn"
      have side : ∀ (s A V : Int) (j : Int) (Y : PyData → Prop), 1 ≤ s → 0 ≤ V → sz 600 s → sz 600 A → sz 600 V → 0 ≤ j → j ≤ k → (V ≠ 0 → j = rP s A V ((Ls.of a b x y p r).at (k + 1)).1 ((Ls.of a b x y p r).at (k + 1)).2 - A / s - (if (A * ((Ls.of a b x y p r).at (k + 1)).2 + V * ((Ls.of a b x y p r).at (k + 1)).1) % (s * ((Ls.of a b x y p r).at (k + 1)).2) = 0 then 1 else 0)) → Y (oT (if V = 0 then none else some (mkT s A V j))) →
          D__time_of_count [.list M, .tuple [.int s, .int A, .int V], .int ((k : Int) + 1)] (fun r => ∃ d, fz r = some d ∧ Y d) (fun c => False) := by
        intro s A V j Y s1 V0 zs zA zV j0 j1 hj hY
        refine ⟨_, _, ms, s, A, V, (k : Int) + 1, by rw [← hM]; rfl, hok, hl, s1, V0, zs, zA, zV, by omega, zk1, fun hz => ⟨_, rfl, ?_⟩, fun hz => ⟨j, j0, by omega, fun i i0 i1 => ?_, _, rfl, ?_⟩⟩
        · rw [if_pos hz] at hY
          exact hY
        · have := (line_thr R s1 hz j0 (hj (by omega))).1 i i0
          rw [eN] at this
          rw [← this, ← hc]
          exact Iff.rfl
        · rw [if_neg (by omega)] at hY
          exact hY
      refine side a (lineA p x) (lineV p) _ _ h1.1 v0 za zA zV a0 a1 i1 ⟨by decide, ?_⟩
      refine side b (lineA r y) (lineV r) _ _ h1.2 v0' zb zB zU b0 b1 i2 ⟨by simp, ?_⟩
      simp only [sback]
      walk_at "rdn"
      refine ⟨[(Ls.of a b x y p r).t1 k, (Ls.of a b x y p r).t2 k], rfl, ?_, ?_⟩
      · intro t ht
        simp only [List.mem_cons, List.not_mem_nil, or_false] at ht
        have sm : ∀ (s A V j : Int), 1 ≤ s → 0 < V → sz 600 s → sz 600 A → sz 600 V → 0 ≤ j → j ≤ k → sz 100000 (mkT s A V j).1 ∧ sz 100000 (mkT s A V j).2 := by
          intro s A V j s1 V0 zs zA zV j0 j1
          have zj : sz 300 j := sz_le zk (by omega)
          have zt : sz 1000 (sideM s A + s * j - A) := sz_mono (sz_sub (sz_add (sz_mono (sz_sideM s1 zs zA) (l := 910) (by decide)) (sz_mono (sz_mul zs zj) (by decide))) (sz_mono zA (by decide))) (by decide)
          have := sz_lowP (t := sideM s A + s * j - A) V0 zt zV
          exact ⟨sz_mono this.1 (by decide), sz_mono this.2 (by decide)⟩
        rcases ht with ht | ht
        · unfold Ls.t1 at ht
          split at ht
          · cases ht
          · rename_i c
            cases ht
            have c : ¬ lineV p = 0 := c
            exact sm a (lineA p x) (lineV p) _ h1.1 (by omega) za zA zV a0 a1
        · unfold Ls.t2 at ht
          split at ht
          · cases ht
          · rename_i c
            cases ht
            have c : ¬ lineV r = 0 := c
            exact sm b (lineA r y) (lineV r) _ h1.2 (by omega) zb zB zU b0 b1
      rw [R.earl_at]
      refine ⟨_, rfl, ?_⟩
      subst hN
      unfold oT
      have u2 : ∀ {z : Int}, sz 600 z → sz 2000 z := fun h => sz_mono h (by decide)
      walk_at "rdn"
      refine ⟨a, lineA p x, lineV p, b, lineA r y, lineV r, _, _, rfl, h1.1, h1.2, G.m1, ⟨u2 za, u2 zA, u2 zV, u2 zb, u2 zB, u2 zU, sz_mono zt1 (by decide), sz_mono zt2 (by decide)⟩, _, rfl, ?_⟩
      have u3 : ∀ {z : Int}, sz 200 z → sz 1000 z := fun h => sz_mono h (by decide)
      have tb := isTab_t h1.1 h1.2
      refine ⟨_, _, _, rfl, fun h => absurd (tb.symm.trans h) (by decide), fun _ h => absurd (h2.symm.trans h) (by decide), fun _ _ h => absurd ((frac_ok G.m1 G.g).symm.trans h) (by decide), fun _ _ _ => ⟨⟨u3 z1.1, u3 z1.2⟩, ⟨u3 z2.1, u3 z2.2.1, u3 z2.2.2.1, u3 z2.2.2.2⟩, ⟨sz_mono zt1 (by decide), sz_mono zt2 (by decide)⟩, _, rfl, ?_⟩⟩
      rw [word_L]
      show Q (.va (.tuple [_, _, PyData.tuple [placeN a x p _ _, placeN b y r _ _]]))
      rw [place_L h1.1 h1.2 G.m1]
      exact q
    refine seq_step fun N hN => ?_
    walk_at "rdn"
    refine ⟨a, lineA p x, lineV p, b, lineA r y, lineV r, rfl, h1.1, h1.2, v0, v0', ⟨za, zA, zV, zb, zB, zU⟩, fun hz => ⟨_, rfl, ?_⟩, fun hV hU o an => ⟨_, rfl, ?_⟩⟩
    · subst hN
      have := fin [] (fun t => by rw [List.append_nil]; exact cntM_is0 hz t) ?_ (by decide)
      · rw [List.append_nil] at this
        exact this
      · intro m hm
        rw [List.append_nil] at hm
        simp only [side2, List.mem_cons, List.not_mem_nil, or_false] at hm
        rcases hm with rfl | rfl
        · exact ⟨h1.1, sz_mono zV (by decide), sz_mono za (by decide)⟩
        · exact ⟨h1.2, sz_mono zU (by decide), sz_mono zb (by decide)⟩
    · subst hN
      refine fin _ (fun t => cntM_is h1.1 h1.2 hV hU an t) ?_ (by cases o <;> simp [cornL])
      intro m hm
      simp only [side2, List.cons_append, List.nil_append, List.mem_cons] at hm
      rcases hm with rfl | rfl | hm
      · exact ⟨h1.1, sz_mono zV (by decide), sz_mono za (by decide)⟩
      · exact ⟨h1.2, sz_mono zU (by decide), sz_mono zb (by decide)⟩
      · cases o with
        | none => cases hm
        | some k =>
          simp only [cornL, List.mem_singleton] at hm
          rw [hm]
          have c1 : 1 ≤ b * lineV p := Int.mul_pos (by omega) hV
          have cp := div_gcd_pos (t := lineV r * a) c1
          have gp := gcd_pos (t := lineV r * a) c1
          have zc := sz_mul zb zV
          refine ⟨?_, sz_mono zV (by decide), sz_mono (sz_mul za (sz_div zc gp)) (by decide)⟩
          have := Int.mul_pos (show 0 < a by omega) (show (0 : Int) < b * lineV p / (Nat.gcd (lineV r * a).natAbs (b * lineV p).natAbs : Nat) by omega)
          exact this
section
variable {P : Program} {w : World} {K : PySem.W.Frag} {mg : Str → Option Value} {base : Heap} {CN : String → Option Addr}
theorem ok_nth_hit {f : Addr} {fd : FuncData} (F : Fun K "nth_hit" "nth_hit" s_nth_hit f fd) (g : G K mg CN) (c__hit_marks : CalP P w K mg base CN 5 "_hit_marks" D__hit_marks) (c__time_of_count : CalP P w K mg base CN 3 "_time_of_count" D__time_of_count) (c__word : CalP P w K mg base CN 1 "_word" D__word) (c_check_shot : CalP P w K mg base CN 6 "check_shot" D_check_shot) (c_earliest : CalP P w K mg base CN 1 "earliest" D_earliest) (c_is_whole : CalP P w K mg base CN 1 "is_whole" D_is_whole) (c_lines_of : CalP P w K mg base CN 2 "lines_of" D_lines_of) (c_place_at : CalP P w K mg base CN 8 "place_at" D_place_at) : FnG P w K mg base 9 f fd ["table", "shot", "index"] (spP K CN D_nth_hit) := by
  obtain ⟨e_InvalidIndex, n_InvalidIndex, t_InvalidIndex⟩ := g.x_InvalidIndex
  have sc := sc_nth_hit
  exact fun_okP (m := m_nth_hit) F sc (by decide) len_nth_hit (fun cdv A outer s H E C W hw hr tk =>
    (pds_cons (pds_drop (pd_call c_check_shot hr (by decide) tk (pda_cons (dv 0) (pda_cons (dv 1) pda_nil))))
    (pds_cons (pds_if (pdt_ofw (pdw_or (pdt_not (pdt_val (pd_call c_is_whole hr (by decide) tk (pda_cons (dv 2) pda_nil)))) (pdw_or1 (pdt_cmp op_lt rl_cmpI (dv 2) pd_int (nomark _))))) (pds_one (pds_raise rfl tk t_InvalidIndex n_InvalidIndex)) pds_nil)
    (pds_cons (pds_asg (ps_asg (pd_call c_lines_of hr (by decide) tk (pda_cons (dv 0) (pda_cons (dv 1) pda_nil))) (dg 3 sc.nd)))
    (pds_cons (pds_asg (ps_asg (pd_call c__hit_marks hr (by decide) tk (pda_cons (dv 3) pda_nil)) (dg 4 sc.nd)))
    (pds_cons (pds_asg (ps_asg (pd_call c_earliest hr (by decide) tk (pda_cons (pd_lc (pe_lc (own := [("line", 6)]) rfl sc.nd (pdi_seq (dv 3)) (blkOk_by (N := ["table", "shot", "index", "lines", "marks", "time", "line"]) (sc := (defScope s_nth_hit)) (by decide +kernel)) (fun _ _ _ _ _ => (dgv 6 (vs := [6]) sc.nd)) (fun _ _ _ _ _ => pdts_nil) (fun _ _ _ _ _ => (pd_call c__time_of_count hr (by decide) takesF (pda_cons (dv 4) (pda_cons (dv 6) (pda_cons (pd_op or_add rl_add (dv 2) pd_int) pda_nil))))))) pda_nil)) (dg 5 sc.nd)))
    (pds_one (pds_ret (pdr_of (pd_tup (pda_cons (dv 5) (pda_cons (pd_call c__word hr (by decide) tk (pda_cons (dv 3) (pda_cons (dv 5) pda_nil))) (pda_cons (pd_call c_place_at hr (by decide) tk (pda_cons (dv 0) (pda_cons (dv 1) (pda_cons (dv 5) pda_nil)))) pda_nil))))))))))))) rd_nth_hit
end
def m_is_cushion (W : WD) : MS :=
  mRet (mrOf (mAnd (mOp1 (bIsi [.kStr]) (mVar 0)) (mOp2 opIn (mVar 0) (mC (.tuple [(.str "W"), (.str "E"), (.str "S"), (.str "N")])))))
def isCush : PyData → Bool
  | .str z => decide (z = "W") || decide (z = "E") || decide (z = "S") || decide (z = "N")
  | _ => false
def D_is_cushion : PSpec := fun ds Q _ => ∃ d, ds = [d] ∧ Q (.va (.bool (isCush d)))
theorem len_is_cushion : ∀ ds Q E, D_is_cushion ds Q E → ds.length = 1 := by
  rintro _ Q E ⟨d, rfl, _⟩
  rfl
theorem opIn_cush {z : Str} : opIn (.str z) (.tuple [.str "W", .str "E", .str "S", .str "N"]) = some (.bool (isCush (.str z))) := by
  simp [opIn, opInS, items, flatD, PyData.eqv, isCush]
  have c : ∀ a b : Str, (a == b) = decide (b = a) := fun a b => by
    by_cases h : b = a
    · subst h; simp
    · rw [decide_eq_false h, beq_false_of_ne (Ne.symm h)]
  rw [c "W", c "E", c "S", c "N"]
  simp only [Bool.or_assoc]
theorem rd_is_cushion : ∀ ds Q E, D_is_cushion ds Q E → m_is_cushion (fun c _ => E c) (endP Q) (slots0 1 ds) := by
  rintro _ Q E ⟨d, rfl, q⟩
  unfold m_is_cushion
  cases d with
  | str z =>
    walk_at "rdn"
    exact ⟨_, opIn_cush, q⟩
  | _ =>
    walk_at "rdn"
    exact q
section
variable {P : Program} {w : World} {K : PySem.W.Frag} {mg : Str → Option Value} {base : Heap} {CN : String → Option Addr}
theorem ok_is_cushion {f : Addr} {fd : FuncData} (F : Fun K "is_cushion" "is_cushion" s_is_cushion f fd) (g : G K mg CN)  : FnG P w K mg base 1 f fd ["value"] (spP K CN D_is_cushion) := by
  have sc := sc_is_cushion
  exact fun_okP (m := m_is_cushion) F sc (by decide) len_is_cushion (fun cdv A outer s H E C W hw hr tk =>
    (pds_one (pds_ret (pdr_of (pd_and (pd_isi1 .kStr g.b_isinstance g.b_str (dv 0)) (pd_one (pd_cmp or_in rl_in (dv 0) (pd_cst g.gl_CUSHIONS) rfl))))))) rd_is_cushion
end
def m_cushion_marks (W : WD) : MS :=
  mSeq (mAsg (mIdxC [(.str "W"), (.str "E"), (.str "S"), (.str "N")] (mVar 1)) (mgName 2))
  (mSeq (mAsg (mOp2 opIx (mVar 0) (mOp2 opFdiv (mVar 2) (mC (.int 2)))) (mgName 3))
  (mSeq (mAsg (mVar 3) (mgTup 3 (mgCons (mgName 4) (mgCons (mgName 5) (mgCons (mgName 6) (mgNil))))))
  (mRet (mrOf (mTup (mCons (mVar 3) (mCons (mCall D_mark_from W (mCons (mOp2 opAdd (mVar 5) (mC (.int 1))) (mCons (mOp2 opMul (mOp2 opMod (mVar 2) (mC (.int 2))) (mVar 4)) (mCons (mOp2 opMul (mC (.int 2)) (mVar 4)) (mNil))))) (mCons (mOp2 opIx (mVar 0) (mOp2 opSub (mC (.int 1)) (mOp2 opFdiv (mVar 2) (mC (.int 2))))) (mNil)))))))))
def letS : Nat → Str
  | 0 => "W"
  | 1 => "E"
  | 2 => "S"
  | _ => "N"
/-- the first mark of a line at a cushion: r is 0 at even multiples of the side, 1 at odd ones -/
def cushM (s a r : Int) : Int := a + 1 + (r * s - (a + 1)) % (2 * s)
def cushR (s a v s' a' v' : Int) : Nat → PyData
  | 0 => .tuple [.tuple [.int s, .int a, .int v], .int (cushM s a 0), .tuple [.int s', .int a', .int v']]
  | 1 => .tuple [.tuple [.int s, .int a, .int v], .int (cushM s a 1), .tuple [.int s', .int a', .int v']]
  | 2 => .tuple [.tuple [.int s', .int a', .int v'], .int (cushM s' a' 0), .tuple [.int s, .int a, .int v]]
  | _ => .tuple [.tuple [.int s', .int a', .int v'], .int (cushM s' a' 1), .tuple [.int s, .int a, .int v]]
def D_cushion_marks : PSpec := fun ds Q _ => ∃ s a v s' a' v' k, ds = [.tuple [.tuple [.int s, .int a, .int v], .tuple [.int s', .int a', .int v']], .str (letS k)] ∧ 1 ≤ s ∧ 1 ≤ s' ∧ sz 2000 s ∧ sz 2000 s' ∧ k < 4 ∧ Q (.va (cushR s a v s' a' v' k))
theorem len_cushion_marks : ∀ ds Q E, D_cushion_marks ds Q E → ds.length = 2 := by
  rintro _ Q E ⟨s, a, v, s', a', v', k, rfl, _⟩
  rfl
theorem rd_cushion_marks : ∀ ds Q E, D_cushion_marks ds Q E → m_cushion_marks (fun c _ => E c) (endP Q) (slots0 7 ds) := by
  rintro _ Q E ⟨s, a, v, s', a', v', k, rfl, s1, s1', zs, zs', hk, q⟩
  unfold m_cushion_marks
  have s2 : sz 2 2 := by unfold sz; decide
  have b0 : sz 2 0 := by unfold sz; decide
  have b1 : sz 2 1 := by unfold sz; decide
  have fd : ∀ x : Int, opFdiv (.int x) (.int 2) = some (.int (x / 2)) := fun x => opFdiv_ok (by decide) s2 (by decide)
  have md : ∀ x : Int, opMod (.int x) (.int 2) = some (.int (x % 2)) := fun x => opMod_ok (by decide)
  have c : k = 0 ∨ k = 1 ∨ k = 2 ∨ k = 3 := by omega
  rcases c with rfl | rfl | rfl | rfl
  · refine seq_step fun N hN => ?_
    walk_at "rdn"
    simp only [mIdxC]
    walk_at "rdn"
    refine ⟨.int 0, rfl, ?_⟩
    subst hN
    refine seq_step fun N hN => ?_
    walk_at "rdn"
    refine ⟨_, fd 0, _, rfl, ?_⟩
    subst hN
    refine seq_step fun N hN => ?_
    walk_at "rdn"
    subst hN
    walk_at "rdn"
    refine ⟨_, md 0, _, opMul_ok (a := 0 % 2) b0 zs (by decide), _, opMul_ok s2 zs (by decide), _, _, _, rfl, by omega, _, rfl, _, fd 0, _, rfl, _, rfl, q⟩
  · refine seq_step fun N hN => ?_
    walk_at "rdn"
    simp only [mIdxC]
    walk_at "rdn"
    refine ⟨.int 1, rfl, ?_⟩
    subst hN
    refine seq_step fun N hN => ?_
    walk_at "rdn"
    refine ⟨_, fd 1, _, rfl, ?_⟩
    subst hN
    refine seq_step fun N hN => ?_
    walk_at "rdn"
    subst hN
    walk_at "rdn"
    refine ⟨_, md 1, _, opMul_ok (a := 1 % 2) b1 zs (by decide), _, opMul_ok s2 zs (by decide), _, _, _, rfl, by omega, _, rfl, _, fd 1, _, rfl, _, rfl, q⟩
  · refine seq_step fun N hN => ?_
    walk_at "rdn"
    simp only [mIdxC]
    walk_at "rdn"
    refine ⟨.int 2, rfl, ?_⟩
    subst hN
    refine seq_step fun N hN => ?_
    walk_at "rdn"
    refine ⟨_, fd 2, _, rfl, ?_⟩
    subst hN
    refine seq_step fun N hN => ?_
    walk_at "rdn"
    subst hN
    walk_at "rdn"
    refine ⟨_, md 2, _, opMul_ok (a := 2 % 2) b0 zs' (by decide), _, opMul_ok s2 zs' (by decide), _, _, _, rfl, by omega, _, rfl, _, fd 2, _, rfl, _, rfl, q⟩
  · refine seq_step fun N hN => ?_
    walk_at "rdn"
    simp only [mIdxC]
    walk_at "rdn"
    refine ⟨.int 3, rfl, ?_⟩
    subst hN
    refine seq_step fun N hN => ?_
    walk_at "rdn"
    refine ⟨_, fd 3, _, rfl, ?_⟩
    subst hN
    refine seq_step fun N hN => ?_
    walk_at "rdn"
    subst hN
    walk_at "rdn"
    refine ⟨_, md 3, _, opMul_ok (a := 3 % 2) b1 zs' (by decide), _, opMul_ok s2 zs' (by decide), _, _, _, rfl, by omega, _, rfl, _, fd 3, _, rfl, _, rfl, q⟩
section
variable {P : Program} {w : World} {K : PySem.W.Frag} {mg : Str → Option Value} {base : Heap} {CN : String → Option Addr}
theorem ok_cushion_marks {f : Addr} {fd : FuncData} (F : Fun K "cushion_marks" "cushion_marks" s_cushion_marks f fd) (g : G K mg CN) (c_mark_from : CalP P w K mg base CN 1 "mark_from" D_mark_from) : FnG P w K mg base 2 f fd ["lines", "cushion"] (spP K CN D_cushion_marks) := by
  have sc := sc_cushion_marks
  exact fun_okP (m := m_cushion_marks) F sc (by decide) len_cushion_marks (fun cdv A outer s H E C W hw hr tk =>
    (pds_cons (pds_asg (ps_asg (pd_idxC g.gl_CUSHIONS (dv 1) (fun a h => pe_bm PySem.F.plainAttrs_tuple PySem.F.slot_tuple_index PySem.F.type_tuple_index mt_indexT (pe_glob rfl h rfl) (pa_cons (dv 1) pa_nil))) (dg 2 sc.nd)))
    (pds_cons (pds_asg (ps_asg (pd_ix ix_seq rl_ix (dv 0) (pd_op op_fdivW rl_fdiv (dv 2) pd_int)) (dg 3 sc.nd)))
    (pds_cons (pds_asg (ps_asg (dv 3) (pdg_tup rfl (gcons (dg 4 sc.nd) (gcons (dg 5 sc.nd) (gcons (dg 6 sc.nd) pdgs_nil))))))
    (pds_one (pds_ret (pdr_of (pd_tup (pda_cons (dv 3) (pda_cons (pd_call c_mark_from hr (by decide) tk (pda_cons (pd_op or_add rl_add (dv 5) pd_int) (pda_cons (pd_op or_mul rl_mul (pd_op op_mod rl_mod (dv 2) pd_int) (dv 4)) (pda_cons (pd_op or_mul rl_mul pd_int (dv 4)) pda_nil)))) (pda_cons (pd_ix ix_seq rl_ix (dv 0) (pd_op op_sub rl_sub pd_int (pd_op op_fdivW rl_fdiv (dv 2) pd_int))) pda_nil))))))))))) rd_cushion_marks
end
def m__question (W : WD) : MS :=
  mSeq (mAsg (mVar 0) (mgTup 3 (mgCons (mgName 5) (mgCons (mgName 6) (mgCons (mgName 7) (mgNil))))))
  (mSeq (mAsg (mCall D_other_at_marks W (mCons (mVar 0) (mCons (mVar 1) (mCons (mOp2 opMul (mC (.int 2)) (mVar 5)) (mCons (mVar 2) (mNil)))))) (mgTup 2 (mgCons (mgName 8) (mgCons (mgName 9) (mgNil)))))
  (mSeq (mAsg (mOp2 opMul (mOp2 opMul (mC (.int 2)) (mOp2 opIx (mVar 2) (mC (.int 0)))) (mVar 7)) (mgName 10))
  (mRet (mrOf (mTup (mCons (mVar 8) (mCons (mVar 9) (mCons (mVar 10) (mCons (mLc (miSeq (mCall D_spans W (mCons (mVar 3) (mCons (mVar 4) (mCons (mOp2 opIx (mVar 2) (mC (.int 0))) (mNil)))))) (mgTup 2 (mgCons (mgName 11) (mgCons (mgName 12) (mgNil)))) (mTYes) (mTup (mCons (mOp2 opMul (mVar 7) (mVar 11)) (mCons (mOp2 opMul (mVar 7) (mVar 12)) (mNil)))) [11, 12]) (mNil))))))))))
theorem spans_sz {l h s : Int} (zl : sz 700 l) (zh : sz 700 h) (zs : sz 700 s) : ∀ u ∈ spansL l h s, sz 710 u.1 ∧ sz 710 u.2 := by
  intro u hu
  have up : ∀ {z : Int}, sz 700 z → sz 710 z := fun h => sz_mono h (by decide)
  unfold spansL at hu
  split at hu
  · simp only [List.mem_singleton] at hu
    subst hu
    exact ⟨up (sz_neg zh), up zh⟩
  · split at hu
    · simp only [List.mem_singleton] at hu
      subst hu
      exact ⟨up zl, sz_mono (sz_sub (sz_mul (show sz 2 2 by unfold sz; decide) zs) (sz_mono zl (by decide))) (by decide)⟩
    · simp only [List.mem_cons, List.not_mem_nil, or_false] at hu
      rcases hu with rfl | rfl
      · exact ⟨up (sz_neg zh), up (sz_neg zl)⟩
      · exact ⟨up zl, up zh⟩
theorem spans_len (l h s : Int) : (spansL l h s).length ≤ 2 := by
  unfold spansL
  split
  · simp
  · split <;> simp
def kScale (v : Int) : PyData → Option PyData
  | .tuple [.int a, .int b] => some (prD (v * a, v * b))
  | _ => none
theorem scale_rows (v : Int) (l : List (Int × Int)) : (l.map prD).filterMap (kScale v) = l.map fun u => prD (v * u.1, v * u.2) := by
  induction l with
  | nil => rfl
  | cons u l ih => rw [List.map_cons, List.filterMap_cons_some (f := kScale v) (a := prD u) (b := prD (v * u.1, v * u.2)) rfl, ih]; rfl
def D__question : PSpec := fun ds Q _ => ∃ s a v f s' a' v' l h, ds = [.tuple [.int s, .int a, .int v], .int f, .tuple [.int s', .int a', .int v'], .int l, .int h] ∧ sz 700 s ∧ sz 700 a ∧ sz 700 v ∧ sz 800 f ∧ sz 700 s' ∧ sz 700 a' ∧ sz 700 v' ∧ sz 700 l ∧ sz 700 h ∧
  Q (.va (.tuple [.int (v' * (2 * s)), .int (a' * v + v' * (f - a)), .int (2 * s' * v), .list ((spansL l h s').map fun u => prD (v * u.1, v * u.2))]))
theorem len__question : ∀ ds Q E, D__question ds Q E → ds.length = 5 := by
  rintro _ Q E ⟨s, a, v, f, s', a', v', l, h, rfl, _⟩
  rfl
theorem rd__question : ∀ ds Q E, D__question ds Q E → m__question (fun c _ => E c) (endP Q) (slots0 13 ds) := by
  rintro _ Q E ⟨s, a, v, f, s', a', v', l, h, rfl, zs, za, zv, zf, zs', za', zv', zl, zh, q⟩
  unfold m__question
  have s2 : sz 2 2 := by unfold sz; decide
  have z2 := sz_mul s2 zs
  have z2' := sz_mul s2 zs'
  refine seq_step fun N hN => ?_
  walk_at "rdn"
  subst hN
  refine seq_step fun N hN => ?_
  walk_at "rdn"
  refine ⟨_, opMul_ok s2 zs (by decide), s, a, v, f, 2 * s, s', a', v', rfl, sz_mono za (by decide), sz_mono zv (by decide), sz_mono zf (by decide), sz_mono z2 (by decide), sz_mono za' (by decide), sz_mono zv' (by decide), _, rfl, ?_⟩
  walk_at "rdn"
  subst hN
  refine seq_step fun N hN => ?_
  walk_at "rdn"
  refine ⟨_, opMul_ok s2 zs' (by decide), _, opMul_ok z2' zv (by decide), ?_⟩
  subst hN
  walk_at "rdn"
  refine ⟨l, h, s', rfl, sz_mono zs' (by decide), _, rfl, ?_⟩
  walk_at "rdn"
  refine ⟨rfl, ?_⟩
  have sp := spans_sz zl zh zs'
  have sl := spans_len l h s'
  generalize spansL l h s' = L at *
  refine lcL_run (fun st => ∃ x y, st = [.va (.tuple [.int s, .int a, .int v]), .va (.int f), .va (.tuple [.int s', .int a', .int v']), .va (.int l), .va (.int h), .va (.int s), .va (.int a), .va (.int v), .va (.int (v' * (2 * s))), .va (.int (a' * v + v' * (f - a))), .va (.int (2 * s' * v)), x, y]) (kScale v) (L.map prD) ?_ _ [] ⟨_, _, rfl⟩ ?_ ?_
  · rintro d hd st ⟨x, y, rfl⟩ Y N hY hN
    obtain ⟨u, hu, rfl⟩ := List.mem_map.mp hd
    obtain ⟨u1, u2⟩ := sp u hu
    simp only [swipe]
    unfold prD
    walk_at "rdn"
    exact ⟨_, opMul_ok zv u1 (by decide), _, opMul_ok zv u2 (by decide), hY _ _ rfl ⟨_, _, rfl⟩⟩
  · rw [List.length_map]
    simp only [List.length_nil]
    omega
  · rintro st ⟨x, y, rfl⟩
    rw [List.nil_append, scale_rows]
    exact q
section
variable {P : Program} {w : World} {K : PySem.W.Frag} {mg : Str → Option Value} {base : Heap} {CN : String → Option Addr}
theorem ok__question {f : Addr} {fd : FuncData} (F : Fun K "_question" "_question" s__question f fd) (g : G K mg CN) (c_other_at_marks : CalP P w K mg base CN 1 "other_at_marks" D_other_at_marks) (c_spans : CalP P w K mg base CN 1 "spans" D_spans) : FnG P w K mg base 2 f fd ["line", "first", "other", "low", "high"] (spP K CN D__question) := by
  have sc := sc__question
  exact fun_okP (m := m__question) F sc (by decide) len__question (fun cdv A outer s H E C W hw hr tk =>
    (pds_cons (pds_asg (ps_asg (dv 0) (pdg_tup rfl (gcons (dg 5 sc.nd) (gcons (dg 6 sc.nd) (gcons (dg 7 sc.nd) pdgs_nil))))))
    (pds_cons (pds_asg (ps_asg (pd_call c_other_at_marks hr (by decide) tk (pda_cons (dv 0) (pda_cons (dv 1) (pda_cons (pd_op or_mul rl_mul pd_int (dv 5)) (pda_cons (dv 2) pda_nil))))) (pdg_tup rfl (gcons (dg 8 sc.nd) (gcons (dg 9 sc.nd) pdgs_nil)))))
    (pds_cons (pds_asg (ps_asg (pd_op or_mul rl_mul (pd_op or_mul rl_mul pd_int (pd_ix ix_seq rl_ix (dv 2) pd_int)) (dv 7)) (dg 10 sc.nd)))
    (pds_one (pds_ret (pdr_of (pd_tup (pda_cons (dv 8) (pda_cons (dv 9) (pda_cons (dv 10) (pda_cons (pd_lc (pe_lc (own := [("least", 11), ("most", 12)]) rfl sc.nd (pdi_seq (pd_call c_spans hr (by decide) tk (pda_cons (dv 3) (pda_cons (dv 4) (pda_cons (pd_ix ix_seq rl_ix (dv 2) pd_int) pda_nil))))) (blkOk_by (N := ["line", "first", "other", "low", "high", "side", "_", "speed", "grow", "begin", "circle", "least", "most"]) (sc := (defScope s__question)) (by decide +kernel)) (fun _ _ _ _ _ => (pdgv_tup rfl (gvcons (dgv 11 (vs := [11, 12]) sc.nd) (gvcons (dgv 12 (vs := [11, 12]) sc.nd) pdgsv_nil)))) (fun _ _ _ _ _ => pdts_nil) (fun _ _ _ _ _ => (pd_tup (pda_cons (pd_op or_mul rl_mul (dv 7) (dv 11)) (pda_cons (pd_op or_mul rl_mul (dv 7) (dv 12)) pda_nil)))))) pda_nil)))))))))))) rd__question
end
end LW
namespace LW
open PySem PySem.Spec PyProof.Rows L2 DL
/-- a comprehension without a test, told by a relation -/
theorem lcL_rel {mg : MG} {me : ME} {vs : List Nat} {Q : List PyData → DSt → Prop} (I : DSt → Prop) (R : PyData → PyData → Prop) :
    ∀ ds : List PyData, (∀ d ∈ ds, ∀ s, I s → ∀ (Y : PyData → DSt → Prop), (∀ y s3, R d y → I s3 → Y y s3) → mg d (swipe s vs) fun s1 => me s1 Y) →
      ∀ s acc, I s → acc.length + ds.length ≤ 100000 → (∀ s' ys, I s' → Paired R ds ys → Q (acc ++ ys) s') → lcL mg mTYes me vs Q ds s acc
  | [], _, s, acc, i, _, q => by
    have := q s [] i .nil
    rw [List.append_nil] at this
    exact this
  | d :: ds, h, s, acc, i, hl, q => by
    refine h d (by simp) s i _ (fun y s3 r i3 => ⟨by simp at hl; omega, ?_⟩)
    refine lcL_rel I R ds (fun d' hd => h d' (by simp [hd])) s3 (acc ++ [y]) i3 (by simp at hl ⊢; omega) fun s' ys i' p => ?_
    have := q s' (y :: ys) i' (.cons r p)
    simpa using this
theorem ints_mapI : ∀ ns : List Int, ints? (ns.map .int) = some ns
  | [] => rfl
  | n :: ns => by
    show (ints? (ns.map .int)).map (n :: ·) = _
    rw [ints_mapI ns]
    rfl
/-- a list that holds the least ones of a set holds its least -/
theorem min_least {P : Int → Prop} {ks : List Int} (h1 : ∀ k ∈ ks, P k) (h2 : ∀ k, P k → ∃ k' ∈ ks, k' ≤ k) : Least P (minI ks) := by
  cases ks with
  | nil =>
    intro k hk
    obtain ⟨k', h, -⟩ := h2 k hk
    cases h
  | cons n ns =>
    obtain ⟨f1, f2⟩ := foldl_min ns n
    refine ⟨h1 _ f1, fun k hk => ?_⟩
    obtain ⟨k', a, b⟩ := h2 k hk
    exact Int.le_trans (f2 k' a) b
theorem some_rows (os : List (Option Int)) : (os.map optD).filterMap kSome = (os.filterMap id).map .int := by
  induction os with
  | nil => rfl
  | cons o os ih =>
    rw [List.map_cons]
    cases o with
    | none => rw [List.filterMap_cons_none (by rfl), ih, List.filterMap_cons_none (by rfl)]
    | some k => rw [List.filterMap_cons_some (b := .int k) (by rfl), ih, List.filterMap_cons_some (b := k) (by rfl)]; rfl
theorem minL_ints {ns : List Int} {k : Int} (h : minI ns = some k) : bMinL [.list (ns.map .int)] = some (.int k) := by
  cases ns with
  | nil => cases h
  | cons n ns =>
    cases h
    unfold bMinL
    simp only [ints_mapI]
/-- k is asked for: some range holds it -/
def Asked (L : List (Int × Int)) (g b c k : Int) : Prop := 0 ≤ k ∧ ∃ u ∈ L, ∃ j : Int, u.1 ≤ g * k + b - c * j ∧ g * k + b - c * j ≤ u.2
theorem paired_asked {g b c : Int} : ∀ {L : List (Int × Int)} {ys : List PyData}, Paired (fun d y => ∃ (u : Int × Int) (o : Option Int), d = prD u ∧ y = optD o ∧ (wit g b c u.1 u.2).Ans o) (L.map prD) ys →
    ∃ os : List (Option Int), ys = os.map optD ∧ (∀ k ∈ os.filterMap id, Asked L g b c k ∧ k ≤ 2 * (c * c)) ∧ ∀ k, Asked L g b c k → ∃ k' ∈ os.filterMap id, k' ≤ k
  | [], ys, h => by
    cases h
    refine ⟨[], rfl, fun k hk => (nomatch hk), ?_⟩
    rintro k ⟨-, u, hu, -⟩
    cases hu
  | u :: L, ys, h => by
    rw [List.map_cons] at h
    cases h with
    | cons h1 h2 =>
      obtain ⟨u', o, e, rfl, an⟩ := h1
      unfold prD at e
      simp only [PyData.tuple.injEq, List.cons.injEq, PyData.int.injEq, and_true] at e
      have eu : u = u' := Prod.ext e.1 e.2
      subst eu
      obtain ⟨os, rfl, a1, a2⟩ := paired_asked h2
      have iff : ∀ k, Btw g (b - u.2) c g (b - u.1) c k ↔ 0 ≤ k ∧ ∃ j : Int, u.1 ≤ g * k + b - c * j ∧ g * k + b - c * j ≤ u.2 := fun k => by
        unfold Btw
        constructor
        · rintro ⟨h0, j, h1, h2⟩
          exact ⟨h0, j, by omega, by omega⟩
        · rintro ⟨h0, j, h1, h2⟩
          exact ⟨h0, j, by omega, by omega⟩
      have up : ∀ k, Asked L g b c k → Asked (u :: L) g b c k := fun k ⟨h0, w, hw, z⟩ => ⟨h0, w, List.mem_cons_of_mem _ hw, z⟩
      refine ⟨o :: os, rfl, ?_, ?_⟩
      · intro k hk
        cases o with
        | none =>
          rw [List.filterMap_cons_none (by rfl)] at hk
          exact ⟨up k (a1 k hk).1, (a1 k hk).2⟩
        | some k0 =>
          rw [List.filterMap_cons_some (b := k0) (by rfl)] at hk
          rcases List.mem_cons.mp hk with rfl | hk
          · have l : Least (Btw g (b - u.2) c g (b - u.1) c) (some k) := an.1
            obtain ⟨h0, z⟩ := (iff k).mp l.1
            exact ⟨⟨h0, u, by simp, z⟩, an.2 k rfl⟩
          · exact ⟨up k (a1 k hk).1, (a1 k hk).2⟩
      · rintro k ⟨h0, w, hw, z⟩
        rcases List.mem_cons.mp hw with rfl | hw
        · have hb := (iff k).mpr ⟨h0, z⟩
          cases o with
          | none => exact absurd hb (an.1 k)
          | some k0 =>
            have l : Least (Btw g (b - w.2) c g (b - w.1) c) (some k0) := an.1
            exact ⟨k0, by rw [List.filterMap_cons_some (b := k0) (by rfl)]; simp, l.2 k hb⟩
        · obtain ⟨k', hk', le⟩ := a2 k ⟨h0, w, hw, z⟩
          refine ⟨k', ?_, le⟩
          cases o with
          | none => rw [List.filterMap_cons_none (by rfl)]; exact hk'
          | some k0 => rw [List.filterMap_cons_some (b := k0) (by rfl)]; exact List.mem_cons_of_mem _ hk'
/-- the marks of a line at which the other one is within: what is asked -/
theorem asked_in {s a v f s' a' v' l h k : Int} (s1' : 1 ≤ s') (l0 : 0 ≤ l) (lh : l ≤ h) (hs : h ≤ s') (v1 : 1 ≤ v) : Asked ((spansL l h s').map fun u => (v * u.1, v * u.2)) (v' * (2 * s)) (a' * v + v' * (f - a)) (2 * s' * v) k ↔ 0 ≤ k ∧ InR s' l h (v' * (2 * s) * k + (a' * v + v' * (f - a))) v := by
  rw [in_spans s1' l0 lh hs v1]
  unfold Asked
  refine and_congr_right fun k0 => ?_
  constructor
  · rintro ⟨w, hw, j, h1, h2⟩
    obtain ⟨u, hu, rfl⟩ := List.mem_map.mp hw
    exact ⟨u, hu, j, by rw [Int.mul_comm u.1]; exact h1, by rw [Int.mul_comm u.2]; exact h2⟩
  · rintro ⟨u, hu, j, h1, h2⟩
    exact ⟨(v * u.1, v * u.2), List.mem_map.mpr ⟨u, hu, rfl⟩, j, by show v * u.1 ≤ _; rw [Int.mul_comm v]; exact h1, by show _ ≤ v * u.2; rw [Int.mul_comm v]; exact h2⟩
end LW
namespace LW
open PySem PySem.Spec PyProof.Rows L2 DL
def m__first_time (W : WD) : MS :=
  mSeq (mIf (mT (mOp2 opEq (mOp2 opIx (mVar 0) (mC (.int 2))) (mC (.int 0)))) (mRet (mrOf (mC .none))) (mNext))
  (mSeq (mAsg (mCall D__question W (mCons (mVar 0) (mCons (mVar 1) (mCons (mVar 2) (mCons (mVar 3) (mCons (mVar 4) (mNil))))))) (mgTup 4 (mgCons (mgName 5) (mgCons (mgName 6) (mgCons (mgName 7) (mgCons (mgName 8) (mgNil)))))))
  (mSeq (mAsg (mLc (miSeq (mVar 8)) (mgTup 2 (mgCons (mgName 11) (mgCons (mgName 12) (mgNil)))) (mTYes) (mCall D_first_within wF (mCons (mVar 5) (mCons (mVar 6) (mCons (mVar 7) (mCons (mVar 11) (mCons (mVar 12) (mNil))))))) [11, 12]) (mgName 9))
  (mSeq (mAsg (mLc (miSeq (mVar 9)) (mgName 13) (mT (mOp2 opNotN2 (mVar 13) (mC .none))) (mVar 13) [13]) (mgName 10))
  (mSeq (mIf (mT (mOp2 opEq (mCallB bLen (mCons (mVar 10) (mNil))) (mC (.int 0)))) (mRet (mrOf (mC .none))) (mNext))
  (mRet (mrOf (mCall D_mark_time W (mCons (mVar 0) (mCons (mOp2 opAdd (mVar 1) (mOp2 opMul (mOp2 opMul (mC (.int 2)) (mOp2 opIx (mVar 0) (mC (.int 0)))) (mCallB bMinL (mCons (mVar 10) (mNil))))) (mNil))))))))))
def ftD (s a v f : Int) : Option Int → PyData
  | none => .none
  | some k => fracD (f + 2 * s * k - a) v
theorem ftD_T (s a v f : Int) (o : Option Int) : ftD s a v f o = oT (o.map fun k => lowP (f + 2 * s * k - a) v) := by
  cases o <;> rfl
def D__first_time : PSpec := fun ds Q _ => ∃ s a v f s' a' v' l h, ds = [.tuple [.int s, .int a, .int v], .int f, .tuple [.int s', .int a', .int v'], .int l, .int h] ∧ (1 ≤ s ∧ 1 ≤ s' ∧ 0 ≤ v ∧ 0 ≤ l ∧ l ≤ h ∧ h ≤ s') ∧ (sz 700 s ∧ sz 700 a ∧ sz 700 v ∧ sz 800 f ∧ sz 700 s' ∧ sz 700 a' ∧ sz 700 v') ∧
  (v = 0 → Q (.va .none)) ∧ (0 < v → ∀ o, Least (fun k => 0 ≤ k ∧ InR s' l h (v' * (2 * s) * k + (a' * v + v' * (f - a))) v) o → (∀ k, o = some k → k ≤ 2 * (2 * s' * v * (2 * s' * v))) → Q (.va (ftD s a v f o)))
theorem len__first_time : ∀ ds Q E, D__first_time ds Q E → ds.length = 5 := by
  rintro _ Q E ⟨s, a, v, f, s', a', v', l, h, rfl, _⟩
  rfl
theorem rd__first_time : ∀ ds Q E, D__first_time ds Q E → m__first_time (fun c _ => E c) (endP Q) (slots0 14 ds) := by
  rintro _ Q E ⟨s, a, v, f, s', a', v', l, h, rfl, ⟨s1, s1', v0, l0, lh, hs⟩, ⟨zs, za, zv, zf, zs', za', zv'⟩, q0, q1⟩
  unfold m__first_time
  have s2 : sz 2 2 := by unfold sz; decide
  have zl : sz 700 l := sz_le zs' (by omega)
  have zh : sz 700 h := sz_le zs' (by omega)
  by_cases cv : v = 0
  · refine seq_step fun N hN => ?_
    refine if_run true (fun Q h => ?_) (fun _ => ?_) (fun hc => by cases hc)
    · walk_at "rdn"
      rw [decide_eq_true cv]
      exact h
    walk_at "rdn"
    exact q0 cv
  have vp : 0 < v := by omega
  have q := q1 vp
  clear q0 q1
  refine seq_step fun N hN => ?_
  refine if_run false (fun Q h => ?_) (fun hc => by cases hc) (fun _ => ?_)
  · walk_at "rdn"
    rw [decide_eq_false cv]
    exact h
  walk_at "rdn"
  subst hN
  refine seq_step fun N hN => ?_
  walk_at "rdn"
  refine ⟨s, a, v, f, s', a', v', l, h, rfl, zs, za, zv, zf, zs', za', zv', zl, zh, _, rfl, ?_⟩
  walk_at "rdn"
  subst hN
  have sp := spans_sz zl zh zs'
  have sl := spans_len l h s'
  have iff := fun k => asked_in (s := s) (a := a) (f := f) (a' := a') (v' := v') (k := k) s1' l0 lh hs (show 1 ≤ v by omega)
  have em : ((spansL l h s').map fun u => prD (v * u.1, v * u.2)) = ((spansL l h s').map fun u => (v * u.1, v * u.2)).map prD := by rw [List.map_map]; rfl
  rw [em]
  have sp2 : ∀ u ∈ (spansL l h s').map fun u => (v * u.1, v * u.2), sz 1410 u.1 ∧ sz 1410 u.2 := by
    intro w hw
    obtain ⟨u, hu, rfl⟩ := List.mem_map.mp hw
    exact ⟨sz_mul zv (sp u hu).1, sz_mul zv (sp u hu).2⟩
  have sl2 : ((spansL l h s').map fun u => (v * u.1, v * u.2)).length ≤ 2 := by rw [List.length_map]; exact sl
  generalize hR : ((spansL l h s').map fun u => (v * u.1, v * u.2)) = R at *
  have zg : sz 1402 (v' * (2 * s)) := sz_mul zv' (sz_mul s2 zs)
  have zb : sz 1600 (a' * v + v' * (f - a)) := sz_mono (sz_add (sz_mono (sz_mul za' zv) (l := 1501) (by decide)) (sz_mul zv' (sz_sub zf (sz_mono za (by decide))))) (by decide)
  have zc : sz 1402 (2 * s' * v) := sz_mul (sz_mul s2 zs') zv
  have c1 : 1 ≤ 2 * s' * v := Int.mul_pos (by omega) vp
  generalize hg : v' * (2 * s) = g at *
  generalize hb : a' * v + v' * (f - a) = b at *
  generalize hc : 2 * s' * v = c at *
  refine seq_step fun N hN => ?_
  walk_at "rdn"
  refine ⟨rfl, ?_⟩
  refine lcL_rel (fun st => ∃ x y, st = [.va (.tuple [.int s, .int a, .int v]), .va (.int f), .va (.tuple [.int s', .int a', .int v']), .va (.int l), .va (.int h), .va (.int g), .va (.int b), .va (.int c), .va (.list (R.map prD)), .no, .no, x, y, .no]) (fun d y => ∃ (u : Int × Int) (o : Option Int), d = prD u ∧ y = optD o ∧ (wit g b c u.1 u.2).Ans o) (R.map prD) ?_ _ [] ⟨_, _, rfl⟩ ?_ ?_
  · rintro d hd st ⟨x, y, rfl⟩ Y hY
    obtain ⟨u, hu, rfl⟩ := List.mem_map.mp hd
    obtain ⟨u1, u2⟩ := sp2 u hu
    simp only [swipe]
    have e : prD u = .tuple [.int u.1, .int u.2] := rfl
    rw [e]
    walk_at "rdn"
    exact ⟨g, b, c, u.1, u.2, rfl, c1, sz_mono zg (by decide), sz_mono zb (by decide), sz_mono zc (by decide), sz_mono u1 (by decide), sz_mono u2 (by decide), fun o an => ⟨_, rfl, hY _ _ ⟨u, o, rfl, rfl, an⟩ ⟨_, _, rfl⟩⟩⟩
  · rw [List.length_map]
    simp only [List.length_nil]
    omega
  rintro st ys ⟨x, y, rfl⟩ pr
  obtain ⟨os, rfl, a1, a2⟩ := paired_asked pr
  have ml : Least (Asked R g b c) (minI (os.filterMap id)) := min_least (fun k hk => (a1 k hk).1) a2
  have lo : os.length ≤ 1000 := by
    have h1 : (os.map optD).length = (R.map prD).length := pr.length.symm
    rw [List.length_map, List.length_map] at h1
    omega
  simp only [sback, List.nil_append]
  walk_at "rdn"
  subst hN
  refine seq_step fun N hN => ?_
  walk_at "rdn"
  refine ⟨rfl, ?_⟩
  refine lcL_run (fun st => ∃ x, st = [.va (.tuple [.int s, .int a, .int v]), .va (.int f), .va (.tuple [.int s', .int a', .int v']), .va (.int l), .va (.int h), .va (.int g), .va (.int b), .va (.int c), .va (.list (R.map prD)), .va (.list (os.map optD)), .no, .no, .no, x]) kSome (os.map optD) ?_ _ [] ⟨_, rfl⟩ ?_ ?_
  · rintro d hd st ⟨x, rfl⟩ Y N' hY hN'
    obtain ⟨o, ho, rfl⟩ := List.mem_map.mp hd
    simp only [swipe]
    cases o with
    | none =>
      unfold optD
      walk_at "rdn"
      exact hN' _ rfl ⟨_, rfl⟩
    | some k =>
      unfold optD
      walk_at "rdn"
      exact hY _ _ rfl ⟨_, rfl⟩
  · rw [List.length_map]
    simp only [List.length_nil]
    omega
  rintro st ⟨x, rfl⟩
  rw [List.nil_append, some_rows]
  simp only [sback]
  walk_at "rdn"
  subst hN
  generalize hK : os.filterMap id = K at *
  have fin : Q (.va (ftD s a v f (minI K))) := by
    refine q _ ?_ ?_
    · exact least_iff (fun k => iff k) ml
    · intro k hk
      exact (a1 k (by
        cases K with
        | nil => cases hk
        | cons n ns => cases hk; exact (foldl_min ns n).1)).2
  cases hm : minI K with
  | none =>
    have e : K = [] := by
      cases K with
      | nil => rfl
      | cons n ns => cases hm
    subst e
    refine seq_step fun N hN => ?_
    refine if_run true (fun Q h => ?_) (fun _ => ?_) (fun hc => by cases hc)
    · walk_at "rdn"
      exact h
    walk_at "rdn"
    exact fin
  | some k =>
    have e : ((K.map PyData.int).length : Int) ≠ 0 := by
      cases K with
      | nil => cases hm
      | cons n ns => simp; omega
    have kb : 0 ≤ k ∧ k ≤ 2 * (c * c) := by
      rw [hm] at ml
      exact ⟨ml.1.1, (a1 k (by
        cases K with
        | nil => cases hm
        | cons n ns => cases hm; exact (foldl_min ns n).1)).2⟩
    have zk : sz 2810 k := sz_le (sz_mono (sz_mul s2 (sz_mul zc zc)) (by decide)) (by omega)
    refine seq_step fun N hN => ?_
    refine if_run false (fun Q h => ?_) (fun hc => by cases hc) (fun _ => ?_)
    · walk_at "rdn"
      rw [decide_eq_false e]
      exact h
    walk_at "rdn"
    subst hN
    walk_at "rdn"
    rw [hm] at fin
    refine ⟨_, opMul_ok s2 zs (by decide), _, minL_ints hm, _, opMul_ok (sz_mul s2 zs) zk (by decide), ?_⟩
    exact ⟨_, rfl, s, a, v, _, rfl, by omega, sz_mono zv (by decide), _, rfl, fin⟩
section
variable {P : Program} {w : World} {K : PySem.W.Frag} {mg : Str → Option Value} {base : Heap} {CN : String → Option Addr}
theorem ok__first_time {f : Addr} {fd : FuncData} (F : Fun K "_first_time" "_first_time" s__first_time f fd) (g : G K mg CN) (c__question : CalP P w K mg base CN 2 "_question" D__question) (c_first_within : CalP P w K mg base CN 3 "first_within" D_first_within) (c_mark_time : CalP P w K mg base CN 2 "mark_time" D_mark_time) : FnG P w K mg base 4 f fd ["line", "first", "other", "low", "high"] (spP K CN D__first_time) := by
  have sc := sc__first_time
  exact fun_okP (m := m__first_time) F sc (by decide) len__first_time (fun cdv A outer s H E C W hw hr tk =>
    (pds_cons (pds_if (pdt_cmp (or_eqD (RoomG.u64 hr)) rl_eq (pd_ix ix_seq rl_ix (dv 0) pd_int) pd_int (nomark _)) (pds_one (pds_ret (pdr_of pd_non))) pds_nil)
    (pds_cons (pds_asg (ps_asg (pd_call c__question hr (by decide) tk (pda_cons (dv 0) (pda_cons (dv 1) (pda_cons (dv 2) (pda_cons (dv 3) (pda_cons (dv 4) pda_nil)))))) (pdg_tup rfl (gcons (dg 5 sc.nd) (gcons (dg 6 sc.nd) (gcons (dg 7 sc.nd) (gcons (dg 8 sc.nd) pdgs_nil)))))))
    (pds_cons (pds_setLc (ps_setLc (i := 9) (own := [("least", 11), ("greatest", 12)]) rfl sc.nd rfl rfl rfl (pdi_seq (dv 8)) (blkOk_by (N := ["line", "first", "other", "low", "high", "grow", "begin", "circle", "ranges", "found", "indexes", "least", "greatest", "index"]) (sc := (defScope s__first_time)) (by decide +kernel)) (fun _ _ _ _ _ => (pdgv_tup rfl (gvcons (dgv 11 (vs := [11, 12]) sc.nd) (gvcons (dgv 12 (vs := [11, 12]) sc.nd) pdgsv_nil)))) (fun _ _ _ _ _ => pdts_nil) (fun _ _ _ _ _ => (pd_call c_first_within hr (by decide) takesF (pda_cons (dv 5) (pda_cons (dv 6) (pda_cons (dv 7) (pda_cons (dv 11) (pda_cons (dv 12) pda_nil)))))))))
    (pds_cons (pds_setLc (ps_setLc (i := 10) (own := [("index", 13)]) rfl sc.nd rfl rfl rfl (pdi_seq (dv 9)) (blkOk_by (N := ["line", "first", "other", "low", "high", "grow", "begin", "circle", "ranges", "found", "indexes", "least", "greatest", "index"]) (sc := (defScope s__first_time)) (by decide +kernel)) (fun _ _ _ _ _ => (dgv 13 (vs := [13]) sc.nd)) (fun _ _ _ _ _ => (pdts_one (pdt_cmp op_notN rl_notN (dv 13) pd_non (nomark _)))) (fun _ _ _ _ _ => (dv 13))))
    (pds_cons (pds_if (pdt_cmp (or_eqD (RoomG.u64 hr)) rl_eq (pd_callB cr_len rc_len g.b_len (by decide +kernel) (pda_cons (dv 10) pda_nil)) pd_int (nomark _)) (pds_one (pds_ret (pdr_of pd_non))) pds_nil)
    (pds_one (pds_ret (pdr_of (pd_call c_mark_time hr (by decide) tk (pda_cons (dv 0) (pda_cons (pd_op or_add rl_add (dv 1) (pd_op or_mul rl_mul (pd_op or_mul rl_mul pd_int (pd_ix ix_seq rl_ix (dv 0) pd_int)) (pd_callB (cr_min rfl) rc_minL g.b_min (by decide +kernel) (pda_cons (dv 10) pda_nil)))) pda_nil)))))))))))) rd__first_time
end
end LW
namespace LW
open PySem PySem.Spec PyProof.Rows L2 DL
/-- the least time from 0 on, in lowest terms, or none -/
def LeastT (M : Int × Int → Prop) : Option (Int × Int) → Prop
  | none => ∀ u : Int × Int, 1 ≤ u.2 → 0 ≤ u.1 → ¬ M u
  | some t => 1 ≤ t.2 ∧ 0 ≤ t.1 ∧ Nat.gcd t.1.natAbs t.2.natAbs = 1 ∧ M t ∧ ∀ u : Int × Int, 1 ≤ u.2 → 0 ≤ u.1 → M u → t.1 * u.2 ≤ u.1 * t.2
theorem leastT_iff {M N : Int × Int → Prop} {o : Option (Int × Int)} (h : LeastT M o) (e : ∀ u : Int × Int, 1 ≤ u.2 → (M u ↔ N u)) : LeastT N o := by
  cases o with
  | none => exact fun u u1 n0 z => h u u1 n0 ((e u u1).mpr z)
  | some t =>
    obtain ⟨p, t0, c, m, l⟩ := h
    exact ⟨p, t0, c, (e t p).mp m, fun u u1 n0 z => l u u1 n0 ((e u u1).mpr z)⟩
/-- the line comes to one of its marks while the other one is within -/
def FirstM (s a v f s' a' v' l h : Int) (u : Int × Int) : Prop := 0 < v ∧ (∃ k : Int, 0 ≤ k ∧ a * u.2 + v * u.1 = (f + 2 * s * k) * u.2) ∧ InR s' l h (a' * u.2 + v' * u.1) u.2
theorem foldI_mul {s z m c : Int} (c1 : 1 ≤ c) : foldI s (z * c) (m * c) = foldI s z m * c := by
  have e1 : 2 * s * (m * c) = c * (2 * s * m) := by grind
  have e2 : z * c = c * z := Int.mul_comm _ _
  have e3 : s * (m * c) = s * m * c := (Int.mul_assoc _ _ _).symm
  unfold foldI
  rw [e1, e2, Int.mul_emod_mul_of_pos _ _ (show 0 < c by omega), e3]
  generalize z % (2 * s * m) = r
  have iff : c * r ≤ s * m * c ↔ r ≤ s * m := by
    rw [Int.mul_comm c r]
    exact ⟨fun h => Int.le_of_mul_le_mul_right h (by omega), fun h => Int.mul_le_mul_of_nonneg_right h (by omega)⟩
  by_cases h : r ≤ s * m
  · rw [if_pos h, if_pos (iff.mpr h), Int.mul_comm]
  · rw [if_neg h, if_neg (fun z => h (iff.mp z)), Int.sub_mul, Int.mul_comm c r, Int.mul_comm c]
theorem inR_mul {s l h z m c : Int} (c1 : 1 ≤ c) : InR s l h (z * c) (m * c) ↔ InR s l h z m := by
  unfold InR
  rw [foldI_mul c1, ← Int.mul_assoc, ← Int.mul_assoc]
  exact ⟨fun z => ⟨Int.le_of_mul_le_mul_right z.1 (by omega), Int.le_of_mul_le_mul_right z.2 (by omega)⟩, fun z => ⟨Int.mul_le_mul_of_nonneg_right z.1 (by omega), Int.mul_le_mul_of_nonneg_right z.2 (by omega)⟩⟩
theorem inR_same {s l h a v : Int} {t u : Int × Int} (t1 : 1 ≤ t.2) (u1 : 1 ≤ u.2) (e : t.1 * u.2 = u.1 * t.2) : InR s l h (a * t.2 + v * t.1) t.2 ↔ InR s l h (a * u.2 + v * u.1) u.2 := by
  have h1 := inR_mul (s := s) (l := l) (h := h) (z := a * t.2 + v * t.1) (m := t.2) u1
  have h2 := inR_mul (s := s) (l := l) (h := h) (z := a * u.2 + v * u.1) (m := u.2) t1
  have e1 : (a * t.2 + v * t.1) * u.2 = (a * u.2 + v * u.1) * t.2 := by grind
  rw [e1, Int.mul_comm t.2 u.2] at h1
  exact h1.symm.trans h2
theorem frac_le {a b c : Int × Int} (ha : 1 ≤ a.2) (hb : 1 ≤ b.2) (hc : 1 ≤ c.2) (h1 : a.1 * b.2 ≤ b.1 * a.2) (h2 : b.1 * c.2 ≤ c.1 * b.2) : a.1 * c.2 ≤ c.1 * a.2 := by
  refine Int.le_of_mul_le_mul_left (a := b.2) ?_ (by omega)
  have e1 : b.2 * (a.1 * c.2) = (a.1 * b.2) * c.2 := by simp only [Int.mul_assoc, Int.mul_comm, Int.mul_left_comm]
  have e2 : (a.1 * b.2) * c.2 ≤ (b.1 * a.2) * c.2 := Int.mul_le_mul_of_nonneg_right h1 (by omega)
  have e3 : (b.1 * a.2) * c.2 = (b.1 * c.2) * a.2 := by simp only [Int.mul_assoc, Int.mul_comm, Int.mul_left_comm]
  have e4 : (b.1 * c.2) * a.2 ≤ (c.1 * b.2) * a.2 := Int.mul_le_mul_of_nonneg_right h2 (by omega)
  have e5 : (c.1 * b.2) * a.2 = b.2 * (c.1 * a.2) := by simp only [Int.mul_assoc, Int.mul_comm, Int.mul_left_comm]
  omega
theorem first_LeastT {s a v f s' a' v' l h : Int} {o : Option Int} (s1 : 1 ≤ s) (v1 : 0 < v) (fa : a ≤ f) (ho : Least (fun k => 0 ≤ k ∧ InR s' l h (v' * (2 * s) * k + (a' * v + v' * (f - a))) v) o) :
    LeastT (FirstM s a v f s' a' v' l h) (o.map fun k => lowP (f + 2 * s * k - a) v) := by
  have num : ∀ k : Int, a' * v + v' * (f + 2 * s * k - a) = v' * (2 * s) * k + (a' * v + v' * (f - a)) := fun k => by grind
  have back : ∀ u : Int × Int, 1 ≤ u.2 → FirstM s a v f s' a' v' l h u → ∃ k : Int, (0 ≤ k ∧ InR s' l h (v' * (2 * s) * k + (a' * v + v' * (f - a))) v) ∧ u.1 * v = (f + 2 * s * k - a) * u.2 := by
    rintro u u1 ⟨-, ⟨k, k0, hk⟩, hin⟩
    have e : u.1 * v = (f + 2 * s * k - a) * u.2 := by grind
    refine ⟨k, ⟨k0, ?_⟩, e⟩
    rw [← num]
    exact (inR_same (t := (f + 2 * s * k - a, v)) (u := u) (show 1 ≤ v by omega) u1 e.symm).mpr hin
  cases o with
  | none =>
    intro u u1 n0 hu
    obtain ⟨k, hk, -⟩ := back u u1 hu
    exact ho k hk
  | some k =>
    obtain ⟨⟨k0, hin⟩, lk⟩ := ho
    have sk := Int.mul_nonneg (show 0 ≤ 2 * s by omega) k0
    obtain ⟨e, p, c⟩ := lowP_facts (t := f + 2 * s * k - a) (b := v) (by omega)
    show LeastT _ (some (lowP (f + 2 * s * k - a) v))
    generalize lowP (f + 2 * s * k - a) v = t at *
    have t0 : 0 ≤ t.1 := nonneg_of_mul (c := v) v1 (by rw [Int.mul_comm, e]; exact Int.mul_nonneg (by omega) (by omega))
    refine ⟨p, t0, c, ⟨v1, ⟨k, k0, by grind⟩, ?_⟩, fun u u1 n0 hu => ?_⟩
    · rw [← num] at hin
      exact (inR_same (t := (f + 2 * s * k - a, v)) (u := t) (show 1 ≤ v by omega) p e.symm).mp hin
    · obtain ⟨k', hk', e'⟩ := back u u1 hu
      have le := lk k' hk'
      have m := Int.mul_le_mul_of_nonneg_left le (show 0 ≤ 2 * s by omega)
      refine frac_le (a := t) (b := (f + 2 * s * k - a, v)) (c := u) p (show 1 ≤ v by omega) u1 (Int.le_of_eq e) ?_
      show (f + 2 * s * k - a) * u.2 ≤ u.1 * v
      rw [e']
      exact Int.mul_le_mul_of_nonneg_right (by omega) (by omega)
/-- the least of the least times -/
theorem earl_least {α : Type} {M : α → Int × Int → Prop} {is : List α} {os : List (Option (Int × Int))} (h : Paired (fun i o => LeastT (M i) o) is os) : LeastT (fun u => ∃ i ∈ is, M i u) (earl os) := by
  have mem : ∀ {is : List α} {os : List (Option (Int × Int))}, Paired (fun i o => LeastT (M i) o) is os → ∀ o ∈ os, ∃ i ∈ is, LeastT (M i) o := by
    intro is os h
    induction h with
    | nil => intro o ho; cases ho
    | cons h _ ih =>
      intro o ho
      rcases List.mem_cons.mp ho with rfl | ho
      · exact ⟨_, by simp, h⟩
      · obtain ⟨i, hi, z⟩ := ih o ho
        exact ⟨i, List.mem_cons_of_mem _ hi, z⟩
  have mem2 : ∀ {is : List α} {os : List (Option (Int × Int))}, Paired (fun i o => LeastT (M i) o) is os → ∀ i ∈ is, ∃ o ∈ os, LeastT (M i) o := by
    intro is os h
    induction h with
    | nil => intro o ho; cases ho
    | cons h _ ih =>
      intro i hi
      rcases List.mem_cons.mp hi with rfl | hi
      · exact ⟨_, by simp, h⟩
      · obtain ⟨o, ho, z⟩ := ih i hi
        exact ⟨o, List.mem_cons_of_mem _ ho, z⟩
  have pos : ∀ t, some t ∈ os → 1 ≤ t.2 := fun t ht => by
    obtain ⟨i, -, z⟩ := mem h _ ht
    exact z.1
  have upper : ∀ u : Int × Int, 1 ≤ u.2 → 0 ≤ u.1 → (∃ i ∈ is, M i u) → ∃ r, earl os = some r ∧ r.1 * u.2 ≤ u.1 * r.2 := by
    rintro u u1 n0 ⟨i, hi, hu⟩
    obtain ⟨o, ho, z⟩ := mem2 h i hi
    cases o with
    | none => exact absurd hu (z u u1 n0)
    | some t =>
      obtain ⟨p, t0, c, m, l⟩ := z
      obtain ⟨r, hr, le⟩ := earl_le pos ho
      exact ⟨r, hr, frac_le (pos r (earl_mem hr)) p u1 le (l u u1 n0 hu)⟩
  cases he : earl os with
  | none =>
    intro u u1 n0 hu
    obtain ⟨r, hr, -⟩ := upper u u1 n0 hu
    rw [he] at hr
    cases hr
  | some r =>
    obtain ⟨i, hi, p, r0, c, m, -⟩ := mem h _ (earl_mem he)
    refine ⟨p, r0, c, ⟨i, hi, m⟩, fun u u1 n0 hu => ?_⟩
    obtain ⟨r', hr, le⟩ := upper u u1 n0 hu
    rw [he] at hr
    cases hr
    exact le
/-- what is within at u and has come to its low side is within at all times from there to u -/
theorem within_from {s l h A V j : Int} {w t u : Int × Int} (s1 : 1 ≤ s) (l0 : 0 ≤ l) (lh : l ≤ h) (hs : h ≤ s) (V0 : 0 ≤ V) (hw : w ∈ spansL l h s) (t1 : 1 ≤ t.2) (u1 : 1 ≤ u.2) (h2 : A * u.2 + V * u.1 - 2 * s * u.2 * j ≤ w.2 * u.2) (le : t.1 * u.2 ≤ u.1 * t.2) (lo : (w.1 + 2 * s * j) * t.2 ≤ A * t.2 + V * t.1) : InR s l h (A * t.2 + V * t.1) t.2 := by
  rw [in_spans s1 l0 lh hs t1]
  refine ⟨w, hw, j, by grind, ?_⟩
  refine Int.le_of_mul_le_mul_right (a := u.2) ?_ (by omega)
  have m := Int.mul_le_mul_of_nonneg_left le V0
  have m2 := Int.mul_le_mul_of_nonneg_right h2 (show 0 ≤ t.2 by omega)
  have e1 : (A * t.2 + V * t.1 - 2 * s * t.2 * j) * u.2 = A * t.2 * u.2 + V * (t.1 * u.2) - 2 * s * t.2 * j * u.2 := by grind
  have e2 : (A * u.2 + V * u.1 - 2 * s * u.2 * j) * t.2 = A * t.2 * u.2 + V * (u.1 * t.2) - 2 * s * t.2 * j * u.2 := by grind
  have e3 : w.2 * t.2 * u.2 = w.2 * u.2 * t.2 := by simp only [Int.mul_assoc, Int.mul_comm, Int.mul_left_comm]
  omega
/-- a first mark from the start on, and all others -/
theorem mark_at {s A w j : Int} (s1 : 1 ≤ s) (h : A ≤ w + 2 * s * j) : ∃ k : Int, 0 ≤ k ∧ A + (w - A) % (2 * s) + 2 * s * k = w + 2 * s * j := by
  have e := Int.emod_add_mul_ediv (w - A) (2 * s)
  have r1 := Int.emod_lt_of_pos (w - A) (show 0 < 2 * s by omega)
  refine ⟨(w - A) / (2 * s) + j, ?_, by rw [Int.mul_add]; omega⟩
  refine Classical.byContradiction fun z => ?_
  have := Int.mul_le_mul_of_nonneg_left (show (w - A) / (2 * s) + j ≤ -1 by omega) (show 0 ≤ 2 * s by omega)
  rw [Int.mul_add] at this
  omega
theorem enter {s A V s' l' h' A' V' j j' : Int} {w w' u : Int × Int} (s1 : 1 ≤ s) (V0 : 0 ≤ V) (s1' : 1 ≤ s') (l0' : 0 ≤ l') (lh' : l' ≤ h') (hs' : h' ≤ s') (V0' : 0 ≤ V') (hw' : w' ∈ spansL l' h' s') (u1 : 1 ≤ u.2)
    (a1 : w.1 * u.2 ≤ A * u.2 + V * u.1 - 2 * s * u.2 * j) (b2 : A' * u.2 + V' * u.1 - 2 * s' * u.2 * j' ≤ w'.2 * u.2) (g0 : 0 < w.1 + 2 * s * j - A) (lo : (w'.1 + 2 * s' * j') * V ≤ A' * V + V' * (w.1 + 2 * s * j - A)) :
    FirstM s A V (A + (w.1 - A) % (2 * s)) s' A' V' l' h' (w.1 + 2 * s * j - A, V) ∧ 0 < V ∧ (w.1 + 2 * s * j - A) * u.2 ≤ u.1 * V := by
  have le : (w.1 + 2 * s * j - A) * u.2 ≤ u.1 * V := by grind
  have Vp : 0 < V := by
    refine Classical.byContradiction fun z => ?_
    have : V = 0 := by omega
    rw [this, Int.mul_zero] at le
    have := Int.mul_pos g0 (show 0 < u.2 by omega)
    omega
  refine ⟨⟨Vp, ?_, within_from (t := (w.1 + 2 * s * j - A, V)) s1' l0' lh' hs' V0' hw' (show 1 ≤ V by omega) u1 b2 le lo⟩, Vp, le⟩
  obtain ⟨k, k0, hk⟩ := mark_at (A := A) (w := w.1) (j := j) s1 (by omega)
  refine ⟨k, k0, ?_⟩
  show A * V + V * (w.1 + 2 * s * j - A) = _ * V
  rw [hk]
  grind
theorem span_le {l h s : Int} {w : Int × Int} (l0 : 0 ≤ l) (lh : l ≤ h) (hs : h ≤ s) (hw : w ∈ spansL l h s) : w.1 ≤ w.2 := by
  unfold spansL at hw
  split at hw
  · simp only [List.mem_singleton] at hw
    subst hw
    show -h ≤ h
    omega
  · split at hw
    · simp only [List.mem_singleton] at hw
      subst hw
      show l ≤ 2 * s - l
      omega
    · simp only [List.mem_cons, List.not_mem_nil, or_false] at hw
      rcases hw with rfl | rfl
      · show -h ≤ -l
        omega
      · exact lh
/-- a line at a mark where a range begins is within -/
theorem mark_in {s l h A V k : Int} {w u : Int × Int} (s1 : 1 ≤ s) (l0 : 0 ≤ l) (lh : l ≤ h) (hs : h ≤ s) (hw : w ∈ spansL l h s) (u1 : 1 ≤ u.2) (e : A * u.2 + V * u.1 = (A + (w.1 - A) % (2 * s) + 2 * s * k) * u.2) : InR s l h (A * u.2 + V * u.1) u.2 := by
  rw [in_spans s1 l0 lh hs u1]
  have r := Int.emod_add_mul_ediv (w.1 - A) (2 * s)
  have sl := span_le l0 lh hs hw
  refine ⟨w, hw, k - (w.1 - A) / (2 * s), ?_⟩
  have e1 : A * u.2 + V * u.1 - 2 * s * u.2 * (k - (w.1 - A) / (2 * s)) = w.1 * u.2 := by
    rw [e]
    generalize (w.1 - A) / (2 * s) = q at *
    have : A + (w.1 - A) % (2 * s) = w.1 - 2 * s * q := by omega
    rw [this]
    grind
  rw [e1]
  exact ⟨Int.le_refl _, Int.mul_le_mul_of_nonneg_right sl (by omega)⟩
/-- one line comes in while the other one is within -/
def EntM (s l h A V s' l' h' A' V' : Int) (u : Int × Int) : Prop := ∃ w ∈ spansL l h s, FirstM s A V (A + (w.1 - A) % (2 * s)) s' A' V' l' h' u
theorem entry_in {s l h A V s' l' h' A' V' : Int} (s1 : 1 ≤ s) (l0 : 0 ≤ l) (lh : l ≤ h) (hs : h ≤ s) (s1' : 1 ≤ s') (l0' : 0 ≤ l') (lh' : l' ≤ h') (hs' : h' ≤ s') (u : Int × Int) (u1 : 1 ≤ u.2) : EntM s l h A V s' l' h' A' V' u ∨ EntM s' l' h' A' V' s l h A V u → InR s l h (A * u.2 + V * u.1) u.2 ∧ InR s' l' h' (A' * u.2 + V' * u.1) u.2 := by
  rintro (⟨w, hw, -, ⟨k, -, e⟩, z⟩ | ⟨w, hw, -, ⟨k, -, e⟩, z⟩)
  · exact ⟨mark_in s1 l0 lh hs hw u1 e, z⟩
  · exact ⟨z, mark_in s1' l0' lh' hs' hw u1 e⟩
theorem entry_ahead {s l h A V s' l' h' A' V' : Int} (s1 : 1 ≤ s) (l0 : 0 ≤ l) (lh : l ≤ h) (hs : h ≤ s) (V0 : 0 ≤ V) (s1' : 1 ≤ s') (l0' : 0 ≤ l') (lh' : l' ≤ h') (hs' : h' ≤ s') (V0' : 0 ≤ V') (out : ¬ (InR s l h A 1 ∧ InR s' l' h' A' 1)) : ∀ u : Int × Int, 1 ≤ u.2 → 0 ≤ u.1 → InR s l h (A * u.2 + V * u.1) u.2 ∧ InR s' l' h' (A' * u.2 + V' * u.1) u.2 → ∃ t : Int × Int, 1 ≤ t.2 ∧ 0 ≤ t.1 ∧ (EntM s l h A V s' l' h' A' V' t ∨ EntM s' l' h' A' V' s l h A V t) ∧ t.1 * u.2 ≤ u.1 * t.2 := by
  rintro u u1 n0 ⟨hx, hy⟩
  obtain ⟨w, hw, j, a1, a2⟩ := (in_spans s1 l0 lh hs u1).mp hx
  obtain ⟨w', hw', j', b1, b2⟩ := (in_spans s1' l0' lh' hs' u1).mp hy
  have stay : ∀ {s l h A V j : Int} {w : Int × Int}, 1 ≤ s → 0 ≤ l → l ≤ h → h ≤ s → 0 ≤ V → w ∈ spansL l h s → A * u.2 + V * u.1 - 2 * s * u.2 * j ≤ w.2 * u.2 → w.1 + 2 * s * j ≤ A → InR s l h A 1 := by
    intro s l h A V j w s1 l0 lh hs V0 hw a2 g
    have := within_from (t := (0, 1)) (A := A) (V := V) (j := j) s1 l0 lh hs V0 hw (by decide) u1 a2 (by show 0 * u.2 ≤ u.1 * 1; omega) (by show (w.1 + 2 * s * j) * 1 ≤ A * 1 + V * 0; omega)
    have e : A * ((0, 1) : Int × Int).2 + V * ((0, 1) : Int × Int).1 = A := by show A * 1 + V * 0 = A; omega
    rw [e] at this
    exact this
  by_cases gx : 0 < w.1 + 2 * s * j - A
  · by_cases gy : 0 < w'.1 + 2 * s' * j' - A'
    · by_cases c : (w'.1 + 2 * s' * j' - A') * V ≤ (w.1 + 2 * s * j - A) * V'
      · obtain ⟨f, vp, le⟩ := enter (w := w) (w' := w') (u := u) s1 V0 s1' l0' lh' hs' V0' hw' u1 a1 b2 gx (by grind)
        exact ⟨(w.1 + 2 * s * j - A, V), vp, Int.le_of_lt gx, .inl ⟨w, hw, f⟩, le⟩
      · obtain ⟨f, vp, le⟩ := enter (w := w') (w' := w) (u := u) s1' V0' s1 l0 lh hs V0 hw u1 b1 a2 gy (by grind)
        exact ⟨(w'.1 + 2 * s' * j' - A', V'), vp, Int.le_of_lt gy, .inr ⟨w', hw', f⟩, le⟩
    · have m1 := Int.mul_le_mul_of_nonneg_right (show w'.1 + 2 * s' * j' ≤ A' by omega) V0
      have m2 := Int.mul_nonneg V0' (Int.le_of_lt gx)
      obtain ⟨f, vp, le⟩ := enter (w := w) (w' := w') (u := u) s1 V0 s1' l0' lh' hs' V0' hw' u1 a1 b2 gx (by omega)
      exact ⟨(w.1 + 2 * s * j - A, V), vp, Int.le_of_lt gx, .inl ⟨w, hw, f⟩, le⟩
  · by_cases gy : 0 < w'.1 + 2 * s' * j' - A'
    · have m1 := Int.mul_le_mul_of_nonneg_right (show w.1 + 2 * s * j ≤ A by omega) V0'
      have m2 := Int.mul_nonneg V0 (Int.le_of_lt gy)
      obtain ⟨f, vp, le⟩ := enter (w := w') (w' := w) (u := u) s1' V0' s1 l0 lh hs V0 hw u1 b1 a2 gy (by omega)
      exact ⟨(w'.1 + 2 * s' * j' - A', V'), vp, Int.le_of_lt gy, .inr ⟨w', hw', f⟩, le⟩
    · exact absurd ⟨stay s1 l0 lh hs V0 hw a2 (by omega), stay s1' l0' lh' hs' V0' hw' b2 (by omega)⟩ out
theorem entry_least {s l h A V s' l' h' A' V' : Int} {o : Option (Int × Int)} (s1 : 1 ≤ s) (l0 : 0 ≤ l) (lh : l ≤ h) (hs : h ≤ s) (V0 : 0 ≤ V) (s1' : 1 ≤ s') (l0' : 0 ≤ l') (lh' : l' ≤ h') (hs' : h' ≤ s') (V0' : 0 ≤ V') (out : ¬ (InR s l h A 1 ∧ InR s' l' h' A' 1))
    (H : LeastT (fun u => EntM s l h A V s' l' h' A' V' u ∨ EntM s' l' h' A' V' s l h A V u) o) : LeastT (fun u => InR s l h (A * u.2 + V * u.1) u.2 ∧ InR s' l' h' (A' * u.2 + V' * u.1) u.2) o := by
  have inn := entry_in (V := V) (A := A) (V' := V') (A' := A') s1 l0 lh hs s1' l0' lh' hs'
  have ahead := entry_ahead s1 l0 lh hs V0 s1' l0' lh' hs' V0' out
  cases o with
  | none =>
    intro u u1 n0 hu
    obtain ⟨t, t1, t0, ht, -⟩ := ahead u u1 n0 hu
    exact H t t1 t0 ht
  | some r =>
    obtain ⟨p, r0, c, m, l⟩ := H
    refine ⟨p, r0, c, inn r p m, fun u u1 n0 hu => ?_⟩
    obtain ⟨t, t1, t0, ht, le⟩ := ahead u u1 n0 hu
    exact frac_le p t1 u1 (l t t1 t0 ht) le
end LW
namespace LW
open PySem PySem.Spec PyProof.Rows L2 DL
def m__entry_times (W : WD) : MS :=
  mSeq (mAsg (mVar 0) (mgTup 3 (mgCons (mgName 6) (mgCons (mgName 7) (mgCons (mgName 8) (mgNil))))))
  (mSeq (mAsg (mLc (miSeq (mCall D_spans W (mCons (mVar 1) (mCons (mVar 2) (mCons (mVar 6) (mNil)))))) (mgTup 2 (mgCons (mgName 10) (mgCons (mgName 8) (mgNil)))) (mTYes) (mCall D_mark_from wF (mCons (mVar 7) (mCons (mVar 10) (mCons (mOp2 opMul (mC (.int 2)) (mVar 6)) (mNil))))) [10, 8]) (mgName 9))
  (mRet (mrOf (mLc (miSeq (mVar 9)) (mgName 11) (mTYes) (mCall D__first_time wF (mCons (mVar 0) (mCons (mVar 11) (mCons (mVar 3) (mCons (mVar 4) (mCons (mVar 5) (mNil))))))) [11]))))
theorem paired_ints {R : Int → Option (Int × Int) → Prop} : ∀ {L : List Int} {ys : List PyData}, Paired (fun d y => ∃ (w : Int) (o : Option (Int × Int)), d = .int w ∧ y = oT o ∧ R w o) (L.map PyData.int) ys → ∃ os, ys = os.map oT ∧ Paired R L os
  | [], ys, h => by
    cases h
    exact ⟨[], rfl, .nil⟩
  | u :: L, ys, h => by
    rw [List.map_cons] at h
    cases h with
    | cons h1 h2 =>
      obtain ⟨w, o, e, rfl, r⟩ := h1
      cases e
      obtain ⟨os, rfl, p⟩ := paired_ints h2
      exact ⟨o :: os, rfl, .cons r p⟩
def kFirst (a s : Int) : PyData → Option PyData
  | .tuple [.int w, _] => some (.int (a + (w - a) % (2 * s)))
  | _ => none
theorem first_rows (a s : Int) (l : List (Int × Int)) : (l.map prD).filterMap (kFirst a s) = (l.map fun u => a + (u.1 - a) % (2 * s)).map .int := by
  induction l with
  | nil => rfl
  | cons u l ih => rw [List.map_cons, List.filterMap_cons_some (f := kFirst a s) (a := prD u) (b := .int (a + (u.1 - a) % (2 * s))) rfl, ih]; rfl
def EntOk (s a v s' a' v' l' h' f : Int) (o : Option (Int × Int)) : Prop := LeastT (FirstM s a v f s' a' v' l' h') o ∧ szO 5000 o
def D__entry_times : PSpec := fun ds Q _ => ∃ s a v l h s' a' v' l' h', ds = [.tuple [.int s, .int a, .int v], .int l, .int h, .tuple [.int s', .int a', .int v'], .int l', .int h'] ∧ (1 ≤ s ∧ 0 ≤ v ∧ 1 ≤ s' ∧ 0 ≤ l' ∧ l' ≤ h' ∧ h' ≤ s') ∧ (sz 700 s ∧ sz 700 a ∧ sz 700 v ∧ sz 700 s' ∧ sz 700 a' ∧ sz 700 v') ∧
  ∀ os, Paired (EntOk s a v s' a' v' l' h') ((spansL l h s).map fun u => a + (u.1 - a) % (2 * s)) os → Q (.va (.list (os.map oT)))
theorem len__entry_times : ∀ ds Q E, D__entry_times ds Q E → ds.length = 6 := by
  rintro _ Q E ⟨s, a, v, l, h, s', a', v', l', h', rfl, _⟩
  rfl
theorem rd__entry_times : ∀ ds Q E, D__entry_times ds Q E → m__entry_times (fun c _ => E c) (endP Q) (slots0 12 ds) := by
  rintro _ Q E ⟨s, a, v, l, h, s', a', v', l', h', rfl, ⟨s1, v0, s1', l0, lh, hs⟩, ⟨zs, za, zv, zs', za', zv'⟩, q⟩
  unfold m__entry_times
  have s2 : sz 2 2 := by unfold sz; decide
  refine seq_step fun N hN => ?_
  walk_at "rdn"
  subst hN
  refine seq_step fun N hN => ?_
  walk_at "rdn"
  refine ⟨l, h, s, rfl, sz_mono zs (by decide), _, rfl, ?_⟩
  have sl := spans_len l h s
  generalize spansL l h s = L at *
  walk_at "rdn"
  refine ⟨rfl, ?_⟩
  refine lcL_run (fun st => ∃ x y, st = [.va (.tuple [.int s, .int a, .int v]), .va (.int l), .va (.int h), .va (.tuple [.int s', .int a', .int v']), .va (.int l'), .va (.int h'), .va (.int s), .va (.int a), x, .no, y, .no]) (kFirst a s) (L.map prD) ?_ _ [] ⟨_, _, rfl⟩ ?_ ?_
  · rintro d hd st ⟨x, y, rfl⟩ Y N' hY hN'
    obtain ⟨u, hu, rfl⟩ := List.mem_map.mp hd
    simp only [swipe]
    have e : prD u = .tuple [.int u.1, .int u.2] := rfl
    rw [e]
    walk_at "rdn"
    exact ⟨_, opMul_ok s2 zs (by decide), a, u.1, 2 * s, rfl, by omega, _, rfl, hY _ _ rfl ⟨_, _, rfl⟩⟩
  · rw [List.length_map]
    simp only [List.length_nil]
    omega
  rintro st ⟨x, y, rfl⟩
  rw [List.nil_append, first_rows]
  have fb : ∀ f ∈ L.map fun u => a + (u.1 - a) % (2 * s), a ≤ f ∧ sz 800 f := by
    intro f hf
    obtain ⟨u, -, rfl⟩ := List.mem_map.mp hf
    have r0 := Int.emod_nonneg (u.1 - a) (show 2 * s ≠ 0 by omega)
    exact ⟨by omega, sz_mono (sz_add (sz_mono za (l := 702) (by decide)) (sz_mod (sz_mul s2 zs) (by omega))) (by decide)⟩
  have fl : (L.map fun u => a + (u.1 - a) % (2 * s)).length ≤ 2 := by rw [List.length_map]; exact sl
  generalize (L.map fun u => a + (u.1 - a) % (2 * s)) = fs at *
  simp only [sback]
  walk_at "rdn"
  subst hN
  walk_at "rdn"
  refine ⟨rfl, ?_⟩
  refine lcL_rel (fun st => ∃ x y, st = [.va (.tuple [.int s, .int a, .int v]), .va (.int l), .va (.int h), .va (.tuple [.int s', .int a', .int v']), .va (.int l'), .va (.int h'), .va (.int s), .va (.int a), .va (.int v), .va (.list (fs.map .int)), x, y]) (fun d y => ∃ (w : Int) (o : Option (Int × Int)), d = .int w ∧ y = oT o ∧ EntOk s a v s' a' v' l' h' w o) (fs.map .int) ?_ _ [] ⟨_, _, rfl⟩ ?_ ?_
  · rintro d hd st ⟨x, y, rfl⟩ Y hY
    obtain ⟨f, hf, rfl⟩ := List.mem_map.mp hd
    obtain ⟨f1, f2⟩ := fb f hf
    simp only [swipe]
    walk_at "rdn"
    refine ⟨s, a, v, f, s', a', v', l', h', rfl, ⟨s1, s1', v0, l0, lh, hs⟩, ⟨zs, za, zv, f2, zs', za', zv'⟩, fun e => ⟨_, rfl, hY _ _ ⟨f, none, rfl, rfl, fun u u1 n0 z => ?_, fun t ht => nomatch ht⟩ ⟨_, _, rfl⟩⟩, fun vp o ho hk => ⟨_, rfl, hY _ _ ⟨f, _, rfl, ftD_T s a v f o, first_LeastT s1 vp f1 ho, ?_⟩ ⟨_, _, rfl⟩⟩⟩
    · have := z.1
      omega
    · intro t ht
      cases o with
      | none => cases ht
      | some k =>
        cases ht
        have k0 := ho.1.1
        have k1 := hk k rfl
        have zc : sz 1402 (2 * s' * v) := sz_mul (sz_mul s2 zs') zv
        have zk : sz 2810 k := sz_le (sz_mono (sz_mul s2 (sz_mul zc zc)) (by decide)) (by omega)
        have zt : sz 3600 (f + 2 * s * k - a) := sz_mono (sz_sub (sz_add (sz_mono f2 (l := 3512) (by decide)) (sz_mul (sz_mul s2 zs) zk)) (sz_mono za (l := 3513) (by decide))) (by decide)
        have := sz_lowP (t := f + 2 * s * k - a) (b := v) (by omega) zt zv
        exact ⟨sz_mono this.1 (by decide), sz_mono this.2 (by decide)⟩
  · rw [List.length_map]
    simp only [List.length_nil]
    omega
  rintro st ys ⟨x, y, rfl⟩ pr
  obtain ⟨os, rfl, p⟩ := paired_ints pr
  rw [List.nil_append]
  exact q os p
section
variable {P : Program} {w : World} {K : PySem.W.Frag} {mg : Str → Option Value} {base : Heap} {CN : String → Option Addr}
theorem ok__entry_times {f : Addr} {fd : FuncData} (F : Fun K "_entry_times" "_entry_times" s__entry_times f fd) (g : G K mg CN) (c__first_time : CalP P w K mg base CN 4 "_first_time" D__first_time) (c_mark_from : CalP P w K mg base CN 1 "mark_from" D_mark_from) (c_spans : CalP P w K mg base CN 1 "spans" D_spans) : FnG P w K mg base 5 f fd ["line", "least", "greatest", "other", "low", "high"] (spP K CN D__entry_times) := by
  have sc := sc__entry_times
  exact fun_okP (m := m__entry_times) F sc (by decide) len__entry_times (fun cdv A outer s H E C W hw hr tk =>
    (pds_cons (pds_asg (ps_asg (dv 0) (pdg_tup rfl (gcons (dg 6 sc.nd) (gcons (dg 7 sc.nd) (gcons (dg 8 sc.nd) pdgs_nil))))))
    (pds_cons (pds_setLc (ps_setLc (i := 9) (own := [("begin", 10), ("_", 8)]) rfl sc.nd rfl rfl rfl (pdi_seq (pd_call c_spans hr (by decide) tk (pda_cons (dv 1) (pda_cons (dv 2) (pda_cons (dv 6) pda_nil))))) (blkOk_by (N := ["line", "least", "greatest", "other", "low", "high", "side", "start", "_", "marks", "begin", "mark"]) (sc := (defScope s__entry_times)) (by decide +kernel)) (fun _ _ _ _ _ => (pdgv_tup rfl (gvcons (dgv 10 (vs := [10, 8]) sc.nd) (gvcons (dgv 8 (vs := [10, 8]) sc.nd) pdgsv_nil)))) (fun _ _ _ _ _ => pdts_nil) (fun _ _ _ _ _ => (pd_call c_mark_from hr (by decide) takesF (pda_cons (dv 7) (pda_cons (dv 10) (pda_cons (pd_op or_mul rl_mul pd_int (dv 6)) pda_nil)))))))
    (pds_one (pds_ret (pdr_of (pd_lc (pe_lc (own := [("mark", 11)]) rfl sc.nd (pdi_seq (dv 9)) (blkOk_by (N := ["line", "least", "greatest", "other", "low", "high", "side", "start", "_", "marks", "begin", "mark"]) (sc := (defScope s__entry_times)) (by decide +kernel)) (fun _ _ _ _ _ => (dgv 11 (vs := [11]) sc.nd)) (fun _ _ _ _ _ => pdts_nil) (fun _ _ _ _ _ => (pd_call c__first_time hr (by decide) takesF (pda_cons (dv 0) (pda_cons (dv 11) (pda_cons (dv 3) (pda_cons (dv 4) (pda_cons (dv 5) pda_nil))))))))))))))) rd__entry_times
end
end LW
namespace LW
open PySem PySem.Spec PyProof.Rows L2 DL
def InBox (a b x y p q l r lo hi : Int) (u : Int × Int) : Prop := InR a l r (lineA p x * u.2 + lineV p * u.1) u.2 ∧ InR b lo hi (lineA q y * u.2 + lineV q * u.1) u.2
theorem fold_start {s x p : Int} (s1 : 1 ≤ s) (x0 : 0 ≤ x) (x1 : x ≤ s) : foldI s (lineA p x) 1 = x := by
  unfold foldI lineA
  rw [Int.mul_one, Int.mul_one]
  by_cases c : p < 0
  · rw [if_pos c]
    by_cases e : x = 0
    · subst e
      rw [show (-0 : Int) % (2 * s) = 0 by simp]
      rw [if_pos (by omega)]
    · have : (-x) % (2 * s) = 2 * s - x := emod_at (j := -1) (by omega) (by omega) (by omega)
      rw [this]
      split <;> omega
  · rw [if_neg c]
    have : x % (2 * s) = x := Int.emod_eq_of_lt x0 (by omega)
    rw [this, if_pos x1]
theorem inR_start {s l h x p : Int} (s1 : 1 ≤ s) (x0 : 0 ≤ x) (x1 : x ≤ s) : InR s l h (lineA p x) 1 ↔ l ≤ x ∧ x ≤ h := by
  unfold InR
  rw [fold_start s1 x0 x1, Int.mul_one, Int.mul_one]
theorem paired_map {α β γ : Type} {R : β → γ → Prop} {f : α → β} : ∀ {is : List α} {os : List γ}, Paired (fun i o => R (f i) o) is os → Paired R (is.map f) os
  | _, _, .nil => .nil
  | _, _, .cons h t => .cons h (paired_map t)
theorem paired_imp {α γ : Type} {R S : α → γ → Prop} (h : ∀ i o, R i o → S i o) : ∀ {is : List α} {os : List γ}, Paired R is os → Paired S is os
  | _, _, .nil => .nil
  | _, _, .cons a t => .cons (h _ _ a) (paired_imp h t)
theorem paired_append {α γ : Type} {R : α → γ → Prop} : ∀ {is js : List α} {os ps : List γ}, Paired R is os → Paired R js ps → Paired R (is ++ js) (os ++ ps)
  | _, _, _, _, .nil, q => q
  | _, _, _, _, .cons h t, q => .cons h (paired_append t q)
theorem inside_least {a b x y p q l r lo hi : Int} {os1 os2 : List (Option (Int × Int))} (a1 : 1 ≤ a) (b1 : 1 ≤ b) (x0 : 0 ≤ x) (x1 : x ≤ a) (y0 : 0 ≤ y) (y1 : y ≤ b) (l0 : 0 ≤ l) (lr : l ≤ r) (ra : r ≤ a) (lo0 : 0 ≤ lo) (lh : lo ≤ hi) (hb : hi ≤ b)
    (out : ¬ ((l ≤ x ∧ x ≤ r) ∧ (lo ≤ y ∧ y ≤ hi))) (h1 : Paired (fun f o => LeastT (FirstM a (lineA p x) (lineV p) f b (lineA q y) (lineV q) lo hi) o) ((spansL l r a).map fun u => lineA p x + (u.1 - lineA p x) % (2 * a)) os1)
    (h2 : Paired (fun f o => LeastT (FirstM b (lineA q y) (lineV q) f a (lineA p x) (lineV p) l r) o) ((spansL lo hi b).map fun u => lineA q y + (u.1 - lineA q y) % (2 * b)) os2) : LeastT (InBox a b x y p q l r lo hi) (earl (os1 ++ os2)) := by
  refine entry_least a1 l0 lr ra (lineV_nonneg _) b1 lo0 lh hb (lineV_nonneg _) (fun z => out ⟨(inR_start a1 x0 x1).mp z.1, (inR_start b1 y0 y1).mp z.2⟩) ?_
  let M : Bool × Int → Int × Int → Prop := fun i => if i.1 = true then FirstM a (lineA p x) (lineV p) i.2 b (lineA q y) (lineV q) lo hi else FirstM b (lineA q y) (lineV q) i.2 a (lineA p x) (lineV p) l r
  have P1 : Paired (fun i o => LeastT (M i) o) (((spansL l r a).map fun u => lineA p x + (u.1 - lineA p x) % (2 * a)).map fun f => (true, f)) os1 := paired_map (f := fun f => (true, f)) (R := fun i o => LeastT (M i) o) h1
  have P2 : Paired (fun i o => LeastT (M i) o) (((spansL lo hi b).map fun u => lineA q y + (u.1 - lineA q y) % (2 * b)).map fun f => (false, f)) os2 := paired_map (f := fun f => (false, f)) (R := fun i o => LeastT (M i) o) h2
  refine leastT_iff (earl_least (paired_append P1 P2)) fun u _ => ?_
  constructor
  · rintro ⟨i, hi, hm⟩
    rcases List.mem_append.mp hi with hi | hi
    · obtain ⟨f, hf, rfl⟩ := List.mem_map.mp hi
      obtain ⟨w, hw, rfl⟩ := List.mem_map.mp hf
      exact .inl ⟨w, hw, hm⟩
    · obtain ⟨f, hf, rfl⟩ := List.mem_map.mp hi
      obtain ⟨w, hw, rfl⟩ := List.mem_map.mp hf
      exact .inr ⟨w, hw, hm⟩
  · rintro (⟨w, hw, hm⟩ | ⟨w, hw, hm⟩)
    · exact ⟨(true, _), List.mem_append.mpr (.inl (List.mem_map.mpr ⟨_, List.mem_map.mpr ⟨w, hw, rfl⟩, rfl⟩)), hm⟩
    · exact ⟨(false, _), List.mem_append.mpr (.inr (List.mem_map.mpr ⟨_, List.mem_map.mpr ⟨w, hw, rfl⟩, rfl⟩)), hm⟩
end LW
namespace LW
open PySem PySem.Spec PyProof.Rows L2 DL
def m__first_inside (W : WD) : MS :=
  mSeq (mAsg (mVar 1) (mgTup 4 (mgCons (mgName 3) (mgCons (mgName 4) (mgCons (mgName 5) (mgCons (mgName 5) (mgNil)))))))
  (mSeq (mAsg (mVar 2) (mgTup 4 (mgCons (mgName 6) (mgCons (mgName 7) (mgCons (mgName 8) (mgCons (mgName 9) (mgNil)))))))
  (mSeq (mIf (mTAnd (mT (mChain opLe opLe (mVar 6) (mVar 3) (mVar 7))) (mT (mChain opLe opLe (mVar 8) (mVar 4) (mVar 9)))) (mRet (mrOf (mTup (mCons (mC (.int 0)) (mCons (mC (.int 1)) (mNil)))))) (mNext))
  (mSeq (mAsg (mCall D_lines_of W (mCons (mVar 0) (mCons (mVar 1) (mNil)))) (mgTup 2 (mgCons (mgName 10) (mgCons (mgName 11) (mgNil)))))
  (mRet (mrOf (mCall D_earliest W (mCons (mOp2 opAdd (mCall D__entry_times W (mCons (mVar 10) (mCons (mVar 6) (mCons (mVar 7) (mCons (mVar 11) (mCons (mVar 8) (mCons (mVar 9) (mNil)))))))) (mCall D__entry_times W (mCons (mVar 11) (mCons (mVar 8) (mCons (mVar 9) (mCons (mVar 10) (mCons (mVar 6) (mCons (mVar 7) (mNil))))))))) (mNil))))))))
theorem paired_len {α γ : Type} {R : α → γ → Prop} : ∀ {is : List α} {os : List γ}, Paired R is os → os.length = is.length
  | _, _, .nil => rfl
  | _, _, .cons _ t => by rw [List.length_cons, List.length_cons, paired_len t]
theorem paired_mem {α γ : Type} {R : α → γ → Prop} : ∀ {is : List α} {os : List γ}, Paired R is os → ∀ o ∈ os, ∃ i, R i o
  | _, _, .nil, o, h => nomatch h
  | _, _, .cons r t, o, h => by
    rcases List.mem_cons.mp h with rfl | h
    · exact ⟨_, r⟩
    · exact paired_mem t o h
def D__first_inside : PSpec := fun ds Q _ => ∃ a b x y p q l r lo hi, ds = [.tuple [.int a, .int b], .tuple [.int x, .int y, .int p, .int q], .tuple [.int l, .int r, .int lo, .int hi]] ∧ Vd 700 a b x y p q ∧ (0 ≤ l ∧ l ≤ r ∧ r ≤ a ∧ 0 ≤ lo ∧ lo ≤ hi ∧ hi ≤ b) ∧
  ∀ o, LeastT (InBox a b x y p q l r lo hi) o → szO 5000 o → Q (.va (oT o))
theorem len__first_inside : ∀ ds Q E, D__first_inside ds Q E → ds.length = 3 := by
  rintro _ Q E ⟨a, b, x, y, p, q, l, r, lo, hi, rfl, _⟩
  rfl
theorem rd__first_inside : ∀ ds Q E, D__first_inside ds Q E → m__first_inside (fun c _ => E c) (endP Q) (slots0 12 ds) := by
  rintro _ Q E ⟨a, b, x, y, p, r, l, rr, lo, hi, rfl, v, ⟨l0, lr, ra, lo0, lh, hb⟩, q⟩
  unfold m__first_inside
  refine seq_step fun N hN => ?_
  walk_at "rdn"
  subst hN
  refine seq_step fun N hN => ?_
  walk_at "rdn"
  subst hN
  by_cases c : (l ≤ x ∧ x ≤ rr) ∧ (lo ≤ y ∧ y ≤ hi)
  · refine seq_step fun N hN => ?_
    refine if_run true (fun Q h => ?_) (fun _ => ?_) (fun hc => by cases hc)
    · walk_at "rdn"
      rw [if_pos (decide_eq_true c.1.1), if_pos (decide_eq_true c.1.2), if_pos (decide_eq_true c.2.1), decide_eq_true c.2.2]
      exact h
    walk_at "rdn"
    refine q (some (0, 1)) ⟨by decide, by decide, by decide, ⟨?_, ?_⟩, fun u _ n0 _ => ?_⟩ (fun t ht => by cases ht; exact ⟨sz_mono (k := 1) (by unfold sz; decide) (by decide), sz_mono (k := 1) (by unfold sz; decide) (by decide)⟩)
    · have := (inR_start (l := l) (h := rr) (p := p) v.a1 v.x0 v.x1).mpr c.1
      show InR a l rr (lineA p x * 1 + lineV p * 0) 1
      rw [Int.mul_one, Int.mul_zero, Int.add_zero]
      exact this
    · have := (inR_start (l := lo) (h := hi) (p := r) v.b1 v.y0 v.y1).mpr c.2
      show InR b lo hi (lineA r y * 1 + lineV r * 0) 1
      rw [Int.mul_one, Int.mul_zero, Int.add_zero]
      exact this
    · show 0 * u.2 ≤ u.1 * 1
      omega
  refine seq_step fun N hN => ?_
  refine if_run false (fun Q h => ?_) (fun hc => by cases hc) (fun _ => ?_)
  · walk_at "rdn"
    by_cases c1 : l ≤ x
    · rw [if_pos (decide_eq_true c1)]
      by_cases c2 : x ≤ rr
      · rw [if_pos (decide_eq_true c2)]
        by_cases c3 : lo ≤ y
        · rw [if_pos (decide_eq_true c3), decide_eq_false (fun z => c ⟨⟨c1, c2⟩, c3, z⟩)]
          exact h
        · rw [if_neg (by simpa using c3)]
          exact h
      · rw [if_neg (by simpa using c2)]
        exact h
    · rw [if_neg (by simpa using c1)]
      exact h
  walk_at "rdn"
  subst hN
  have v0 := lineV_nonneg p
  have v0' := lineV_nonneg r
  have zA := sz_lineA (v := p) v.zx
  have zB := sz_lineA (v := r) v.zy
  have zV := sz_lineV v.zp
  have zU := sz_lineV v.zq
  refine seq_step fun N hN => ?_
  walk_at "rdn"
  refine ⟨a, b, x, y, p, r, rfl, _, rfl, ?_⟩
  rw [lineD_eq, lineD_eq]
  walk_at "rdn"
  subst hN
  walk_at "rdn"
  refine ⟨a, lineA p x, lineV p, l, rr, b, lineA r y, lineV r, lo, hi, rfl, ⟨v.a1, v0, v.b1, lo0, lh, hb⟩, ⟨v.za, zA, zV, v.zb, zB, zU⟩, fun os1 h1 => ⟨_, rfl, ?_⟩⟩
  refine ⟨b, lineA r y, lineV r, lo, hi, a, lineA p x, lineV p, l, rr, rfl, ⟨v.b1, v0', v.a1, l0, lr, ra⟩, ⟨v.zb, zB, zU, v.za, zA, zV⟩, fun os2 h2 => ⟨_, rfl, ?_⟩⟩
  have l1 := paired_len h1
  have l2 := paired_len h2
  rw [List.length_map] at l1 l2
  have s1 := spans_len l rr a
  have s2 := spans_len lo hi b
  have szA : ∀ t, some t ∈ os1 ++ os2 → sz 5000 t.1 ∧ sz 5000 t.2 := by
    intro t ht
    rcases List.mem_append.mp ht with ht | ht
    · obtain ⟨i, z⟩ := paired_mem h1 _ ht
      exact z.2 t rfl
    · obtain ⟨i, z⟩ := paired_mem h2 _ ht
      exact z.2 t rfl
  refine ⟨_, (opAdd_l (xs := os1.map oT) (ys := os2.map oT)).trans (if_pos (by rw [List.length_map, List.length_map]; omega)), ?_⟩
  refine ⟨os1 ++ os2, by rw [List.map_append], fun t ht => ⟨sz_mono (szA t ht).1 (by decide), sz_mono (szA t ht).2 (by decide)⟩, _, rfl, ?_⟩
  refine q _ (inside_least v.a1 v.b1 v.x0 v.x1 v.y0 v.y1 l0 lr ra lo0 lh hb c (paired_imp (fun _ _ z => z.1) h1) (paired_imp (fun _ _ z => z.1) h2)) fun t ht => szA t (earl_mem ht)
section
variable {P : Program} {w : World} {K : PySem.W.Frag} {mg : Str → Option Value} {base : Heap} {CN : String → Option Addr}
theorem ok__first_inside {f : Addr} {fd : FuncData} (F : Fun K "_first_inside" "_first_inside" s__first_inside f fd) (g : G K mg CN) (c__entry_times : CalP P w K mg base CN 5 "_entry_times" D__entry_times) (c_earliest : CalP P w K mg base CN 1 "earliest" D_earliest) (c_lines_of : CalP P w K mg base CN 2 "lines_of" D_lines_of) : FnG P w K mg base 6 f fd ["table", "shot", "box"] (spP K CN D__first_inside) := by
  have sc := sc__first_inside
  exact fun_okP (m := m__first_inside) F sc (by decide) len__first_inside (fun cdv A outer s H E C W hw hr tk =>
    (pds_cons (pds_asg (ps_asg (dv 1) (pdg_tup rfl (gcons (dg 3 sc.nd) (gcons (dg 4 sc.nd) (gcons (dg 5 sc.nd) (gcons (dg 5 sc.nd) pdgs_nil)))))))
    (pds_cons (pds_asg (ps_asg (dv 2) (pdg_tup rfl (gcons (dg 6 sc.nd) (gcons (dg 7 sc.nd) (gcons (dg 8 sc.nd) (gcons (dg 9 sc.nd) pdgs_nil)))))))
    (pds_cons (pds_if (pdt_ofw (pdw_and (pdt_chain2 op_le op_le rl_cmpI rl_cmpI (dv 6) (dv 3) (dv 7)) (pdw_and1 (pdt_chain2 op_le op_le rl_cmpI rl_cmpI (dv 8) (dv 4) (dv 9))))) (pds_one (pds_ret (pdr_of (pd_tup (pda_cons pd_int (pda_cons pd_int pda_nil)))))) pds_nil)
    (pds_cons (pds_asg (ps_asg (pd_call c_lines_of hr (by decide) tk (pda_cons (dv 0) (pda_cons (dv 1) pda_nil))) (pdg_tup rfl (gcons (dg 10 sc.nd) (gcons (dg 11 sc.nd) pdgs_nil)))))
    (pds_one (pds_ret (pdr_of (pd_call c_earliest hr (by decide) tk (pda_cons (pd_op or_add rl_add (pd_call c__entry_times hr (by decide) tk (pda_cons (dv 10) (pda_cons (dv 6) (pda_cons (dv 7) (pda_cons (dv 11) (pda_cons (dv 8) (pda_cons (dv 9) pda_nil))))))) (pd_call c__entry_times hr (by decide) tk (pda_cons (dv 11) (pda_cons (dv 8) (pda_cons (dv 9) (pda_cons (dv 10) (pda_cons (dv 6) (pda_cons (dv 7) pda_nil)))))))) pda_nil)))))))))) rd__first_inside
end
def m_is_spot (W : WD) : MS :=
  mRet (mrOf (mAnd (mCall D_are_whole W (mCons (mVar 1) (mCons (mC (.int 2)) (mNil)))) (mAnd (mChain opLe opLe (mC (.int 0)) (mOp2 opIx (mVar 1) (mC (.int 0))) (mOp2 opIx (mVar 0) (mC (.int 0)))) (mChain opLe opLe (mC (.int 0)) (mOp2 opIx (mVar 1) (mC (.int 1))) (mOp2 opIx (mVar 0) (mC (.int 1)))))))
def isSpot : PyData → PyData → Bool
  | .tuple [.int a, .int b], .tuple [.int x, .int y] => decide (0 ≤ x) && decide (x ≤ a) && (decide (0 ≤ y) && decide (y ≤ b))
  | _, _ => false
theorem spot_inv {a b : Int} {d : PyData} (h : isSpot (.tuple [.int a, .int b]) d = true) : ∃ x y, d = .tuple [.int x, .int y] ∧ 0 ≤ x ∧ x ≤ a ∧ 0 ≤ y ∧ y ≤ b := by
  unfold isSpot at h
  split at h
  · rename_i a b x y e1
    simp only [PyData.tuple.injEq, List.cons.injEq, PyData.int.injEq, and_true] at e1
    obtain ⟨rfl, rfl⟩ := e1
    simp only [Bool.and_eq_true, decide_eq_true_eq] at h
    exact ⟨x, y, rfl, h.1.1, h.1.2, h.2.1, h.2.2⟩
  · cases h
def D_is_spot : PSpec := fun ds Q _ => ∃ a b d, ds = [.tuple [.int a, .int b], d] ∧ Q (.va (.bool (isSpot (.tuple [.int a, .int b]) d)))
theorem len_is_spot : ∀ ds Q E, D_is_spot ds Q E → ds.length = 2 := by
  rintro _ Q E ⟨a, b, d, rfl, _⟩
  rfl
theorem rd_is_spot : ∀ ds Q E, D_is_spot ds Q E → m_is_spot (fun c _ => E c) (endP Q) (slots0 2 ds) := by
  rintro _ Q E ⟨a, b, d, rfl, q⟩
  unfold m_is_spot
  walk_at "rdn"
  refine ⟨d, 2, rfl, by decide, _, rfl, _, rfl, ?_⟩
  cases h : areW d 2 with
  | false =>
    rw [if_neg (by decide)]
    have e : isSpot (.tuple [.int a, .int b]) d = false := by
      unfold isSpot
      split
      · simp [areW, isInt] at h
      · rfl
    rwa [e] at q
  | true =>
    obtain ⟨x, y, rfl⟩ := areW2 h
    rw [if_pos rfl]
    have q : Q (.va (.bool (decide (0 ≤ x) && decide (x ≤ a) && (decide (0 ≤ y) && decide (y ≤ b))))) := q
    walk_at "rdn"
    by_cases h1 : 0 ≤ x <;> by_cases h2 : x ≤ a <;> by_cases h3 : 0 ≤ y <;> by_cases h4 : y ≤ b <;> simpa [h1, h2, h3, h4] using q
section
variable {P : Program} {w : World} {K : PySem.W.Frag} {mg : Str → Option Value} {base : Heap} {CN : String → Option Addr}
theorem ok_is_spot {f : Addr} {fd : FuncData} (F : Fun K "is_spot" "is_spot" s_is_spot f fd) (g : G K mg CN) (c_are_whole : CalP P w K mg base CN 2 "are_whole" D_are_whole) : FnG P w K mg base 3 f fd ["table", "value"] (spP K CN D_is_spot) := by
  have sc := sc_is_spot
  exact fun_okP (m := m_is_spot) F sc (by decide) len_is_spot (fun cdv A outer s H E C W hw hr tk =>
    (pds_one (pds_ret (pdr_of (pd_and (pd_call c_are_whole hr (by decide) tk (pda_cons (dv 1) (pda_cons pd_int pda_nil))) (pd_and (pd_chain2 op_le op_le rl_cmpI rl_cmpI pd_int (pd_ix ix_seq rl_ix (dv 1) pd_int) (pd_ix ix_seq rl_ix (dv 0) pd_int)) (pd_one (pd_chain2 op_le op_le rl_cmpI rl_cmpI pd_int (pd_ix ix_seq rl_ix (dv 1) pd_int) (pd_ix ix_seq rl_ix (dv 0) pd_int))))))))) rd_is_spot
end
def m_first_at (W : WD) : MS :=
  mSeq (mDrop (mCall D_check_shot W (mCons (mVar 0) (mCons (mVar 1) (mNil)))))
  (mSeq (mIf (mTNot (mT (mCall D_is_spot W (mCons (mVar 0) (mCons (mVar 2) (mNil)))))) (mRaise "InvalidSpot" W) (mNext))
  (mSeq (mAsg (mVar 2) (mgTup 2 (mgCons (mgName 3) (mgCons (mgName 4) (mgNil)))))
  (mRet (mrOf (mCall D__first_inside W (mCons (mVar 0) (mCons (mVar 1) (mCons (mTup (mCons (mVar 3) (mCons (mVar 3) (mCons (mVar 4) (mCons (mVar 4) (mNil)))))) (mNil)))))))))
def spotN : PyData → PyData → PyData → (Option (Int × Int) → Prop)
  | .tuple [.int a, .int b], .tuple [.int x, .int y, .int p, .int q], .tuple [.int u, .int v] => fun o => LeastT (InBox a b x y p q u u v v) o ∧ szO 5000 o
  | _, _, _ => fun _ => False
def D_first_at : PSpec := fun ds Q E => ∃ t v g, ds = [t, v, g] ∧ (isTab t = false → E "InvalidTable") ∧ (isTab t = true → isShot t v = false → E "InvalidShot") ∧ (isTab t = true → isShot t v = true → isSpot t g = false → E "InvalidSpot") ∧
  (isTab t = true → isShot t v = true → isSpot t g = true → szH 700 t ∧ szH 700 v ∧ ∀ o, spotN t v g o → Q (.va (oT o)))
theorem len_first_at : ∀ ds Q E, D_first_at ds Q E → ds.length = 3 := by
  rintro _ Q E ⟨t, v, g, rfl, _⟩
  rfl
theorem rd_first_at : ∀ ds Q E, D_first_at ds Q E → m_first_at (fun c _ => E c) (endP Q) (slots0 5 ds) := by
  rintro _ Q E ⟨t, v, g, rfl, q1, q2, q3, q4⟩
  unfold m_first_at
  refine seq_step fun N hN => ?_
  walk_at "rdn"
  refine ⟨t, v, rfl, q1, q2, fun h1 h2 => ⟨⟨_, rfl⟩, ?_⟩⟩
  subst hN
  obtain ⟨a, b, x, y, p, r, rfl, rfl, x0, xa, y0, yb, w⟩ := shot_inv h2
  cases h3 : isSpot (.tuple [.int a, .int b]) g with
  | false =>
    refine seq_step fun N hN => ?_
    refine if_run true (fun Q h => ?_) (fun _ => ?_) (fun hc => by cases hc)
    · walk_at "rdn"
      refine ⟨a, b, g, rfl, _, rfl, _, rfl, ?_⟩
      rw [h3]
      exact h
    exact q3 h1 h2 h3
  | true =>
    obtain ⟨z1, z2, q⟩ := q4 h1 h2 h3
    obtain ⟨u, v, rfl, u0, ua, v0, vb⟩ := spot_inv h3
    simp only [isTab, Bool.and_eq_true, decide_eq_true_eq] at h1
    refine seq_step fun N hN => ?_
    refine if_run false (fun Q h => ?_) (fun hc => by cases hc) (fun _ => ?_)
    · walk_at "rdn"
      refine ⟨a, b, _, rfl, _, rfl, _, rfl, ?_⟩
      rw [h3]
      exact h
    walk_at "rdn"
    subst hN
    refine seq_step fun N hN => ?_
    walk_at "rdn"
    subst hN
    walk_at "rdn"
    exact ⟨a, b, x, y, p, r, u, u, v, v, rfl, ⟨h1.1, h1.2, x0, xa, y0, yb, w, z1.1, z1.2, z2.1, z2.2.1, z2.2.2.1, z2.2.2.2⟩, ⟨u0, Int.le_refl _, ua, v0, Int.le_refl _, vb⟩, fun o h1 h2 => ⟨_, rfl, q o ⟨h1, h2⟩⟩⟩
section
variable {P : Program} {w : World} {K : PySem.W.Frag} {mg : Str → Option Value} {base : Heap} {CN : String → Option Addr}
theorem ok_first_at {f : Addr} {fd : FuncData} (F : Fun K "first_at" "first_at" s_first_at f fd) (g : G K mg CN) (c__first_inside : CalP P w K mg base CN 6 "_first_inside" D__first_inside) (c_check_shot : CalP P w K mg base CN 6 "check_shot" D_check_shot) (c_is_spot : CalP P w K mg base CN 3 "is_spot" D_is_spot) : FnG P w K mg base 7 f fd ["table", "shot", "spot"] (spP K CN D_first_at) := by
  obtain ⟨e_InvalidSpot, n_InvalidSpot, t_InvalidSpot⟩ := g.x_InvalidSpot
  have sc := sc_first_at
  exact fun_okP (m := m_first_at) F sc (by decide) len_first_at (fun cdv A outer s H E C W hw hr tk =>
    (pds_cons (pds_drop (pd_call c_check_shot hr (by decide) tk (pda_cons (dv 0) (pda_cons (dv 1) pda_nil))))
    (pds_cons (pds_if (pdt_not (pdt_val (pd_call c_is_spot hr (by decide) tk (pda_cons (dv 0) (pda_cons (dv 2) pda_nil))))) (pds_one (pds_raise rfl tk t_InvalidSpot n_InvalidSpot)) pds_nil)
    (pds_cons (pds_asg (ps_asg (dv 2) (pdg_tup rfl (gcons (dg 3 sc.nd) (gcons (dg 4 sc.nd) pdgs_nil)))))
    (pds_one (pds_ret (pdr_of (pd_call c__first_inside hr (by decide) tk (pda_cons (dv 0) (pda_cons (dv 1) (pda_cons (pd_tup (pda_cons (dv 3) (pda_cons (dv 3) (pda_cons (dv 4) (pda_cons (dv 4) pda_nil))))) pda_nil))))))))))) rd_first_at
end
def m__is_box (W : WD) : MS :=
  mSeq (mIf (mTNot (mT (mCall D_are_whole W (mCons (mVar 1) (mCons (mC (.int 4)) (mNil)))))) (mRet (mrOf (mC (.bool false)))) (mNext))
  (mSeq (mAsg (mVar 1) (mgTup 4 (mgCons (mgName 2) (mgCons (mgName 3) (mgCons (mgName 4) (mgCons (mgName 5) (mgNil)))))))
  (mRet (mrOf (mAnd (mChain3 opLe opLe opLe (mC (.int 0)) (mVar 2) (mVar 3) (mOp2 opIx (mVar 0) (mC (.int 0)))) (mChain3 opLe opLe opLe (mC (.int 0)) (mVar 4) (mVar 5) (mOp2 opIx (mVar 0) (mC (.int 1))))))))
def isBox : PyData → PyData → Bool
  | .tuple [.int a, .int b], .tuple [.int l, .int r, .int lo, .int hi] => (decide (0 ≤ l) && decide (l ≤ r) && decide (r ≤ a)) && (decide (0 ≤ lo) && decide (lo ≤ hi) && decide (hi ≤ b))
  | _, _ => false
theorem box_inv {a b : Int} {d : PyData} (h : isBox (.tuple [.int a, .int b]) d = true) : ∃ l r lo hi, d = .tuple [.int l, .int r, .int lo, .int hi] ∧ 0 ≤ l ∧ l ≤ r ∧ r ≤ a ∧ 0 ≤ lo ∧ lo ≤ hi ∧ hi ≤ b := by
  unfold isBox at h
  split at h
  · rename_i a b l r lo hi e1
    simp only [PyData.tuple.injEq, List.cons.injEq, PyData.int.injEq, and_true] at e1
    obtain ⟨rfl, rfl⟩ := e1
    simp only [Bool.and_eq_true, decide_eq_true_eq] at h
    exact ⟨l, r, lo, hi, rfl, h.1.1.1, h.1.1.2, h.1.2, h.2.1.1, h.2.1.2, h.2.2⟩
  · cases h
def D__is_box : PSpec := fun ds Q _ => ∃ a b d, ds = [.tuple [.int a, .int b], d] ∧ Q (.va (.bool (isBox (.tuple [.int a, .int b]) d)))
theorem len__is_box : ∀ ds Q E, D__is_box ds Q E → ds.length = 2 := by
  rintro _ Q E ⟨a, b, d, rfl, _⟩
  rfl
theorem rd__is_box : ∀ ds Q E, D__is_box ds Q E → m__is_box (fun c _ => E c) (endP Q) (slots0 6 ds) := by
  rintro _ Q E ⟨a, b, d, rfl, q⟩
  unfold m__is_box
  cases h : areW d 4 with
  | false =>
    refine seq_step fun N hN => ?_
    refine if_run true (fun Q' h' => ?_) (fun _ => ?_) (fun hc => by cases hc)
    · walk_at "rdn"
      refine ⟨d, 4, rfl, by decide, _, rfl, _, rfl, ?_⟩
      rw [h]
      exact h'
    walk_at "rdn"
    have e : isBox (.tuple [.int a, .int b]) d = false := by
      unfold isBox
      split
      · simp [areW, isInt] at h
      · rfl
    rwa [e] at q
  | true =>
    obtain ⟨l, r, lo, hi, rfl⟩ := areW4 h
    refine seq_step fun N hN => ?_
    refine if_run false (fun Q' h' => ?_) (fun hc => by cases hc) (fun _ => ?_)
    · walk_at "rdn"
      refine ⟨_, 4, rfl, by decide, _, rfl, _, rfl, ?_⟩
      rw [h]
      exact h'
    walk_at "rdn"
    subst hN
    refine seq_step fun N hN => ?_
    walk_at "rdn"
    subst hN
    have q : Q (.va (.bool ((decide (0 ≤ l) && decide (l ≤ r) && decide (r ≤ a)) && (decide (0 ≤ lo) && decide (lo ≤ hi) && decide (hi ≤ b))))) := q
    walk_at "rdn"
    simp only [mChain3]
    walk_at "rdn"
    by_cases h1 : 0 ≤ l <;> by_cases h2 : l ≤ r <;> by_cases h3 : r ≤ a <;> by_cases h4 : 0 ≤ lo <;> by_cases h5 : lo ≤ hi <;> by_cases h6 : hi ≤ b <;> simpa [h1, h2, h3, h4, h5, h6] using q
section
variable {P : Program} {w : World} {K : PySem.W.Frag} {mg : Str → Option Value} {base : Heap} {CN : String → Option Addr}
theorem ok__is_box {f : Addr} {fd : FuncData} (F : Fun K "_is_box" "_is_box" s__is_box f fd) (g : G K mg CN) (c_are_whole : CalP P w K mg base CN 2 "are_whole" D_are_whole) : FnG P w K mg base 3 f fd ["table", "value"] (spP K CN D__is_box) := by
  have sc := sc__is_box
  exact fun_okP (m := m__is_box) F sc (by decide) len__is_box (fun cdv A outer s H E C W hw hr tk =>
    (pds_cons (pds_if (pdt_not (pdt_val (pd_call c_are_whole hr (by decide) tk (pda_cons (dv 1) (pda_cons pd_int pda_nil))))) (pds_one (pds_ret (pdr_of pd_bl))) pds_nil)
    (pds_cons (pds_asg (ps_asg (dv 1) (pdg_tup rfl (gcons (dg 2 sc.nd) (gcons (dg 3 sc.nd) (gcons (dg 4 sc.nd) (gcons (dg 5 sc.nd) pdgs_nil)))))))
    (pds_one (pds_ret (pdr_of (pd_and (pd_chain3 op_le op_le op_le rl_cmpI rl_cmpI rl_cmpI pd_int (dv 2) (dv 3) (pd_ix ix_seq rl_ix (dv 0) pd_int)) (pd_one (pd_chain3 op_le op_le op_le rl_cmpI rl_cmpI rl_cmpI pd_int (dv 4) (dv 5) (pd_ix ix_seq rl_ix (dv 0) pd_int)))))))))) rd__is_box
end
def m_first_in_box (W : WD) : MS :=
  mSeq (mDrop (mCall D_check_shot W (mCons (mVar 0) (mCons (mVar 1) (mNil)))))
  (mSeq (mIf (mTNot (mT (mCall D__is_box W (mCons (mVar 0) (mCons (mVar 2) (mNil)))))) (mRaise "InvalidBox" W) (mNext))
  (mRet (mrOf (mCall D__first_inside W (mCons (mVar 0) (mCons (mVar 1) (mCons (mVar 2) (mNil))))))))
def boxN : PyData → PyData → PyData → (Option (Int × Int) → Prop)
  | .tuple [.int a, .int b], .tuple [.int x, .int y, .int p, .int q], .tuple [.int l, .int r, .int lo, .int hi] => fun o => LeastT (InBox a b x y p q l r lo hi) o ∧ szO 5000 o
  | _, _, _ => fun _ => False
def D_first_in_box : PSpec := fun ds Q E => ∃ t v g, ds = [t, v, g] ∧ (isTab t = false → E "InvalidTable") ∧ (isTab t = true → isShot t v = false → E "InvalidShot") ∧ (isTab t = true → isShot t v = true → isBox t g = false → E "InvalidBox") ∧
  (isTab t = true → isShot t v = true → isBox t g = true → szH 700 t ∧ szH 700 v ∧ ∀ o, boxN t v g o → Q (.va (oT o)))
theorem len_first_in_box : ∀ ds Q E, D_first_in_box ds Q E → ds.length = 3 := by
  rintro _ Q E ⟨t, v, g, rfl, _⟩
  rfl
theorem rd_first_in_box : ∀ ds Q E, D_first_in_box ds Q E → m_first_in_box (fun c _ => E c) (endP Q) (slots0 3 ds) := by
  rintro _ Q E ⟨t, v, g, rfl, q1, q2, q3, q4⟩
  unfold m_first_in_box
  refine seq_step fun N hN => ?_
  walk_at "rdn"
  refine ⟨t, v, rfl, q1, q2, fun h1 h2 => ⟨⟨_, rfl⟩, ?_⟩⟩
  subst hN
  obtain ⟨a, b, x, y, p, r, rfl, rfl, x0, xa, y0, yb, w⟩ := shot_inv h2
  cases h3 : isBox (.tuple [.int a, .int b]) g with
  | false =>
    refine seq_step fun N hN => ?_
    refine if_run true (fun Q h => ?_) (fun _ => ?_) (fun hc => by cases hc)
    · walk_at "rdn"
      refine ⟨a, b, g, rfl, _, rfl, _, rfl, ?_⟩
      rw [h3]
      exact h
    exact q3 h1 h2 h3
  | true =>
    obtain ⟨z1, z2, q⟩ := q4 h1 h2 h3
    obtain ⟨l, rr, lo, hi, rfl, l0, lr, ra, lo0, lh, hb⟩ := box_inv h3
    simp only [isTab, Bool.and_eq_true, decide_eq_true_eq] at h1
    refine seq_step fun N hN => ?_
    refine if_run false (fun Q h => ?_) (fun hc => by cases hc) (fun _ => ?_)
    · walk_at "rdn"
      refine ⟨a, b, _, rfl, _, rfl, _, rfl, ?_⟩
      rw [h3]
      exact h
    walk_at "rdn"
    subst hN
    walk_at "rdn"
    exact ⟨a, b, x, y, p, r, l, rr, lo, hi, rfl, ⟨h1.1, h1.2, x0, xa, y0, yb, w, z1.1, z1.2, z2.1, z2.2.1, z2.2.2.1, z2.2.2.2⟩, ⟨l0, lr, ra, lo0, lh, hb⟩, fun o h1 h2 => ⟨_, rfl, q o ⟨h1, h2⟩⟩⟩
section
variable {P : Program} {w : World} {K : PySem.W.Frag} {mg : Str → Option Value} {base : Heap} {CN : String → Option Addr}
theorem ok_first_in_box {f : Addr} {fd : FuncData} (F : Fun K "first_in_box" "first_in_box" s_first_in_box f fd) (g : G K mg CN) (c__first_inside : CalP P w K mg base CN 6 "_first_inside" D__first_inside) (c__is_box : CalP P w K mg base CN 3 "_is_box" D__is_box) (c_check_shot : CalP P w K mg base CN 6 "check_shot" D_check_shot) : FnG P w K mg base 7 f fd ["table", "shot", "box"] (spP K CN D_first_in_box) := by
  obtain ⟨e_InvalidBox, n_InvalidBox, t_InvalidBox⟩ := g.x_InvalidBox
  have sc := sc_first_in_box
  exact fun_okP (m := m_first_in_box) F sc (by decide) len_first_in_box (fun cdv A outer s H E C W hw hr tk =>
    (pds_cons (pds_drop (pd_call c_check_shot hr (by decide) tk (pda_cons (dv 0) (pda_cons (dv 1) pda_nil))))
    (pds_cons (pds_if (pdt_not (pdt_val (pd_call c__is_box hr (by decide) tk (pda_cons (dv 0) (pda_cons (dv 2) pda_nil))))) (pds_one (pds_raise rfl tk t_InvalidBox n_InvalidBox)) pds_nil)
    (pds_one (pds_ret (pdr_of (pd_call c__first_inside hr (by decide) tk (pda_cons (dv 0) (pda_cons (dv 1) (pda_cons (dv 2) pda_nil)))))))))) rd_first_in_box
end
def m__stretch_time (W : WD) : MS :=
  mSeq (mAsg (mVar 1) (mgTup 3 (mgCons (mgName 2) (mgCons (mgName 3) (mgCons (mgName 4) (mgNil))))))
  (mSeq (mAsg (mCall D_cushion_marks W (mCons (mVar 0) (mCons (mVar 2) (mNil)))) (mgTup 3 (mgCons (mgName 5) (mgCons (mgName 6) (mgCons (mgName 7) (mgNil))))))
  (mRet (mrOf (mCall D__first_time W (mCons (mVar 5) (mCons (mVar 6) (mCons (mVar 7) (mCons (mVar 3) (mCons (mVar 4) (mNil))))))))))
/-- a cushion's own line and its other one, of both lines -/
def ownL (s a v s' a' v' : Int) (x : Nat) : Int × Int × Int := if x < 2 then (s, a, v) else (s', a', v')
def D__stretch_time : PSpec := fun ds Q _ => ∃ (s a v s' a' v' l h : Int) (x : Nat), ds = [.tuple [.tuple [.int s, .int a, .int v], .tuple [.int s', .int a', .int v']], .tuple [.str (letS x), .int l, .int h]] ∧ x < 4 ∧ (1 ≤ s ∧ 1 ≤ s' ∧ 0 ≤ v ∧ 0 ≤ v') ∧ (0 ≤ l ∧ l ≤ h ∧ h ≤ (if x < 2 then s' else s)) ∧ (sz 700 s ∧ sz 700 a ∧ sz 700 v ∧ sz 700 s' ∧ sz 700 a' ∧ sz 700 v') ∧
  ∀ o, LeastT (FirstM (ownL s a v s' a' v' x).1 (ownL s a v s' a' v' x).2.1 (ownL s a v s' a' v' x).2.2 (cushM (ownL s a v s' a' v' x).1 (ownL s a v s' a' v' x).2.1 (x % 2 : Nat)) (ownL s' a' v' s a v x).1 (ownL s' a' v' s a v x).2.1 (ownL s' a' v' s a v x).2.2 l h) o → szO 5000 o → Q (.va (oT o))
theorem len__stretch_time : ∀ ds Q E, D__stretch_time ds Q E → ds.length = 2 := by
  rintro _ Q E ⟨s, a, v, s', a', v', l, h, x, rfl, _⟩
  rfl
theorem cushM_ge {s a r : Int} (s1 : 1 ≤ s) : a ≤ cushM s a r ∧ cushM s a r ≤ a + 1 + 2 * s := by
  unfold cushM
  have r0 := Int.emod_nonneg (r * s - (a + 1)) (show 2 * s ≠ 0 by omega)
  have r1 := Int.emod_lt_of_pos (r * s - (a + 1)) (show 0 < 2 * s by omega)
  omega
theorem str_time {s a v r s' a' v' l h : Int} {Q : S → Prop} {E : String → Prop} (s1 : 1 ≤ s) (s1' : 1 ≤ s') (v0 : 0 ≤ v) (l0 : 0 ≤ l) (lh : l ≤ h) (hs : h ≤ s') (z : sz 700 s ∧ sz 700 a ∧ sz 700 v ∧ sz 700 s' ∧ sz 700 a' ∧ sz 700 v')
    (q : ∀ o, LeastT (FirstM s a v (cushM s a r) s' a' v' l h) o → szO 5000 o → Q (.va (oT o))) : D__first_time [.tuple [.int s, .int a, .int v], .int (cushM s a r), .tuple [.int s', .int a', .int v'], .int l, .int h] (fun r => ∃ d, fz r = some d ∧ Q (.va d)) E := by
  obtain ⟨zs, za, zv, zs', za', zv'⟩ := z
  obtain ⟨c1, c2⟩ := cushM_ge (s := s) (a := a) (r := r) s1
  have zf : sz 800 (cushM s a r) := by
    unfold cushM
    exact sz_mono (sz_add (sz_add (sz_mono za (l := 705) (by decide)) (sz_mono (k := 1) (l := 705) (by unfold sz; decide) (by decide))) (sz_mono (sz_mod (sz_mul (show sz 2 2 by unfold sz; decide) zs) (by omega)) (l := 706) (by decide))) (by decide)
  generalize cushM s a r = f at *
  refine ⟨s, a, v, f, s', a', v', l, h, rfl, ⟨s1, s1', v0, l0, lh, hs⟩, ⟨zs, za, zv, zf, zs', za', zv'⟩, fun e => ⟨_, rfl, q none (fun u u1 n0 z => ?_) (fun t ht => nomatch ht)⟩, fun vp o ho hk => ⟨_, rfl, ?_⟩⟩
  · have := z.1
    omega
  · rw [ftD_T]
    refine q _ (first_LeastT s1 vp c1 ho) ?_
    intro t ht
    cases o with
    | none => cases ht
    | some k =>
      cases ht
      have k0 := ho.1.1
      have k1 := hk k rfl
      have s2 : sz 2 2 := by unfold sz; decide
      have zc : sz 1402 (2 * s' * v) := sz_mul (sz_mul s2 zs') zv
      have zk : sz 2810 k := sz_le (sz_mono (sz_mul s2 (sz_mul zc zc)) (by decide)) (by omega)
      have zt : sz 3600 (f + 2 * s * k - a) := sz_mono (sz_sub (sz_add (sz_mono zf (l := 3512) (by decide)) (sz_mul (sz_mul s2 zs) zk)) (sz_mono za (l := 3513) (by decide))) (by decide)
      have := sz_lowP (t := f + 2 * s * k - a) (b := v) (by omega) zt zv
      exact ⟨sz_mono this.1 (by decide), sz_mono this.2 (by decide)⟩
theorem rd__stretch_time : ∀ ds Q E, D__stretch_time ds Q E → m__stretch_time (fun c _ => E c) (endP Q) (slots0 8 ds) := by
  rintro _ Q E ⟨s, a, v, s', a', v', l, h, x, rfl, hx, ⟨s1, s1', v0, v0'⟩, ⟨l0, lh, hs⟩, ⟨zs, za, zv, zs', za', zv'⟩, q⟩
  unfold m__stretch_time
  have up : ∀ {z : Int}, sz 700 z → sz 2000 z := fun h => sz_mono h (by decide)
  refine seq_step fun N hN => ?_
  walk_at "rdn"
  subst hN
  refine seq_step fun N hN => ?_
  walk_at "rdn"
  refine ⟨s, a, v, s', a', v', x, rfl, s1, s1', up zs, up zs', hx, _, rfl, ?_⟩
  have c : x = 0 ∨ x = 1 ∨ x = 2 ∨ x = 3 := by omega
  unfold ownL at q
  rcases c with rfl | rfl | rfl | rfl
  · unfold cushR
    walk_at "rdn"
    subst hN
    walk_at "rdn"
    exact str_time s1 s1' v0 l0 lh hs ⟨zs, za, zv, zs', za', zv'⟩ q
  · unfold cushR
    walk_at "rdn"
    subst hN
    walk_at "rdn"
    exact str_time s1 s1' v0 l0 lh hs ⟨zs, za, zv, zs', za', zv'⟩ q
  · unfold cushR
    walk_at "rdn"
    subst hN
    walk_at "rdn"
    exact str_time s1' s1 v0' l0 lh hs ⟨zs', za', zv', zs, za, zv⟩ q
  · unfold cushR
    walk_at "rdn"
    subst hN
    walk_at "rdn"
    exact str_time s1' s1 v0' l0 lh hs ⟨zs', za', zv', zs, za, zv⟩ q
section
variable {P : Program} {w : World} {K : PySem.W.Frag} {mg : Str → Option Value} {base : Heap} {CN : String → Option Addr}
theorem ok__stretch_time {f : Addr} {fd : FuncData} (F : Fun K "_stretch_time" "_stretch_time" s__stretch_time f fd) (g : G K mg CN) (c__first_time : CalP P w K mg base CN 4 "_first_time" D__first_time) (c_cushion_marks : CalP P w K mg base CN 2 "cushion_marks" D_cushion_marks) : FnG P w K mg base 5 f fd ["lines", "stretch"] (spP K CN D__stretch_time) := by
  have sc := sc__stretch_time
  exact fun_okP (m := m__stretch_time) F sc (by decide) len__stretch_time (fun cdv A outer s H E C W hw hr tk =>
    (pds_cons (pds_asg (ps_asg (dv 1) (pdg_tup rfl (gcons (dg 2 sc.nd) (gcons (dg 3 sc.nd) (gcons (dg 4 sc.nd) pdgs_nil))))))
    (pds_cons (pds_asg (ps_asg (pd_call c_cushion_marks hr (by decide) tk (pda_cons (dv 0) (pda_cons (dv 2) pda_nil))) (pdg_tup rfl (gcons (dg 5 sc.nd) (gcons (dg 6 sc.nd) (gcons (dg 7 sc.nd) pdgs_nil))))))
    (pds_one (pds_ret (pdr_of (pd_call c__first_time hr (by decide) tk (pda_cons (dv 5) (pda_cons (dv 6) (pda_cons (dv 7) (pda_cons (dv 3) (pda_cons (dv 4) pda_nil)))))))))))) rd__stretch_time
end
def m_is_stretch (W : WD) : MS :=
  mSeq (mIf (mTOr (mTNot (mT (mOp1 (bIsi [.kTup]) (mVar 1)))) (mT (mOp2 opNe (mCallB bLen (mCons (mVar 1) (mNil))) (mC (.int 3))))) (mRet (mrOf (mC (.bool false)))) (mNext))
  (mSeq (mAsg (mVar 1) (mgTup 3 (mgCons (mgName 2) (mgCons (mgName 3) (mgCons (mgName 4) (mgNil))))))
  (mSeq (mIf (mTOr (mTNot (mT (mCall D_is_cushion W (mCons (mVar 2) (mNil))))) (mTOr (mTNot (mT (mCall D_is_whole W (mCons (mVar 3) (mNil))))) (mTNot (mT (mCall D_is_whole W (mCons (mVar 4) (mNil))))))) (mRet (mrOf (mC (.bool false)))) (mNext))
  (mSeq (mAsg (mVar 0) (mgTup 2 (mgCons (mgName 5) (mgCons (mgName 6) (mgNil)))))
  (mSeq (mIf (mT (mOp2 opIn (mVar 2) (mTup (mCons (mC (.str "W")) (mCons (mC (.str "E")) (mNil)))))) (mRet (mrOf (mChain3 opLe opLe opLe (mC (.int 0)) (mVar 3) (mVar 4) (mVar 6)))) (mNext))
  (mRet (mrOf (mChain3 opLe opLe opLe (mC (.int 0)) (mVar 3) (mVar 4) (mVar 5))))))))
def strSide (a b : Int) : PyData → Int
  | .str z => if (decide (z = "W") || decide (z = "E")) = true then b else a
  | _ => a
def isStr3 (a b : Int) (c l h : PyData) : Bool := match l, h with
  | .int lo, .int hi => isCush c && (decide (0 ≤ lo) && decide (lo ≤ hi) && decide (hi ≤ strSide a b c))
  | _, _ => false
def isStretch : PyData → PyData → Bool
  | .tuple [.int a, .int b], .tuple [c, l, h] => isStr3 a b c l h
  | _, _ => false
theorem cush_str {c : PyData} (h : isCush c = true) : ∃ x : Nat, x < 4 ∧ c = .str (letS x) := by
  unfold isCush at h
  split at h
  · rename_i z
    simp only [Bool.or_eq_true, decide_eq_true_eq] at h
    rcases h with ((h | h) | h) | h
    · exact ⟨0, by decide, by rw [h]; rfl⟩
    · exact ⟨1, by decide, by rw [h]; rfl⟩
    · exact ⟨2, by decide, by rw [h]; rfl⟩
    · exact ⟨3, by decide, by rw [h]; rfl⟩
  · cases h
theorem side_let {a b : Int} {x : Nat} (hx : x < 4) : strSide a b (.str (letS x)) = if x < 2 then b else a := by
  have c : x = 0 ∨ x = 1 ∨ x = 2 ∨ x = 3 := by omega
  unfold strSide
  rcases c with rfl | rfl | rfl | rfl
  · exact if_pos (by decide +kernel)
  · exact if_pos (by decide +kernel)
  · exact if_neg (by decide +kernel)
  · exact if_neg (by decide +kernel)
theorem str_inv {a b : Int} {d : PyData} (h : isStretch (.tuple [.int a, .int b]) d = true) : ∃ (x : Nat) (lo hi : Int), d = .tuple [.str (letS x), .int lo, .int hi] ∧ x < 4 ∧ 0 ≤ lo ∧ lo ≤ hi ∧ hi ≤ (if x < 2 then b else a) := by
  unfold isStretch at h
  split at h
  · rename_i a b c l h' e1
    simp only [PyData.tuple.injEq, List.cons.injEq, PyData.int.injEq, and_true] at e1
    obtain ⟨rfl, rfl⟩ := e1
    unfold isStr3 at h
    split at h
    · rename_i lo hi
      simp only [Bool.and_eq_true, decide_eq_true_eq] at h
      obtain ⟨x, hx, rfl⟩ := cush_str h.1
      rw [side_let hx] at h
      exact ⟨x, lo, hi, rfl, hx, h.2.1.1, h.2.1.2, h.2.2⟩
    · cases h
  · cases h
def D_is_stretch : PSpec := fun ds Q _ => ∃ a b d, ds = [.tuple [.int a, .int b], d] ∧ Q (.va (.bool (isStretch (.tuple [.int a, .int b]) d)))
theorem len_is_stretch : ∀ ds Q E, D_is_stretch ds Q E → ds.length = 2 := by
  rintro _ Q E ⟨a, b, d, rfl, _⟩
  rfl
theorem opIn_we {z : Str} : opIn (.str z) (.tuple [.str "W", .str "E"]) = some (.bool (decide (z = "W") || decide (z = "E"))) := by
  simp [opIn, opInS, items, flatD, PyData.eqv]
  have c : ∀ a b : Str, (a == b) = decide (b = a) := fun a b => by
    by_cases h : b = a
    · subst h; simp
    · rw [decide_eq_false h, beq_false_of_ne (Ne.symm h)]
  rw [c "W", c "E"]
theorem rd_is_stretch : ∀ ds Q E, D_is_stretch ds Q E → m_is_stretch (fun c _ => E c) (endP Q) (slots0 7 ds) := by
  rintro _ Q E ⟨a, b, d, rfl, q⟩
  unfold m_is_stretch
  have first : ∀ N : DSt → Prop, (isStretch (.tuple [.int a, .int b]) d = false → Q (.va (.bool false))) → ((∃ c l h, d = .tuple [c, l, h]) → N [.va (.tuple [.int a, .int b]), .va d, .no, .no, .no, .no, .no]) → mIf (mTOr (mTNot (mT (mOp1 (bIsi [.kTup]) (mVar 1)))) (mT (mOp2 opNe (mCallB bLen (mCons (mVar 1) (mNil))) (mC (.int 3))))) (mRet (mrOf (mC (.bool false)))) (mNext) { endP Q with nx := N } (slots0 7 [.tuple [.int a, .int b], d]) := by
    intro N hf hN
    by_cases c : ∃ c l h, d = .tuple [c, l, h]
    · obtain ⟨c, l, h, rfl⟩ := c
      refine if_run false (fun Q' h' => ?_) (fun hc => by cases hc) (fun _ => hN ⟨c, l, h, rfl⟩)
      walk_at "rdn"
      exact h'
    · have hfalse : isStretch (.tuple [.int a, .int b]) d = false := by
        unfold isStretch
        split
        · exact absurd ⟨_, _, _, rfl⟩ c
        · rfl
      refine if_run true (fun Q' h' => ?_) (fun _ => hf hfalse) (fun hc => by cases hc)
      cases d with
      | tuple xs =>
        walk_at "rdn"
        have : ¬ (xs.length : Int) = 3 := by
          intro z
          match xs, z with
          | [x, y, w], _ => exact c ⟨x, y, w, rfl⟩
          | [], z => simp at z
          | [x], z => simp at z
          | [x, y], z => simp at z
          | x :: y :: w :: u :: r, z => simp at z; omega
        rw [decide_eq_false this]
        exact h'
      | _ => walk_at "rdn"; exact h'
  refine seq_step fun N hN => ?_
  refine first N (fun hf => by rw [hf] at q; exact q) fun ⟨c, l, h, hd⟩ => ?_
  subst hd hN
  refine seq_step fun N hN => ?_
  walk_at "rdn"
  subst hN
  have q : Q (.va (.bool (isStr3 a b c l h))) := q
  refine seq_step fun N hN => ?_
  cases hc : isCush c with
  | false =>
    refine if_run true (fun Q' h' => ?_) (fun _ => ?_) (fun hc => by cases hc)
    · walk_at "rdn"
      refine ⟨c, rfl, _, rfl, _, rfl, ?_⟩
      rw [hc, if_pos (by decide)]
      exact h'
    · walk_at "rdn"
      have : isStr3 a b c l h = false := by
        unfold isStr3
        split
        · rw [hc]; rfl
        · rfl
      rw [this] at q
      exact q
  | true =>
    obtain ⟨x, hx, rfl⟩ := cush_str hc
    cases hl : isInt l with
    | false =>
      refine if_run true (fun Q' h' => ?_) (fun _ => ?_) (fun hc => by cases hc)
      · walk_at "rdn"
        refine ⟨_, rfl, _, rfl, _, rfl, ?_⟩
        rw [hc, if_neg (by decide)]
        refine ⟨l, rfl, _, rfl, _, rfl, ?_⟩
        rw [hl, if_pos (by decide)]
        exact h'
      · walk_at "rdn"
        have : isStr3 a b (.str (letS x)) l h = false := by
          unfold isStr3
          split
          · cases hl
          · rfl
        rw [this] at q
        exact q
    | true =>
      obtain ⟨lo, rfl⟩ := isInt_inv hl
      cases hh : isInt h with
      | false =>
        refine if_run true (fun Q' h' => ?_) (fun _ => ?_) (fun hc => by cases hc)
        · walk_at "rdn"
          refine ⟨_, rfl, _, rfl, _, rfl, ?_⟩
          rw [hc, if_neg (by decide)]
          refine ⟨_, rfl, _, rfl, _, rfl, ?_⟩
          rw [hl, if_neg (by decide)]
          refine ⟨h, rfl, _, rfl, _, rfl, ?_⟩
          rw [hh]
          exact h'
        · walk_at "rdn"
          have : isStr3 a b (.str (letS x)) (.int lo) h = false := by
            unfold isStr3
            split
            · cases hh
            · rfl
          rw [this] at q
          exact q
      | true =>
        obtain ⟨hi, rfl⟩ := isInt_inv hh
        refine if_run false (fun Q' h' => ?_) (fun hc => by cases hc) (fun _ => ?_)
        · walk_at "rdn"
          refine ⟨_, rfl, _, rfl, _, rfl, ?_⟩
          rw [hc, if_neg (by decide)]
          refine ⟨_, rfl, _, rfl, _, rfl, ?_⟩
          rw [hl, if_neg (by decide)]
          refine ⟨_, rfl, _, rfl, _, rfl, ?_⟩
          rw [hh]
          exact h'
        walk_at "rdn"
        subst hN
        refine seq_step fun N hN => ?_
        walk_at "rdn"
        subst hN
        have q : Q (.va (.bool (isCush (.str (letS x)) && (decide (0 ≤ lo) && decide (lo ≤ hi) && decide (hi ≤ strSide a b (.str (letS x))))))) := q
        rw [hc, Bool.true_and] at q
        have q : Q (.va (.bool (decide (0 ≤ lo) && decide (lo ≤ hi) && decide (hi ≤ if (decide (letS x = "W") || decide (letS x = "E")) = true then b else a)))) := q
        refine seq_step fun N hN => ?_
        by_cases we : (decide (letS x = "W") || decide (letS x = "E")) = true
        · rw [if_pos we] at q
          refine if_run true (fun Q' h' => ?_) (fun _ => ?_) (fun hc => by cases hc)
          · walk_at "rdn"
            refine ⟨_, opIn_we, _, rfl, ?_⟩
            rw [we]
            exact h'
          · walk_at "rdn"
            simp only [mChain3]
            walk_at "rdn"
            by_cases h1 : 0 ≤ lo <;> by_cases h2 : lo ≤ hi <;> by_cases h3 : hi ≤ b <;> simpa [h1, h2, h3] using q
        · rw [if_neg we] at q
          refine if_run false (fun Q' h' => ?_) (fun hc => by cases hc) (fun _ => ?_)
          · walk_at "rdn"
            refine ⟨_, opIn_we, _, rfl, ?_⟩
            rw [Bool.eq_false_iff.mpr we]
            exact h'
          · walk_at "rdn"
            subst hN
            walk_at "rdn"
            simp only [mChain3]
            walk_at "rdn"
            by_cases h1 : 0 ≤ lo <;> by_cases h2 : lo ≤ hi <;> by_cases h3 : hi ≤ a <;> simpa [h1, h2, h3] using q
section
variable {P : Program} {w : World} {K : PySem.W.Frag} {mg : Str → Option Value} {base : Heap} {CN : String → Option Addr}
theorem ok_is_stretch {f : Addr} {fd : FuncData} (F : Fun K "is_stretch" "is_stretch" s_is_stretch f fd) (g : G K mg CN) (c_is_cushion : CalP P w K mg base CN 1 "is_cushion" D_is_cushion) (c_is_whole : CalP P w K mg base CN 1 "is_whole" D_is_whole) : FnG P w K mg base 2 f fd ["table", "value"] (spP K CN D_is_stretch) := by
  have sc := sc_is_stretch
  exact fun_okP (m := m_is_stretch) F sc (by decide) len_is_stretch (fun cdv A outer s H E C W hw hr tk =>
    (pds_cons (pds_if (pdt_ofw (pdw_or (pdt_not (pdt_val (pd_isi1 .kTup g.b_isinstance g.b_tuple (dv 1)))) (pdw_or1 (pdt_cmp (or_neD (RoomG.u64 hr)) rl_ne (pd_callB cr_len rc_len g.b_len (by decide +kernel) (pda_cons (dv 1) pda_nil)) pd_int (nomark _))))) (pds_one (pds_ret (pdr_of pd_bl))) pds_nil)
    (pds_cons (pds_asg (ps_asg (dv 1) (pdg_tup rfl (gcons (dg 2 sc.nd) (gcons (dg 3 sc.nd) (gcons (dg 4 sc.nd) pdgs_nil))))))
    (pds_cons (pds_if (pdt_ofw (pdw_or (pdt_not (pdt_val (pd_call c_is_cushion hr (by decide) tk (pda_cons (dv 2) pda_nil)))) (pdw_or (pdt_not (pdt_val (pd_call c_is_whole hr (by decide) tk (pda_cons (dv 3) pda_nil)))) (pdw_or1 (pdt_not (pdt_val (pd_call c_is_whole hr (by decide) tk (pda_cons (dv 4) pda_nil)))))))) (pds_one (pds_ret (pdr_of pd_bl))) pds_nil)
    (pds_cons (pds_asg (ps_asg (dv 0) (pdg_tup rfl (gcons (dg 5 sc.nd) (gcons (dg 6 sc.nd) pdgs_nil)))))
    (pds_cons (pds_if (pdt_cmp or_in rl_in (dv 2) (pd_tup (pda_cons pd_str (pda_cons pd_str pda_nil))) rfl) (pds_one (pds_ret (pdr_of (pd_chain3 op_le op_le op_le rl_cmpI rl_cmpI rl_cmpI pd_int (dv 3) (dv 4) (dv 6))))) pds_nil)
    (pds_one (pds_ret (pdr_of (pd_chain3 op_le op_le op_le rl_cmpI rl_cmpI rl_cmpI pd_int (dv 3) (dv 4) (dv 5))))))))))) rd_is_stretch
end
end LW
namespace LW
open PySem PySem.Spec PyProof.Rows L2 DL
theorem cushM_is {s a r : Int} (hs : 1 ≤ s) : cushM s a r = s * (a / s + 1 + (r - (a / s + 1)) % 2) := by
  unfold cushM
  have e := Int.emod_add_mul_ediv a s
  have e1 := Int.emod_nonneg a (show s ≠ 0 by omega)
  have e2 := Int.emod_lt_of_pos a (show 0 < s by omega)
  have f := Int.emod_add_mul_ediv (r - (a / s + 1)) 2
  have f0 : (r - (a / s + 1)) % 2 = 0 ∨ (r - (a / s + 1)) % 2 = 1 := by omega
  generalize a / s = P at *
  generalize hg : (r - (P + 1)) % 2 = g at *
  generalize (r - (P + 1)) / 2 = h at *
  have : (r * s - (a + 1)) % (2 * s) = s * (P + 1 + g) - (a + 1) := by
    have k : r * s - (a + 1) = (s * (P + 1 + g) - (a + 1)) + 2 * s * h := by
      have hr : r = P + 1 + g + 2 * h := by omega
      rw [hr]
      grind
    rw [k, Int.add_mul_emod_self_left]
    refine Int.emod_eq_of_lt ?_ ?_
    · rcases f0 with z | z <;> rw [z] <;> simp only [Int.mul_add, Int.mul_one, Int.mul_zero] <;> omega
    · rcases f0 with z | z <;> rw [z] <;> simp only [Int.mul_add, Int.mul_one, Int.mul_zero] <;> omega
  rw [this]
  omega
section
variable {s A V n m n' m' T B g : Int}
/-- what P, D, F are at a time that is T / B later: g rounds to and fro -/
theorem later_line (hs : 1 ≤ s) (hm : 1 ≤ m) (hm' : 1 ≤ m') (hB : 1 ≤ B) (e : V * T = 2 * s * B * g) (ht : n' * (m * B) = (n * B + T * m) * m') :
    rP s A V n' m' = rP s A V n m + 2 * g ∧ rD s A V n' m' * m = rD s A V n m * m' := by
  have M0 : 0 < m * B := Int.mul_pos (by omega) (by omega)
  obtain ⟨d0, d1⟩ := rD_facts (A := A) (V := V) (n := n) hs hm
  have dd : rD s A V n m = s * m * (rP s A V n m + 1) - (A * m + V * n) := rfl
  have key : m * (s * m' * (rP s A V n m + 2 * g + 1) - (A * m' + V * n')) = rD s A V n m * m' := by
    refine Int.eq_of_mul_eq_mul_left (show B ≠ 0 by omega) ?_
    generalize rP s A V n m = P at *
    generalize rD s A V n m = D at *
    grind
  have up : 0 < s * m' * (rP s A V n m + 2 * g + 1) - (A * m' + V * n') := pos_of_mul (c := m) (by omega) (by rw [key]; exact Int.mul_pos d0 (by omega))
  have lo : 0 ≤ s * m' - (s * m' * (rP s A V n m + 2 * g + 1) - (A * m' + V * n')) := by
    refine nonneg_of_mul (c := m) (by omega) ?_
    rw [Int.mul_sub, key]
    have : m * (s * m') - rD s A V n m * m' = (s * m - rD s A V n m) * m' := by
      generalize rD s A V n m = D at *
      grind
    rw [this]
    exact Int.mul_nonneg (by omega) (by omega)
  have p : rP s A V n' m' = rP s A V n m + 2 * g := rP_of hs hm' (by rw [Int.mul_add (s * m') _ 1] at lo; omega) (by omega)
  refine ⟨p, ?_⟩
  have : rD s A V n' m' = s * m' * (rP s A V n m + 2 * g + 1) - (A * m' + V * n') := by unfold rD; rw [p]
  rw [this, Int.mul_comm, key]
theorem later_letter {x w : Str} (hs : 1 ≤ s) (hm : 1 ≤ m) (hm' : 1 ≤ m') (p : rP s A V n' m' = rP s A V n m + 2 * g) (d : rD s A V n' m' * m = rD s A V n m * m') : letter s A V n' m' x w = letter s A V n m x w := by
  have zero : ∀ n m : Int, 1 ≤ m → ((A * m + V * n) % (s * m) = 0 ↔ rD s A V n m = s * m) := by
    intro n m hm
    have M0 : 0 < s * m := Int.mul_pos (by omega) (by omega)
    obtain ⟨d0, d1⟩ := rD_facts (A := A) (V := V) (n := n) hs hm
    have e1 := Int.emod_add_mul_ediv (A * m + V * n) (s * m)
    have e : rD s A V n m = s * m * (rP s A V n m + 1) - (A * m + V * n) := rfl
    have e2 : rP s A V n m = (A * m + V * n) / (s * m) := rfl
    rw [Int.mul_add, e2] at e
    omega
  have z : ((A * m' + V * n') % (s * m') = 0) = ((A * m + V * n) % (s * m) = 0) := by
    rw [zero n' m' hm', zero n m hm]
    refine propext ⟨fun h => ?_, fun h => ?_⟩
    · rw [h] at d
      refine (Int.eq_of_mul_eq_mul_right (show m' ≠ 0 by omega) ?_)
      rw [← d]
      simp only [Int.mul_assoc, Int.mul_comm, Int.mul_left_comm]
    · rw [h] at d
      refine (Int.eq_of_mul_eq_mul_right (show m ≠ 0 by omega) ?_)
      rw [d]
      simp only [Int.mul_assoc, Int.mul_comm, Int.mul_left_comm]
  have q : (rP s A V n' m' % 2 = 0) = (rP s A V n m % 2 = 0) := by
    rw [p]
    exact propext ⟨fun h => by omega, fun h => by omega⟩
  unfold letter
  simp only [z, q]
theorem later_place (hs : 1 ≤ s) (hm : 1 ≤ m) (hm' : 1 ≤ m') (p : rP s A V n' m' = rP s A V n m + 2 * g) (d : rD s A V n' m' * m = rD s A V n m * m') : fracD (rF s A V n' m') m' = fracD (rF s A V n m) m := by
  refine fracD_ratio hm' hm ?_
  unfold rF
  rw [p]
  by_cases c : rP s A V n m % 2 = 0
  · rw [if_pos c, if_pos (by omega), Int.sub_mul, Int.sub_mul, d]
    simp only [Int.mul_assoc, Int.mul_comm, Int.mul_left_comm]
  · rw [if_neg c, if_neg (by omega), d]
end
/-- a period of both lines -/
structure Per (L : Ls) (T B g h : Int) : Prop where
  t1 : 1 ≤ T
  b1 : 1 ≤ B
  c : Nat.gcd T.natAbs B.natAbs = 1
  e1 : L.V * T = 2 * L.s * B * g
  e2 : L.U * T = 2 * L.z * B * h
  g0 : 0 ≤ g
  h0 : 0 ≤ h
  gh : Nat.gcd g.natAbs h.natAbs = 1
def plus (T B : Int) (t : Int × Int) : Int × Int := lowP (t.1 * B + T * t.2) (t.2 * B)
/-- which line is next, by P alone -/
theorem first_by {L : Ls} {t t' : Int × Int} (m1 : 1 ≤ t.2) (m1' : 1 ≤ t'.2) (ok : L.Ok) {a : Int} (ha : ((L.P t' + 1) * L.s - L.A) * L.U = ((L.P t + 1) * L.s - L.A) * L.U + a) (hb : ((L.P' t' + 1) * L.z - L.B) * L.V = ((L.P' t + 1) * L.z - L.B) * L.V + a) : L.first t' = L.first t := by
  have by_E : ∀ t : Int × Int, 1 ≤ t.2 → (L.D t * L.U ≤ L.D' t * L.V ↔ ((L.P t + 1) * L.s - L.A) * L.U ≤ ((L.P' t + 1) * L.z - L.B) * L.V) := by
    intro t ht
    have e1 : L.D t * L.U = t.2 * (((L.P t + 1) * L.s - L.A) * L.U) - L.V * L.U * t.1 := by
      have : L.D t = L.s * t.2 * (L.P t + 1) - (L.A * t.2 + L.V * t.1) := rfl
      rw [this]
      generalize L.P t = P
      grind
    have e2 : L.D' t * L.V = t.2 * (((L.P' t + 1) * L.z - L.B) * L.V) - L.V * L.U * t.1 := by
      have : L.D' t = L.z * t.2 * (L.P' t + 1) - (L.B * t.2 + L.U * t.1) := rfl
      rw [this]
      generalize L.P' t = P
      grind
    rw [e1, e2]
    constructor
    · intro h
      exact Int.le_of_mul_le_mul_left (a := t.2) (by omega) (by omega)
    · intro h
      have := Int.mul_le_mul_of_nonneg_left h (show 0 ≤ t.2 by omega)
      omega
  unfold Ls.first
  have q : (L.D t' * L.U ≤ L.D' t' * L.V) = (L.D t * L.U ≤ L.D' t * L.V) := by
    rw [by_E t m1, by_E t' m1', ha, hb]
    exact propext ⟨fun h => by omega, fun h => by omega⟩
  simp only [q]
theorem next_by {L : Ls} {t t' : Int × Int} (m1 : 1 ≤ t.2) (m1' : 1 ≤ t'.2) (ok : L.Ok) (hp : L.P t' = L.P t) (hq : L.P' t' = L.P' t) : L.next t' = L.next t := by
  have f := first_by (a := 0) m1 m1' ok (by rw [hp]; omega) (by rw [hq]; omega)
  unfold Ls.next
  rw [f, hp, hq]
theorem plus_P {L : Ls} {T B g h : Int} (ok : L.Ok) (R : Per L T B g h) {t : Int × Int} (m1 : 1 ≤ t.2) : 1 ≤ (plus T B t).2 ∧ L.P (plus T B t) = L.P t + 2 * g ∧ L.P' (plus T B t) = L.P' t + 2 * h ∧ L.D (plus T B t) * t.2 = L.D t * (plus T B t).2 ∧ L.D' (plus T B t) * t.2 = L.D' t * (plus T B t).2 := by
  have B1 := R.b1
  have mb : 0 < t.2 * B := Int.mul_pos (by omega) (by omega)
  obtain ⟨f1, f2, -⟩ := lowP_facts (t := t.1 * B + T * t.2) (b := t.2 * B) (by omega)
  obtain ⟨a1, a2⟩ := later_line (A := L.A) ok.s1 m1 f2 B1 R.e1 f1
  obtain ⟨b1, b2⟩ := later_line (A := L.B) ok.z1 m1 f2 B1 R.e2 f1
  exact ⟨f2, a1, b1, a2, b2⟩
theorem plus_word {L : Ls} {T B g h : Int} (ok : L.Ok) (R : Per L T B g h) {t : Int × Int} (m1 : 1 ≤ t.2) : L.word (plus T B t) = L.word t ∧ L.place (plus T B t) = L.place t := by
  obtain ⟨f2, a1, b1, a2, b2⟩ := plus_P ok R m1
  refine ⟨?_, ?_⟩
  · unfold Ls.word
    rw [later_letter ok.s1 m1 f2 a1 a2, later_letter ok.z1 m1 f2 b1 b2]
  · unfold Ls.place
    have p1 : fracD (L.F (plus T B t)) (plus T B t).2 = fracD (L.F t) t.2 := later_place ok.s1 m1 f2 a1 a2
    have p2 : fracD (L.F' (plus T B t)) (plus T B t).2 = fracD (L.F' t) t.2 := later_place ok.z1 m1 f2 b1 b2
    rw [p1, p2]
theorem plus_next {L : Ls} {T B g h : Int} (ok : L.Ok) (R : Per L T B g h) {t : Int × Int} (m1 : 1 ≤ t.2) : L.next (plus T B t) = plus T B (L.next t) := by
  obtain ⟨f2, a1, b1, -, -⟩ := plus_P ok R m1
  have B1 := R.b1
  have e1 := R.e1
  have e2 := R.e2
  have hf : L.first (plus T B t) = L.first t := by
    refine first_by (a := 2 * g * L.s * L.U) m1 f2 ok ?_ ?_
    · rw [a1]
      generalize L.P t = P
      grind
    · rw [b1]
      have : 2 * g * L.s * L.U = 2 * h * L.z * L.V := by
        refine Int.eq_of_mul_eq_mul_right (show B ≠ 0 by omega) ?_
        have q1 : 2 * g * L.s * L.U * B = L.V * T * L.U := by rw [e1]; simp only [Int.mul_assoc, Int.mul_comm, Int.mul_left_comm]
        have q2 : 2 * h * L.z * L.V * B = L.U * T * L.V := by rw [e2]; simp only [Int.mul_assoc, Int.mul_comm, Int.mul_left_comm]
        rw [q1, q2]
        simp only [Int.mul_assoc, Int.mul_comm, Int.mul_left_comm]
      rw [this]
      generalize L.P' t = P
      grind
  have main : ∀ (V s A P g : Int), 1 ≤ V → V * T = 2 * s * B * g → lowP ((P + 2 * g + 1) * s - A) V = plus T B (lowP ((P + 1) * s - A) V) := by
    intro V s A P g hV e
    unfold plus
    obtain ⟨x1, x2, -⟩ := lowP_facts (t := (P + 1) * s - A) (b := V) hV
    generalize (lowP ((P + 1) * s - A) V).1 = u at *
    generalize (lowP ((P + 1) * s - A) V).2 = v at *
    have vb : 0 < v * B := Int.mul_pos (by omega) (by omega)
    refine lowP_ratio hV (by omega) ?_
    grind
  have v0 := ok.v0
  have u0 := ok.u0
  have w := ok.w
  unfold Ls.next
  rw [hf]
  by_cases c : L.first t = true
  · rw [if_pos c, if_pos c, a1]
    have hV : 1 ≤ L.V := by
      unfold Ls.first at c
      simp only [Bool.and_eq_true, decide_eq_true_eq] at c
      omega
    exact main L.V L.s L.A (L.P t) g hV e1
  · rw [if_neg c, if_neg c, b1]
    have hU : 1 ≤ L.U := by
      unfold Ls.first at c
      simp only [Bool.not_eq_true, Bool.and_eq_false_iff, Bool.or_eq_false_iff, decide_eq_false_iff_not] at c
      omega
    exact main L.U L.z L.B (L.P' t) h hU e2
theorem plus_zero {L : Ls} {T B g h : Int} (R : Per L T B g h) : plus T B (0, 1) = (T, B) := by
  unfold plus lowP
  simp only [Int.zero_mul, Int.zero_add, Int.mul_one, Int.one_mul]
  rw [R.c]
  simp
/-- so many hits up to the period's end, and behind it they come again -/
theorem round_hitsC {L : Ls} {T B g h : Int} (R : LRow L) (Q : Per L T B g h) : ∃ c : Nat, (c : Int) ≤ 2 * g + 2 * h ∧ le (L.at c) (T, B) ∧ ¬ le (L.at (c + 1)) (T, B) ∧ L.P (L.at c) = L.P (0, 1) + 2 * g ∧ L.P' (L.at c) = L.P' (0, 1) + 2 * h ∧ ∀ i : Nat, L.at (c + (i + 1)) = plus T B (L.at (i + 1)) := by
  have B1 := Q.b1
  obtain ⟨-, pp, pq, -, -⟩ := plus_P R.ok Q (t := (0, 1)) (by decide)
  rw [plus_zero Q] at pp pq
  have bound : ∀ j : Nat, le (L.at j) (T, B) → (j : Int) ≤ 2 * g + 2 * h := by
    intro j hj
    have h1 := at_count R j
    have h2 : L.P (L.at j) ≤ L.P (T, B) := rP_mono R.ok.s1 (R.gd j).m1 B1 R.ok.v0 hj
    have h3 : L.P' (L.at j) ≤ L.P' (T, B) := rP_mono R.ok.z1 (R.gd j).m1 B1 R.ok.u0 hj
    omega
  have ex : ∀ k : Nat, (∃ c : Nat, le (L.at c) (T, B) ∧ ¬ le (L.at (c + 1)) (T, B)) ∨ le (L.at k) (T, B) := by
    intro k
    induction k with
    | zero =>
      right
      show (0 : Int) * B ≤ T * 1
      have := Q.t1
      omega
    | succ k ih =>
      rcases ih with ih | ih
      · exact .inl ih
      · by_cases c : le (L.at (k + 1)) (T, B)
        · exact .inr c
        · exact .inl ⟨k, ih, c⟩
  obtain ⟨c, c1, c2⟩ : ∃ c : Nat, le (L.at c) (T, B) ∧ ¬ le (L.at (c + 1)) (T, B) := by
    rcases ex ((2 * g + 2 * h).toNat + 1) with e | e
    · exact e
    · have := bound _ e
      have := Q.g0
      have := Q.h0
      omega
  obtain ⟨-, -, -, -, bt⟩ := L.turn2 R.ok (R.gd c)
  have nx : L.at (c + 1) = L.next (L.at c) := rfl
  have c2' : T * (L.next (L.at c)).2 < (L.next (L.at c)).1 * B := by
    have z : ¬ ((L.next (L.at c)).1 * B ≤ T * (L.next (L.at c)).2) := c2
    omega
  obtain ⟨b1, b2⟩ := bt T B B1 c1 c2'
  refine ⟨c, bound c c1, c1, c2, by omega, by omega, ?_⟩
  intro i
  induction i with
  | zero =>
    have e1 : L.next (T, B) = L.next (L.at c) := next_by (R.gd c).m1 B1 R.ok b1 b2
    have e2 : L.next (plus T B (0, 1)) = plus T B (L.next (0, 1)) := plus_next R.ok Q (by decide)
    rw [plus_zero Q] at e2
    show L.next (L.at c) = plus T B (L.next (0, 1))
    rw [← e1, e2]
  | succ i ih =>
    show L.next (L.at (c + (i + 1))) = plus T B (L.next (L.at (i + 1)))
    rw [ih]
    exact plus_next R.ok Q (R.gd (i + 1)).m1
/-- a hit of a letter at which the other number lies from lo to hi -/
def LaneP (L : Ls) (x : Nat) (lo hi : Int) (t : Int × Int) : Prop := hasL L t x = true ∧ (if x < 2 then lo * t.2 ≤ L.F' t ∧ L.F' t ≤ hi * t.2 else lo * t.2 ≤ L.F t ∧ L.F t ≤ hi * t.2)
def LaneK (L : Ls) (x : Nat) (lo hi k : Int) : Prop := 0 ≤ k ∧ LaneP L x lo hi (L.at (k.toNat + 1))
/-- a line is at a mark of a cushion ahead of its start: it hits there -/
theorem mark_hit {s A V r : Int} {t : Int × Int} (s1 : 1 ≤ s) (V0 : 0 < V) (hr : r = 0 ∨ r = 1) (t1 : 1 ≤ t.2) (t0 : 0 ≤ t.1) : (∃ k : Int, 0 ≤ k ∧ A * t.2 + V * t.1 = (cushM s A r + 2 * s * k) * t.2) ↔ 0 < t.1 ∧ (A * t.2 + V * t.1) % (s * t.2) = 0 ∧ rP s A V t.1 t.2 % 2 = r := by
  rw [cushM_is s1]
  have S1 : 0 < s * t.2 := Int.mul_pos (by omega) (by omega)
  have eA := Int.emod_add_mul_ediv A s
  have a1 := Int.emod_lt_of_pos A (show 0 < s by omega)
  have a0 := Int.emod_nonneg A (show s ≠ 0 by omega)
  have j0 : A / s + 1 ≤ A / s + 1 + (r - (A / s + 1)) % 2 ∧ (A / s + 1 + (r - (A / s + 1)) % 2) % 2 = r ∧ A / s + 1 + (r - (A / s + 1)) % 2 ≤ A / s + 2 := by omega
  generalize A / s + 1 + (r - (A / s + 1)) % 2 = j at *
  constructor
  · rintro ⟨k, k0, e⟩
    have e2 : (s * j + 2 * s * k) * t.2 = s * t.2 * (j + 2 * k) := by grind
    rw [e2] at e
    have P : rP s A V t.1 t.2 = j + 2 * k := by
      unfold rP
      rw [e, Int.mul_ediv_cancel_left _ (by omega)]
    refine ⟨?_, by rw [e, Int.mul_emod_right], by rw [P]; omega⟩
    have m1 : s * (A / s + 1) ≤ s * (j + 2 * k) := Int.mul_le_mul_of_nonneg_left (by omega) (by omega)
    rw [Int.mul_add] at m1
    have m2 : A < s * (j + 2 * k) := by omega
    have m3 := Int.mul_lt_mul_of_pos_right m2 (show 0 < t.2 by omega)
    have e3 : s * (j + 2 * k) * t.2 = s * t.2 * (j + 2 * k) := by simp only [Int.mul_assoc, Int.mul_comm, Int.mul_left_comm]
    exact pos_of_mul V0 (by omega)
  · rintro ⟨n0, z, p⟩
    have e := Int.mul_ediv_add_emod (A * t.2 + V * t.1) (s * t.2)
    have eP : rP s A V t.1 t.2 = (A * t.2 + V * t.1) / (s * t.2) := rfl
    rw [z, ← eP, Int.add_zero] at e
    have ge : A / s + 1 ≤ rP s A V t.1 t.2 := by
      refine Classical.byContradiction fun c => ?_
      have m1 := Int.mul_le_mul_of_nonneg_left (show rP s A V t.1 t.2 ≤ A / s by omega) (show 0 ≤ s * t.2 by omega)
      have m2 : s * t.2 * (A / s) = s * (A / s) * t.2 := by simp only [Int.mul_assoc, Int.mul_comm, Int.mul_left_comm]
      have m3 := Int.mul_le_mul_of_nonneg_right (show s * (A / s) ≤ A by omega) (show 0 ≤ t.2 by omega)
      have m4 := Int.mul_pos V0 n0
      omega
    generalize rP s A V t.1 t.2 = P at *
    refine ⟨(P - j) / 2, by omega, ?_⟩
    rw [← e]
    have : P = j + 2 * ((P - j) / 2) := by omega
    generalize (P - j) / 2 = k at *
    subst this
    grind
/-- the cushion's line, its other one -/
def Ls.own (L : Ls) (x : Nat) : Int × Int × Int := if x < 2 then (L.s, L.A, L.V) else (L.z, L.B, L.U)
def Ls.mate (L : Ls) (x : Nat) : Int × Int × Int := if x < 2 then (L.z, L.B, L.U) else (L.s, L.A, L.V)
def StrM (L : Ls) (x : Nat) (lo hi : Int) (t : Int × Int) : Prop := FirstM (L.own x).1 (L.own x).2.1 (L.own x).2.2 (cushM (L.own x).1 (L.own x).2.1 (x % 2 : Nat)) (L.mate x).1 (L.mate x).2.1 (L.mate x).2.2 lo hi t
theorem strM_iff {L : Ls} (ok : L.Ok) {x : Nat} (hx : x < 4) {lo hi : Int} {t : Int × Int} (t1 : 1 ≤ t.2) (t0 : 0 ≤ t.1) : StrM L x lo hi t ↔ 0 < t.1 ∧ LaneP L x lo hi t := by
  have s1 := ok.s1
  have z1 := ok.z1
  have v0 := ok.v0
  have u0 := ok.u0
  have inr1 : ∀ {lo hi}, InR L.z lo hi (L.B * t.2 + L.U * t.1) t.2 ↔ lo * t.2 ≤ L.F' t ∧ L.F' t ≤ hi * t.2 := by
    intro lo hi
    unfold InR
    rw [rF_fold z1 t1]
    exact Iff.rfl
  have inr2 : ∀ {lo hi}, InR L.s lo hi (L.A * t.2 + L.V * t.1) t.2 ↔ lo * t.2 ≤ L.F t ∧ L.F t ≤ hi * t.2 := by
    intro lo hi
    unfold InR
    rw [rF_fold s1 t1]
    exact Iff.rfl
  have c : x = 0 ∨ x = 1 ∨ x = 2 ∨ x = 3 := by omega
  have line : ∀ {s A V r : Int}, 1 ≤ s → 0 ≤ V → (r = 0 ∨ r = 1) → ((0 < V ∧ ∃ k : Int, 0 ≤ k ∧ A * t.2 + V * t.1 = (cushM s A r + 2 * s * k) * t.2) ↔ 0 < t.1 ∧ (V ≠ 0 ∧ (A * t.2 + V * t.1) % (s * t.2) = 0) ∧ rP s A V t.1 t.2 % 2 = r) := by
    intro s A V r s1 V0 hr
    constructor
    · rintro ⟨vp, h⟩
      obtain ⟨h1, h2, h3⟩ := (mark_hit s1 vp hr t1 t0).mp h
      exact ⟨h1, ⟨by omega, h2⟩, h3⟩
    · rintro ⟨h1, ⟨h0, h2⟩, h3⟩
      exact ⟨by omega, (mark_hit s1 (by omega) hr t1 t0).mpr ⟨h1, h2, h3⟩⟩
  unfold StrM FirstM LaneP Ls.own Ls.mate
  rcases c with rfl | rfl | rfl | rfl
  · have h := line (s := L.s) (A := L.A) (V := L.V) (r := 0) s1 v0 (.inl rfl)
    simp only [if_pos (show 0 < 2 by decide), hasL, Bool.and_eq_true, decide_eq_true_eq, Ls.hit, Ls.P]
    rw [← and_assoc, inr1]
    constructor
    · rintro ⟨a, b⟩
      obtain ⟨h1, h2, h3⟩ := h.mp a
      exact ⟨h1, ⟨h2, decide_eq_true h3⟩, b⟩
    · rintro ⟨h1, ⟨h2, h3⟩, b⟩
      exact ⟨h.mpr ⟨h1, h2, of_decide_eq_true h3⟩, b⟩
  · have h := line (s := L.s) (A := L.A) (V := L.V) (r := 1) s1 v0 (.inr rfl)
    simp only [if_pos (show 1 < 2 by decide), hasL, Bool.and_eq_true, Bool.not_eq_true', decide_eq_true_eq, decide_eq_false_iff_not, Ls.hit, Ls.P]
    rw [← and_assoc, inr1]
    constructor
    · rintro ⟨a, b⟩
      obtain ⟨h1, h2, h3⟩ := h.mp a
      exact ⟨h1, ⟨h2, decide_eq_false (by omega)⟩, b⟩
    · rintro ⟨h1, ⟨h2, h3⟩, b⟩
      exact ⟨h.mpr ⟨h1, h2, by have := of_decide_eq_false h3; omega⟩, b⟩
  · have h := line (s := L.z) (A := L.B) (V := L.U) (r := 0) z1 u0 (.inl rfl)
    simp only [if_neg (show ¬ 2 < 2 by decide), hasL, Bool.and_eq_true, decide_eq_true_eq, Ls.hit', Ls.P']
    rw [← and_assoc, inr2]
    constructor
    · rintro ⟨a, b⟩
      obtain ⟨h1, h2, h3⟩ := h.mp a
      exact ⟨h1, ⟨h2, decide_eq_true h3⟩, b⟩
    · rintro ⟨h1, ⟨h2, h3⟩, b⟩
      exact ⟨h.mpr ⟨h1, h2, of_decide_eq_true h3⟩, b⟩
  · have h := line (s := L.z) (A := L.B) (V := L.U) (r := 1) z1 u0 (.inr rfl)
    simp only [if_neg (show ¬ 3 < 2 by decide), hasL, Bool.and_eq_true, Bool.not_eq_true', decide_eq_true_eq, decide_eq_false_iff_not, Ls.hit', Ls.P']
    rw [← and_assoc, inr2]
    constructor
    · rintro ⟨a, b⟩
      obtain ⟨h1, h2, h3⟩ := h.mp a
      exact ⟨h1, ⟨h2, decide_eq_false (by omega)⟩, b⟩
    · rintro ⟨h1, ⟨h2, h3⟩, b⟩
      exact ⟨h.mpr ⟨h1, h2, by have := of_decide_eq_false h3; omega⟩, b⟩
theorem at_pos0 {L : Ls} (R : LRow L) (k : Nat) : 0 < (L.at (k + 1)).1 := by
  have h := R.lt_next k
  unfold lt at h
  have h0 := Int.mul_nonneg (R.gd k).n0 (show 0 ≤ (L.at (k + 1)).2 by have := (R.gd (k + 1)).m1; omega)
  have m1 := (R.gd k).m1
  refine pos_of_mul (c := (L.at k).2) (by omega) ?_
  rw [Int.mul_comm]
  omega
theorem lane_hit {L : Ls} {x : Nat} {lo hi : Int} {t : Int × Int} (hx : x < 4) (h : LaneP L x lo hi t) : L.hit t = true ∨ L.hit' t = true := by
  have c : x = 0 ∨ x = 1 ∨ x = 2 ∨ x = 3 := by omega
  have h := h.1
  rcases c with rfl | rfl | rfl | rfl <;> simp only [hasL, Bool.and_eq_true] at h
  · exact .inl h.1
  · exact .inl h.1
  · exact .inr h.1
  · exact .inr h.1
/-- the first time tells the index of the first hit -/
theorem stretch_least {L : Ls} (R : LRow L) {x : Nat} (hx : x < 4) {lo hi : Int} {o : Option (Int × Int)} (h : LeastT (StrM L x lo hi) o) : Least (LaneK L x lo hi) (o.map fun t => L.N t - 1) := by
  cases o with
  | none =>
    rintro k ⟨k0, hk⟩
    have G := R.gd (k.toNat + 1)
    exact h _ G.m1 G.n0 ((strM_iff R.ok hx G.m1 G.n0).mpr ⟨at_pos0 R _, hk⟩)
  | some t =>
    obtain ⟨t1, t0, c, m, l⟩ := h
    obtain ⟨tp, hl⟩ := (strM_iff R.ok hx t1 t0).mp m
    obtain ⟨k, hk, hN⟩ := R.hit_at t1 tp c (lane_hit hx hl)
    show Least _ (some (L.N t - 1))
    rw [hN, show (k : Int) + 1 - 1 = k by omega]
    refine ⟨⟨by omega, by rw [Int.toNat_natCast, hk]; exact hl⟩, fun j ⟨j0, hj⟩ => ?_⟩
    have G := R.gd (j.toNat + 1)
    have := l _ G.m1 G.n0 ((strM_iff R.ok hx G.m1 G.n0).mpr ⟨at_pos0 R _, hj⟩)
    rw [← hk] at this
    refine Classical.byContradiction fun z => ?_
    have e : k + 1 = (j.toNat + 1) + 1 + (k - (j.toNat + 1)) := by omega
    have h1 := R.lt_next (j.toNat + 1)
    have h2 := at_le R ((j.toNat + 1) + 1) (k - (j.toNat + 1))
    rw [← e] at h2
    have h3 : le (L.at (k + 1)) (L.at (j.toNat + 1)) := this
    have h4 := le_trans' (R.gd _).m1 (R.gd _).m1 (R.gd _).m1 h2 h3
    unfold lt at h1
    unfold le at h4
    omega
/-- a period of both lines, and how many hits it has at most -/
theorem per_ex {L : Ls} (ok : L.Ok) : ∃ T B g h : Int, Per L T B g h ∧ 2 * g + 2 * h ≤ 2 * (L.V * L.z + L.U * L.s) := by
  have s1 := ok.s1
  have z1 := ok.z1
  have vz := Int.mul_nonneg ok.v0 (show 0 ≤ L.z by omega)
  have us := Int.mul_nonneg ok.u0 (show 0 ≤ L.s by omega)
  have pos : 0 < L.V * L.z ∨ 0 < L.U * L.s := by
    rcases ok.w with w | w
    · exact .inl (Int.mul_pos (by have := ok.v0; omega) (by omega))
    · exact .inr (Int.mul_pos (by have := ok.u0; omega) (by omega))
  have G0 : (0 : Int) < (Nat.gcd (L.V * L.z).natAbs (L.U * L.s).natAbs : Nat) := by
    rcases pos with p | p
    · have := Nat.gcd_pos_of_pos_left (L.U * L.s).natAbs (show 0 < (L.V * L.z).natAbs by omega)
      omega
    · have := Nat.gcd_pos_of_pos_right (L.V * L.z).natAbs (show 0 < (L.U * L.s).natAbs by omega)
      omega
  have eg := Int.ediv_mul_cancel (gcd_dvd_l (L.V * L.z) (L.U * L.s))
  have eh := Int.ediv_mul_cancel (gcd_dvd_r (L.V * L.z) (L.U * L.s))
  have cop : Nat.gcd (L.V * L.z / (Nat.gcd (L.V * L.z).natAbs (L.U * L.s).natAbs : Nat)).natAbs (L.U * L.s / (Nat.gcd (L.V * L.z).natAbs (L.U * L.s).natAbs : Nat)).natAbs = 1 := by
    have n1 : (L.V * L.z / (Nat.gcd (L.V * L.z).natAbs (L.U * L.s).natAbs : Nat)).natAbs = (L.V * L.z).natAbs / Nat.gcd (L.V * L.z).natAbs (L.U * L.s).natAbs := by
      rw [Int.natAbs_ediv_of_dvd (gcd_dvd_l _ _), Int.natAbs_natCast]
    have n2 : (L.U * L.s / (Nat.gcd (L.V * L.z).natAbs (L.U * L.s).natAbs : Nat)).natAbs = (L.U * L.s).natAbs / Nat.gcd (L.V * L.z).natAbs (L.U * L.s).natAbs := by
      rw [Int.natAbs_ediv_of_dvd (gcd_dvd_r _ _), Int.natAbs_natCast]
    rw [n1, n2]
    rcases pos with p | p
    · exact Nat.gcd_div_gcd_div_gcd_of_pos_left (show 0 < (L.V * L.z).natAbs by omega)
    · exact Nat.gcd_div_gcd_div_gcd_of_pos_right (show 0 < (L.U * L.s).natAbs by omega)
  have g0 : 0 ≤ L.V * L.z / (Nat.gcd (L.V * L.z).natAbs (L.U * L.s).natAbs : Nat) := Int.ediv_nonneg vz (by omega)
  have h0 : 0 ≤ L.U * L.s / (Nat.gcd (L.V * L.z).natAbs (L.U * L.s).natAbs : Nat) := Int.ediv_nonneg us (by omega)
  have gl : L.V * L.z / (Nat.gcd (L.V * L.z).natAbs (L.U * L.s).natAbs : Nat) ≤ L.V * L.z := Int.ediv_le_self _ vz
  have hl : L.U * L.s / (Nat.gcd (L.V * L.z).natAbs (L.U * L.s).natAbs : Nat) ≤ L.U * L.s := Int.ediv_le_self _ us
  generalize L.V * L.z / (Nat.gcd (L.V * L.z).natAbs (L.U * L.s).natAbs : Nat) = g at *
  generalize L.U * L.s / (Nat.gcd (L.V * L.z).natAbs (L.U * L.s).natAbs : Nat) = h at *
  generalize ((Nat.gcd (L.V * L.z).natAbs (L.U * L.s).natAbs : Nat) : Int) = G at *
  obtain ⟨e, p, c⟩ := lowP_facts (t := 2 * L.s * L.z) (b := G) (by omega)
  generalize lowP (2 * L.s * L.z) G = t at *
  have sz0 : 0 < 2 * L.s * L.z := Int.mul_pos (by omega) (by omega)
  have t0 : 0 < t.1 := pos_of_mul G0 (by rw [Int.mul_comm, e]; exact Int.mul_pos sz0 (by omega))
  refine ⟨t.1, t.2, g, h, ⟨t0, p, c, ?_, ?_, g0, h0, cop⟩, by omega⟩
  · refine Int.eq_of_mul_eq_mul_right (show G ≠ 0 by omega) ?_
    have : L.V * t.1 * G = L.V * (t.1 * G) := Int.mul_assoc _ _ _
    rw [this, e]
    have : 2 * L.s * t.2 * g * G = 2 * L.s * t.2 * (g * G) := Int.mul_assoc _ _ _
    rw [this, eg]
    simp only [Int.mul_assoc, Int.mul_comm, Int.mul_left_comm]
  · refine Int.eq_of_mul_eq_mul_right (show G ≠ 0 by omega) ?_
    have : L.U * t.1 * G = L.U * (t.1 * G) := Int.mul_assoc _ _ _
    rw [this, e]
    have : 2 * L.z * t.2 * h * G = 2 * L.z * t.2 * (h * G) := Int.mul_assoc _ _ _
    rw [this, eh]
    simp only [Int.mul_assoc, Int.mul_comm, Int.mul_left_comm]
theorem frac_le_of {F m F' m' l : Int} (m1 : 1 ≤ m) (m1' : 1 ≤ m') (h : fracD F m = fracD F' m') : (l * m ≤ F ↔ l * m' ≤ F') ∧ (F ≤ l * m ↔ F' ≤ l * m') := by
  have e : F * m' = F' * m := by
    have h1 := lowP_facts (t := F) m1
    have h2 := lowP_facts (t := F') m1'
    rw [lowP_D, lowP_D] at h
    simp only [PyData.tuple.injEq, List.cons.injEq, PyData.int.injEq, and_true] at h
    obtain ⟨a1, a2⟩ := h
    obtain ⟨b1, b2, -⟩ := h1
    obtain ⟨c1, -, -⟩ := h2
    rw [← a1, ← a2] at c1
    generalize (lowP F m).1 = x at *
    generalize (lowP F m).2 = y at *
    refine Int.eq_of_mul_eq_mul_right (show y ≠ 0 by omega) ?_
    grind
  have lr : ∀ a b : Int, a * m' ≤ b * m' ↔ a ≤ b := fun a b => ⟨fun z => Int.le_of_mul_le_mul_right z (by omega), fun z => Int.mul_le_mul_of_nonneg_right z (by omega)⟩
  have lr' : ∀ a b : Int, a * m ≤ b * m ↔ a ≤ b := fun a b => ⟨fun z => Int.le_of_mul_le_mul_right z (by omega), fun z => Int.mul_le_mul_of_nonneg_right z (by omega)⟩
  have e2 : l * m * m' = l * m' * m := by simp only [Int.mul_assoc, Int.mul_comm, Int.mul_left_comm]
  constructor
  · rw [← lr, e, e2, lr']
  · rw [← lr, e, e2, lr']
theorem hasL_of {L : Ls} (R : LRow L) {j k x : Nat} (hx : x < 4) (h : L.word (L.at (j + 1)) = L.word (L.at (k + 1))) : hasL L (L.at (j + 1)) x = hasL L (L.at (k + 1)) x := by
  obtain ⟨a0, a1, a2, a3⟩ := word_has R j
  obtain ⟨b0, b1, b2, b3⟩ := word_has R k
  rw [h] at a0 a1 a2 a3
  have c : x = 0 ∨ x = 1 ∨ x = 2 ∨ x = 3 := by omega
  rcases c with rfl | rfl | rfl | rfl
  · rw [a0] at b0; simpa using b0
  · rw [a1] at b1; simpa using b1
  · rw [a2] at b2; simpa using b2
  · rw [a3] at b3; simpa using b3
/-- the first hit in a lane is within a round -/
theorem lane_within {L : Ls} (R : LRow L) {x : Nat} (hx : x < 4) {lo hi k : Int} (h : Least (LaneK L x lo hi) (some k)) : k < 2 * (L.V * L.z + L.U * L.s) := by
  obtain ⟨T, B, g, hh, Q, le⟩ := per_ex R.ok
  obtain ⟨c, c1, -, -, cp, cq, hc⟩ := round_hitsC R Q
  refine Classical.byContradiction fun z => ?_
  obtain ⟨⟨k0, hk⟩, lk⟩ := h
  have ck : (c : Int) ≤ k := by omega
  have e : k.toNat + 1 = c + ((k.toNat - c) + 1) := by omega
  have eq := hc (k.toNat - c)
  rw [← e] at eq
  have G := R.gd (k.toNat - c + 1)
  obtain ⟨w, p⟩ := plus_word R.ok Q (t := L.at (k.toNat - c + 1)) G.m1
  rw [← eq] at w p
  have c0 : 0 < c := by
    have g1 : 0 < g + hh := by
      have := Q.gh
      have g0 := Q.g0
      have h0 := Q.h0
      refine Classical.byContradiction fun z => ?_
      have e1 : g = 0 := by omega
      have e2 : hh = 0 := by omega
      rw [e1, e2] at this
      exact absurd this (by decide)
    refine Nat.pos_of_ne_zero fun z => ?_
    subst z
    have p0 : L.P (L.at 0) = L.P (0, 1) := rfl
    have q0 : L.P' (L.at 0) = L.P' (0, 1) := rfl
    omega
  have G' := R.gd (k.toNat + 1)
  have hasE := hasL_of R hx w
  have := lk (k - c) ⟨by omega, by
    have e3 : (k - c).toNat = k.toNat - c := by omega
    rw [e3]
    refine ⟨by rw [← hasE]; exact hk.1, ?_⟩
    have h2 := hk.2
    unfold Ls.place at p
    simp only [PyData.tuple.injEq, List.cons.injEq, and_true] at p
    have f1 := fun l => frac_le_of (l := l) G'.m1 G.m1 p.1
    have f2 := fun l => frac_le_of (l := l) G'.m1 G.m1 p.2
    split
    · rename_i c
      rw [if_pos c] at h2
      exact ⟨(f2 lo).1.mp h2.1, (f2 hi).2.mp h2.2⟩
    · rename_i c
      rw [if_neg c] at h2
      exact ⟨(f1 lo).1.mp h2.1, (f1 hi).2.mp h2.2⟩⟩
  omega
theorem hits_call {a b x y p q n m : Int} {Q : S → Prop} {E : String → Prop} (v : Vd 600 a b x y p q) (m1 : 1 ≤ m) (g : Nat.gcd n.natAbs m.natAbs = 1) (zn : sz 6000 n) (zm : sz 6000 m)
    (h : Q (.va (.int (hitsN a (lineA p x) (lineV p) b (lineA q y) (lineV q) n m)))) : D_count_hits [.tuple [.int a, .int b], .tuple [.int x, .int y, .int p, .int q], .tuple [.int n, .int m]] Q E :=
  ⟨_, _, _, rfl, fun z => absurd (v.tab.symm.trans z) (by decide), fun _ z => absurd (v.shot.symm.trans z) (by decide), fun _ _ z => absurd ((frac_ok m1 g).symm.trans z) (by decide), fun _ _ _ => ⟨⟨v.za, v.zb⟩, ⟨v.zx, v.zy, v.zp, v.zq⟩, ⟨sz_mono zn (by decide), sz_mono zm (by decide)⟩, h⟩⟩
end LW
namespace LW
open PySem PySem.Spec PyProof.Rows L2 DL
def m_first_in_stretch (W : WD) : MS :=
  mSeq (mDrop (mCall D_check_shot W (mCons (mVar 0) (mCons (mVar 1) (mNil)))))
  (mSeq (mIf (mTNot (mT (mCall D_is_stretch W (mCons (mVar 0) (mCons (mVar 2) (mNil)))))) (mRaise "InvalidStretch" W) (mNext))
  (mSeq (mAsg (mCall D__stretch_time W (mCons (mCall D_lines_of W (mCons (mVar 0) (mCons (mVar 1) (mNil)))) (mCons (mVar 2) (mNil)))) (mgName 3))
  (mSeq (mIf (mT (mOp2 opIsN2 (mVar 3) (mC .none))) (mRet (mrOf (mC .none))) (mNext))
  (mRet (mrOf (mOp2 opSub (mCall D_count_hits W (mCons (mVar 0) (mCons (mVar 1) (mCons (mVar 3) (mNil))))) (mC (.int 1))))))))
def strN : PyData → PyData → PyData → (Option Int → Prop)
  | .tuple [.int a, .int b], .tuple [.int x, .int y, .int p, .int q], .tuple [.str z, .int lo, .int hi] => fun o => ∃ j : Nat, j < 4 ∧ z = letS j ∧ Least (LaneK (Ls.of a b x y p q) j lo hi) o
  | _, _, _ => fun _ => False
theorem ownL_own {a b x y p q : Int} (j : Nat) : ownL a (lineA p x) (lineV p) b (lineA q y) (lineV q) j = (Ls.of a b x y p q).own j ∧ ownL b (lineA q y) (lineV q) a (lineA p x) (lineV p) j = (Ls.of a b x y p q).mate j := by
  unfold ownL Ls.own Ls.mate
  split <;> exact ⟨rfl, rfl⟩
def D_first_in_stretch : PSpec := fun ds Q E => ∃ t v g, ds = [t, v, g] ∧ (isTab t = false → E "InvalidTable") ∧ (isTab t = true → isShot t v = false → E "InvalidShot") ∧ (isTab t = true → isShot t v = true → isStretch t g = false → E "InvalidStretch") ∧
  (isTab t = true → isShot t v = true → isStretch t g = true → szH 200 t ∧ szH 200 v ∧ ∀ o, strN t v g o → Q (.va (optD o)))
theorem len_first_in_stretch : ∀ ds Q E, D_first_in_stretch ds Q E → ds.length = 3 := by
  rintro _ Q E ⟨t, v, g, rfl, _⟩
  rfl
theorem rd_first_in_stretch : ∀ ds Q E, D_first_in_stretch ds Q E → m_first_in_stretch (fun c _ => E c) (endP Q) (slots0 4 ds) := by
  rintro _ Q E ⟨t, v, g, rfl, q1, q2, q3, q4⟩
  unfold m_first_in_stretch
  refine seq_step fun N hN => ?_
  walk_at "rdn"
  refine ⟨t, v, rfl, q1, q2, fun h1 h2 => ⟨⟨_, rfl⟩, ?_⟩⟩
  subst hN
  obtain ⟨a, b, x, y, p, r, rfl, rfl, x0, xa, y0, yb, w⟩ := shot_inv h2
  cases h3 : isStretch (.tuple [.int a, .int b]) g with
  | false =>
    refine seq_step fun N hN => ?_
    refine if_run true (fun Q h => ?_) (fun _ => ?_) (fun hc => by cases hc)
    · walk_at "rdn"
      refine ⟨a, b, g, rfl, _, rfl, _, rfl, ?_⟩
      rw [h3]
      exact h
    exact q3 h1 h2 h3
  | true =>
    obtain ⟨z1, z2, q⟩ := q4 h1 h2 h3
    obtain ⟨j, lo, hi, rfl, hj, l0, lh, hs⟩ := str_inv h3
    simp only [isTab, Bool.and_eq_true, decide_eq_true_eq] at h1
    have v : Vd 200 a b x y p r := ⟨h1.1, h1.2, x0, xa, y0, yb, w, z1.1, z1.2, z2.1, z2.2.1, z2.2.2.1, z2.2.2.2⟩
    refine seq_step fun N hN => ?_
    refine if_run false (fun Q h => ?_) (fun hc => by cases hc) (fun _ => ?_)
    · walk_at "rdn"
      refine ⟨a, b, _, rfl, _, rfl, _, rfl, ?_⟩
      rw [h3]
      exact h
    walk_at "rdn"
    subst hN
    have R := of_row h1.1 h1.2 x0 xa y0 yb w z1.1 z1.2 z2.2.2.1 z2.2.2.2
    have up : ∀ {z : Int}, sz 200 z → sz 700 z := fun h => sz_mono h (by decide)
    refine seq_step fun N hN => ?_
    walk_at "rdn"
    refine ⟨a, b, x, y, p, r, rfl, _, rfl, ?_⟩
    rw [lineD_eq, lineD_eq]
    refine ⟨a, lineA p x, lineV p, b, lineA r y, lineV r, lo, hi, j, rfl, hj, ⟨h1.1, h1.2, lineV_nonneg _, lineV_nonneg _⟩, ⟨l0, lh, hs⟩, ⟨up z1.1, up (sz_lineA z2.1), up (sz_lineV z2.2.2.1), up z1.2, up (sz_lineA z2.2.1), up (sz_lineV z2.2.2.2)⟩, fun o ho zo => ⟨_, rfl, ?_⟩⟩
    rw [(ownL_own j).1, (ownL_own j).2] at ho
    have ls := stretch_least R hj (lo := lo) (hi := hi) ho
    have qq := q _ ⟨j, hj, rfl, ls⟩
    subst hN
    cases o with
    | none =>
      refine seq_step fun N hN => ?_
      refine if_run true (fun Q h => ?_) (fun _ => ?_) (fun hc => by cases hc)
      · walk_at "rdn"
        exact h
      walk_at "rdn"
      exact qq
    | some t =>
      obtain ⟨t1, t0, cp, -, -⟩ := ho
      obtain ⟨zt1, zt2⟩ := zo t rfl
      refine seq_step fun N hN => ?_
      refine if_run false (fun Q h => ?_) (fun hc => by cases hc) (fun _ => ?_)
      · walk_at "rdn"
        exact h
      walk_at "rdn"
      subst hN
      have e : oT (some t) = .tuple [.int t.1, .int t.2] := rfl
      rw [e]
      walk_at "rdn"
      exact hits_call (v.mono (by decide)) t1 cp (sz_mono zt1 (by decide)) (sz_mono zt2 (by decide)) ⟨_, rfl, _, rfl, qq⟩
section
variable {P : Program} {w : World} {K : PySem.W.Frag} {mg : Str → Option Value} {base : Heap} {CN : String → Option Addr}
theorem ok_first_in_stretch {f : Addr} {fd : FuncData} (F : Fun K "first_in_stretch" "first_in_stretch" s_first_in_stretch f fd) (g : G K mg CN) (c__stretch_time : CalP P w K mg base CN 5 "_stretch_time" D__stretch_time) (c_check_shot : CalP P w K mg base CN 6 "check_shot" D_check_shot) (c_count_hits : CalP P w K mg base CN 7 "count_hits" D_count_hits) (c_is_stretch : CalP P w K mg base CN 2 "is_stretch" D_is_stretch) (c_lines_of : CalP P w K mg base CN 2 "lines_of" D_lines_of) : FnG P w K mg base 8 f fd ["table", "shot", "stretch"] (spP K CN D_first_in_stretch) := by
  obtain ⟨e_InvalidStretch, n_InvalidStretch, t_InvalidStretch⟩ := g.x_InvalidStretch
  have sc := sc_first_in_stretch
  exact fun_okP (m := m_first_in_stretch) F sc (by decide) len_first_in_stretch (fun cdv A outer s H E C W hw hr tk =>
    (pds_cons (pds_drop (pd_call c_check_shot hr (by decide) tk (pda_cons (dv 0) (pda_cons (dv 1) pda_nil))))
    (pds_cons (pds_if (pdt_not (pdt_val (pd_call c_is_stretch hr (by decide) tk (pda_cons (dv 0) (pda_cons (dv 2) pda_nil))))) (pds_one (pds_raise rfl tk t_InvalidStretch n_InvalidStretch)) pds_nil)
    (pds_cons (pds_asg (ps_asg (pd_call c__stretch_time hr (by decide) tk (pda_cons (pd_call c_lines_of hr (by decide) tk (pda_cons (dv 0) (pda_cons (dv 1) pda_nil))) (pda_cons (dv 2) pda_nil))) (dg 3 sc.nd)))
    (pds_cons (pds_if (pdt_cmp op_isN rl_isN (dv 3) pd_non (nomark _)) (pds_one (pds_ret (pdr_of pd_non))) pds_nil)
    (pds_one (pds_ret (pdr_of (pd_op op_sub rl_sub (pd_call c_count_hits hr (by decide) tk (pda_cons (dv 0) (pda_cons (dv 1) (pda_cons (dv 3) pda_nil)))) pd_int))))))))) rd_first_in_stretch
end
def m_corner_hit (W : WD) : MS :=
  mSeq (mDrop (mCall D_check_shot W (mCons (mVar 0) (mCons (mVar 1) (mNil)))))
  (mSeq (mAsg (mCall D_corner_marks W (mCons (mCall D_lines_of W (mCons (mVar 0) (mCons (mVar 1) (mNil)))) (mNil))) (mgName 2))
  (mSeq (mIf (mT (mOp2 opEq (mCallB bLen (mCons (mVar 2) (mNil))) (mC (.int 0)))) (mRet (mrOf (mC .none))) (mNext))
  (mSeq (mAsg (mOp2 opIx (mVar 2) (mC (.int 0))) (mgTup 3 (mgCons (mgName 3) (mgCons (mgName 4) (mgCons (mgName 5) (mgNil))))))
  (mRet (mrOf (mOp2 opSub (mCall D_count_hits W (mCons (mVar 0) (mCons (mVar 1) (mCons (mCall D_mark_time W (mCons (mVar 3) (mCons (mVar 4) (mNil)))) (mNil))))) (mC (.int 1))))))))
theorem frac_is {t b : Int} (hb : 1 ≤ b) : isFrac (fracD t b) = true := by
  obtain ⟨-, p, c⟩ := low_facts (t := t) hb
  unfold fracD isFrac
  simp only [decide_eq_true p, Bool.true_and, c]
  rfl
/-- what corner_hit answers -/
def cornI (a b x y p q : Int) : Option Int → PyData
  | none => .none
  | some k => .int (hitsN a (lineA p x) (lineV p) b (lineA q y) (lineV q) (lowP (sideM a (lineA p x) + a * k - lineA p x) (lineV p)).1 (lowP (sideM a (lineA p x) + a * k - lineA p x) (lineV p)).2 - 1)
theorem least_ex (P : Int → Prop) (h : ∀ k, P k → 0 ≤ k) : ∃ o, Least P o := by
  by_cases e : ∃ k, P k
  · obtain ⟨k, hk⟩ := e
    have main : ∀ n : Nat, ∀ k : Int, k.toNat ≤ n → P k → ∃ o, Least P o := by
      intro n
      induction n with
      | zero =>
        intro k hn hk
        refine ⟨some k, hk, fun k' hk' => ?_⟩
        have := h k hk
        have := h k' hk'
        omega
      | succ n ih =>
        intro k hn hk
        by_cases c : ∃ k', P k' ∧ k' < k
        · obtain ⟨k', h1, h2⟩ := c
          have := h k' h1
          exact ih k' (by omega) h1
        · refine ⟨some k, hk, fun k' hk' => ?_⟩
          refine Classical.byContradiction fun z => c ⟨k', hk', by omega⟩
    exact main _ k (Nat.le_refl _) hk
  · exact ⟨none, fun k hk => e ⟨k, hk⟩⟩
/-- the least index of a mark of the first line that is a corner -/
noncomputable def cornO (s a v s' a' v' : Int) : Option Int := Classical.choose (least_ex (Btw (cornW s a v s' a' v').g (cornW s a v s' a' v').b (cornW s a v s' a' v').c (cornW s a v s' a' v').G (cornW s a v s' a' v').B (cornW s a v s' a' v').C) fun _ h => h.1)
theorem cornO_spec (s a v s' a' v' : Int) : Least (Btw (cornW s a v s' a' v').g (cornW s a v s' a' v').b (cornW s a v s' a' v').c (cornW s a v s' a' v').G (cornW s a v s' a' v').B (cornW s a v s' a' v').C) (cornO s a v s' a' v') := Classical.choose_spec (least_ex _ fun _ h => h.1)
noncomputable def dueD (a b x y p q : Int) : PyData := if lineV p = 0 ∨ lineV q = 0 then .none else cornI a b x y p q (cornO a (lineA p x) (lineV p) b (lineA q y) (lineV q))
noncomputable def cornT : PyData → PyData → PyData
  | .tuple [.int a, .int b], .tuple [.int x, .int y, .int p, .int q] => dueD a b x y p q
  | _, _ => .none
def D_corner_hit : PSpec := fun ds Q E => ∃ t v, ds = [t, v] ∧ (isTab t = false → E "InvalidTable") ∧ (isTab t = true → isShot t v = false → E "InvalidShot") ∧ (isTab t = true → isShot t v = true → szH 600 t ∧ szH 600 v ∧ Q (.va (cornT t v)))
theorem len_corner_hit : ∀ ds Q E, D_corner_hit ds Q E → ds.length = 2 := by
  rintro _ Q E ⟨t, v, rfl, _⟩
  rfl
theorem rd_corner_hit : ∀ ds Q E, D_corner_hit ds Q E → m_corner_hit (fun c _ => E c) (endP Q) (slots0 6 ds) := by
  rintro _ Q E ⟨t, v, rfl, q1, q2, q3⟩
  unfold m_corner_hit
  refine seq_step fun N hN => ?_
  walk_at "rdn"
  refine ⟨t, v, rfl, q1, q2, fun h1 h2 => ⟨⟨_, rfl⟩, ?_⟩⟩
  subst hN
  obtain ⟨z1, z2, q⟩ := q3 h1 h2
  obtain ⟨a, b, x, y, p, r, rfl, rfl, -⟩ := shot_inv h2
  have tb := h1
  simp only [isTab, Bool.and_eq_true, decide_eq_true_eq] at h1
  have q : Q (.va (dueD a b x y p r)) := q
  have qn : lineV p = 0 ∨ lineV r = 0 → Q (.va .none) := fun z => by
    unfold dueD at q
    rw [if_pos z] at q
    exact q
  have qs : 0 < lineV p → 0 < lineV r → ∀ o, (cornW a (lineA p x) (lineV p) b (lineA r y) (lineV r)).Ans o → Q (.va (cornI a b x y p r o)) := fun h1 h2 o an => by
    unfold dueD at q
    rw [if_neg (by omega), ← least_unique an.1 (cornO_spec _ _ _ _ _ _)] at q
    exact q
  have v0 := lineV_nonneg p
  have v0' := lineV_nonneg r
  have zA := sz_lineA (v := p) z2.1
  have zB := sz_lineA (v := r) z2.2.1
  have zV := sz_lineV z2.2.2.1
  have zU := sz_lineV z2.2.2.2
  refine seq_step fun N hN => ?_
  walk_at "rdn"
  refine ⟨a, b, x, y, p, r, rfl, _, rfl, ?_⟩
  rw [lineD_eq, lineD_eq]
  refine ⟨a, lineA p x, lineV p, b, lineA r y, lineV r, rfl, h1.1, h1.2, v0, v0', ⟨z1.1, zA, zV, z1.2, zB, zU⟩, ?_, ?_⟩
  · intro hz
    refine ⟨_, rfl, ?_⟩
    subst hN
    refine seq_step fun N hN => ?_
    walk_at "rdn"
    exact qn hz
  · intro hV hU o an
    have qo := qs hV hU o an
    refine ⟨_, rfl, ?_⟩
    subst hN
    cases o with
    | none =>
      refine seq_step fun N hN => ?_
      unfold cornD
      walk_at "rdn"
      exact qo
    | some k =>
      have c1 : 1 ≤ b * lineV p := Int.mul_pos (by omega) hV
      have zc := sz_mul z1.2 zV
      have k0 := an.1.1.1
      have zk : sz 2500 k := by
        have k1 : k ≤ 2 * (b * lineV p * (b * lineV p)) := an.2 k rfl
        exact sz_of_le (sz_mono (sz_mul (show sz 10 2 by unfold sz; decide) (sz_mul zc zc)) (by decide)) (by omega)
      have zf := sz_sideM h1.1 z1.1 zA
      have zt : sz 4000 (sideM a (lineA p x) + a * k - lineA p x) := sz_mono (sz_sub (sz_add (sz_mono zf (l := 3200) (by decide)) (sz_mono (sz_mul z1.1 zk) (by decide))) (sz_mono zA (by decide))) (by decide)
      refine seq_step fun N hN => ?_
      unfold cornD Mk.d
      walk_at "rdn"
      rw [if_neg (by decide)]
      subst hN
      refine seq_step fun N hN => ?_
      walk_at "rdn"
      subst hN
      walk_at "rdn"
      have zl := sz_lowP (t := sideM a (lineA p x) + a * k - lineA p x) (b := lineV p) (by omega) (sz_mono zt (l := 8000) (by decide)) (sz_mono zV (l := 8000) (by decide))
      refine ⟨_, _, _, _, rfl, by omega, sz_mono zV (by decide), _, rfl, ?_⟩
      refine ⟨_, _, _, rfl, fun h => ?_, fun _ h => ?_, fun _ _ h => ?_, fun _ _ _ => ⟨z1, z2, zl, _, rfl, _, rfl, ?_⟩⟩
      · rw [tb] at h; cases h
      · rw [h2] at h; cases h
      · rw [frac_is (by omega)] at h; cases h
      · exact qo
section
variable {P : Program} {w : World} {K : PySem.W.Frag} {mg : Str → Option Value} {base : Heap} {CN : String → Option Addr}
theorem ok_corner_hit {f : Addr} {fd : FuncData} (F : Fun K "corner_hit" "corner_hit" s_corner_hit f fd) (g : G K mg CN) (c_check_shot : CalP P w K mg base CN 6 "check_shot" D_check_shot) (c_corner_marks : CalP P w K mg base CN 4 "corner_marks" D_corner_marks) (c_count_hits : CalP P w K mg base CN 7 "count_hits" D_count_hits) (c_lines_of : CalP P w K mg base CN 2 "lines_of" D_lines_of) (c_mark_time : CalP P w K mg base CN 2 "mark_time" D_mark_time) : FnG P w K mg base 8 f fd ["table", "shot"] (spP K CN D_corner_hit) := by
  have sc := sc_corner_hit
  exact fun_okP (m := m_corner_hit) F sc (by decide) len_corner_hit (fun cdv A outer s H E C W hw hr tk =>
    (pds_cons (pds_drop (pd_call c_check_shot hr (by decide) tk (pda_cons (dv 0) (pda_cons (dv 1) pda_nil))))
    (pds_cons (pds_asg (ps_asg (pd_call c_corner_marks hr (by decide) tk (pda_cons (pd_call c_lines_of hr (by decide) tk (pda_cons (dv 0) (pda_cons (dv 1) pda_nil))) pda_nil)) (dg 2 sc.nd)))
    (pds_cons (pds_if (pdt_cmp (or_eqD (RoomG.u64 hr)) rl_eq (pd_callB cr_len rc_len g.b_len (by decide +kernel) (pda_cons (dv 2) pda_nil)) pd_int (nomark _)) (pds_one (pds_ret (pdr_of pd_non))) pds_nil)
    (pds_cons (pds_asg (ps_asg (pd_ix ix_seq rl_ix (dv 2) pd_int) (pdg_tup rfl (gcons (dg 3 sc.nd) (gcons (dg 4 sc.nd) (gcons (dg 5 sc.nd) pdgs_nil))))))
    (pds_one (pds_ret (pdr_of (pd_op op_sub rl_sub (pd_call c_count_hits hr (by decide) tk (pda_cons (dv 0) (pda_cons (dv 1) (pda_cons (pd_call c_mark_time hr (by decide) tk (pda_cons (dv 3) (pda_cons (dv 4) pda_nil))) pda_nil)))) pd_int))))))))) rd_corner_hit
end
def m__law_desk : MS :=
  mSeq (mAsg (mOp2 opAdd (mC (.int 1)) (mCallW dDraw 0 (mCons (mVar 1) (mNil)))) (mgName 2))
  (mSeq (mAsg (mOp2 opIx (mLst (mCons (mOp2 opAdd (mC (.int 1)) (mCallW dDraw 0 (mCons (mVar 1) (mNil)))) (mCons (mVar 2) (mCons (mOp2 opMul (mVar 2) (mC (.int 2))) (mCons (mOp2 opAdd (mC (.int 1)) (mCallW dDraw 0 (mCons (mC (.int 4)) (mNil)))) (mNil)))))) (mCallW dDraw 0 (mCons (mC (.int 4)) (mNil)))) (mgName 3))
  (mRet (mrOf (mTup (mCons (mVar 2) (mCons (mVar 3) (mNil)))))))
theorem log_wide {m : Int} (h1 : 1 ≤ m) (h : m < 2 ^ 200) : m.natAbs.log2 < 9000 := by
  refine (Nat.log2_lt (by omega)).mpr ?_
  have : m.natAbs < 2 ^ 200 := by omega
  exact Nat.lt_of_lt_of_le this (Nat.pow_le_pow_right (by decide) (by decide))
theorem dr {n : Nat} {m : Int} {Q : S → Nat → Prop} (h0 : 1 ≤ n) (h1 : 1 ≤ m) (h2 : m < 2 ^ 200) (k : ∀ r : Int, 0 ≤ r → r < m → Q (.va (.int r)) (n - 1)) : dDraw n [.int m] Q := ⟨m, rfl, h0, h1, log_wide h1 h2, k⟩
theorem small2 {a b : Int} (ha : a.natAbs < 2 ^ 200) (hb : b.natAbs < 2 ^ 200) : small a b = true := by
  have lg : ∀ z : Int, z.natAbs < 2 ^ 200 → z.natAbs.log2 < 200 := fun z hz => by
    by_cases h0 : z.natAbs = 0
    · rw [h0]; decide
    · exact (Nat.log2_lt h0).mpr hz
  unfold small
  have := lg a ha
  have := lg b hb
  exact decide_eq_true (by omega)
def D__law_desk : WSpec := fun n ds Q => ∃ m, ds = [.int m] ∧ 4 ≤ n ∧ 1 ≤ m ∧ m < 2 ^ 150 ∧ ∀ a b n', n ≤ n' + 4 → 1 ≤ a → a ≤ m + 1 → 1 ≤ b → b ≤ 2 * m + 5 → Q (.va (.tuple [.int a, .int b])) n'
theorem len__law_desk : ∀ n ds Q, D__law_desk n ds Q → ds.length + 1 = 2 := by
  rintro n _ Q ⟨d, rfl, _⟩
  rfl
theorem rd__law_desk : ∀ n ds Q, D__law_desk n ds Q → m__law_desk (endW Q) (slotsW 4 n ds) := by
  rintro n _ Q ⟨m, rfl, hn, h1, h2, q⟩
  unfold m__law_desk
  walk_at "rdm"
  refine dr (by omega) h1 (by omega) fun r1 p1 p2 => ?_
  walk_at "rdm"
  refine dr (by omega) h1 (by omega) fun r2 p3 p4 => ?_
  walk_at "rdm"
  rw [if_pos (small2 (by omega) (by omega))]
  walk_at "rdm"
  refine dr (by omega) (by decide) (by decide) fun r3 p5 p6 => ?_
  walk_at "rdm"
  refine dr (by omega) (by decide) (by decide) fun r4 p7 p8 => ?_
  walk_at "rdm"
  have c : r4 = 0 ∨ r4 = 1 ∨ r4 = 2 ∨ r4 = 3 := by omega
  rcases c with rfl | rfl | rfl | rfl <;> walk_at "rdm" <;> exact q _ _ _ (by omega) (by omega) (by omega) (by omega) (by omega)
section
variable {P : Program} {w : World} {K : PySem.W.Frag} {mg : Str → Option Value} {base : Heap} {CN : String → Option Addr}
theorem ok__law_desk {f : Addr} {fd : FuncData} (F : Fun K "_law_desk" "_law_desk" s__law_desk f fd) (g : G K mg CN) (c__law_draw : CalW P w K mg base 1 "_law_draw" dDraw) : FnG P w K mg base 2 f fd ["well", "most"] (spW K D__law_desk) := by
  have sc := sc__law_desk
  exact fun_okW (m := m__law_desk) (CN := CN) F sc (by decide) len__law_desk (fun cdv A outer s H E C hr tk =>
    (pds_cons (pds_asg (ps_asg (pd_op or_add rl_add pd_int (pd_callW c__law_draw hr (by decide) tk (pv 0) (pda_cons (dv 1) pda_nil))) (dg 2 sc.nd)))
    (pds_cons (pds_asg (ps_asg (pd_ix ix_seq rl_ix (pd_lst (pda_cons (pd_op or_add rl_add pd_int (pd_callW c__law_draw hr (by decide) tk (pv 0) (pda_cons (dv 1) pda_nil))) (pda_cons (dv 2) (pda_cons (pd_op or_mul rl_mul (dv 2) pd_int) (pda_cons (pd_op or_add rl_add pd_int (pd_callW c__law_draw hr (by decide) tk (pv 0) (pda_cons pd_int pda_nil))) pda_nil))))) (pd_callW c__law_draw hr (by decide) tk (pv 0) (pda_cons pd_int pda_nil))) (dg 3 sc.nd)))
    (pds_one (pds_ret (pdr_of (pd_tup (pda_cons (dv 2) (pda_cons (dv 3) pda_nil))))))))) rd__law_desk
end
def m__law_roll : MS :=
  mSeq (mAsg (mOp2 opIx (mLst (mCons (mC (.int 0)) (mCons (mOp2 opIx (mVar 1) (mC (.int 0))) (mCons (mCallW dDraw 0 (mCons (mOp2 opAdd (mOp2 opIx (mVar 1) (mC (.int 0))) (mC (.int 1))) (mNil))) (mNil))))) (mCallB bMin (mCons (mC (.int 2)) (mCons (mCallW dDraw 0 (mCons (mC (.int 5)) (mNil))) (mNil))))) (mgName 3))
  (mSeq (mAsg (mOp2 opIx (mLst (mCons (mC (.int 0)) (mCons (mOp2 opIx (mVar 1) (mC (.int 1))) (mCons (mCallW dDraw 0 (mCons (mOp2 opAdd (mOp2 opIx (mVar 1) (mC (.int 1))) (mC (.int 1))) (mNil))) (mNil))))) (mCallB bMin (mCons (mC (.int 2)) (mCons (mCallW dDraw 0 (mCons (mC (.int 5)) (mNil))) (mNil))))) (mgName 4))
  (mSeq (mAsgM [5, 6] [mrOf (mOp2 opSub (mCallW dDraw 0 (mCons (mOp2 opAdd (mOp2 opMul (mC (.int 2)) (mVar 2)) (mC (.int 1))) (mNil))) (mVar 2)), mrOf (mOp2 opSub (mCallW dDraw 0 (mCons (mOp2 opAdd (mOp2 opMul (mC (.int 2)) (mVar 2)) (mC (.int 1))) (mNil))) (mVar 2))])
  (mSeq (mIf (mT (mOp2 opEq (mCallW dDraw 0 (mCons (mC (.int 8)) (mNil))) (mC (.int 0)))) (mAsg (mC (.int 0)) (mgName 5)) (mIf (mT (mOp2 opEq (mCallW dDraw 0 (mCons (mC (.int 8)) (mNil))) (mC (.int 0)))) (mAsg (mC (.int 0)) (mgName 6)) (mNext)))
  (mRet (mrOf (mIfE (mT (mOp2 opNe (mTup (mCons (mVar 5) (mCons (mVar 6) (mNil)))) (mTup (mCons (mC (.int 0)) (mCons (mC (.int 0)) (mNil)))))) (mTup (mCons (mVar 3) (mCons (mVar 4) (mCons (mVar 5) (mCons (mVar 6) (mNil)))))) (mTup (mCons (mVar 3) (mCons (mVar 4) (mCons (mC (.int 1)) (mCons (mC (.int 1)) (mNil))))))))))))
theorem opNe_tt {a b c e : Int} : opNe (.tuple [.int a, .int b]) (.tuple [.int c, .int e]) = some (.bool (!(decide (a = c) && decide (b = e)))) := by
  unfold opNe SeqAt.shaped
  simp [PyData.canLay0, PyData.canLayAll0, PyData.depth, PyData.depthAll, PyData.eqv, PyData.eqvAll]
  by_cases h : a = c <;> by_cases h2 : b = e <;> simp [h, h2]
def D__law_roll : WSpec := fun n ds Q => ∃ a b m, ds = [.tuple [.int a, .int b], .int m] ∧ 10 ≤ n ∧ 1 ≤ a ∧ a < 2 ^ 150 ∧ 1 ≤ b ∧ b < 2 ^ 150 ∧ 1 ≤ m ∧ m < 2 ^ 150 ∧
  ∀ x y p q n', n ≤ n' + 10 → 0 ≤ x → x ≤ a → 0 ≤ y → y ≤ b → (-m - 1 ≤ p ∧ p ≤ m + 1) → (-m - 1 ≤ q ∧ q ≤ m + 1) → (p ≠ 0 ∨ q ≠ 0) → Q (.va (.tuple [.int x, .int y, .int p, .int q])) n'
theorem len__law_roll : ∀ n ds Q, D__law_roll n ds Q → ds.length + 1 = 3 := by
  rintro n _ Q ⟨a, b, m, rfl, _⟩
  rfl
theorem rd__law_roll : ∀ n ds Q, D__law_roll n ds Q → m__law_roll (endW Q) (slotsW 7 n ds) := by
  rintro n _ Q ⟨a, b, m, rfl, hn, a1, a2, b1, b2, m1, m2, q⟩
  unfold m__law_roll
  walk_at "rdm"
  refine dr (by omega) (by omega) (by omega) fun r1 p1 p2 => ?_
  walk_at "rdm"
  refine dr (by omega) (by decide) (by decide) fun r2 p3 p4 => ?_
  walk_at "rdm"
  obtain ⟨x, e1, x0, x1⟩ : ∃ x : Int, DL.atI [PyData.int 0, .int a, .int r1] (if r2 < 2 then r2 else 2) = some (.int x) ∧ 0 ≤ x ∧ x ≤ a := by
    have c : r2 = 0 ∨ r2 = 1 ∨ 2 ≤ r2 := by omega
    rcases c with rfl | rfl | c
    · exact ⟨0, rfl, by omega, by omega⟩
    · exact ⟨a, rfl, by omega, by omega⟩
    · rw [if_neg (by omega)]
      exact ⟨r1, rfl, by omega, by omega⟩
  rw [e1]
  walk_at "rdm"
  refine dr (by omega) (by omega) (by omega) fun r3 p5 p6 => ?_
  walk_at "rdm"
  refine dr (by omega) (by decide) (by decide) fun r4 p7 p8 => ?_
  walk_at "rdm"
  obtain ⟨y, e2, y0, y1⟩ : ∃ y : Int, DL.atI [PyData.int 0, .int b, .int r3] (if r4 < 2 then r4 else 2) = some (.int y) ∧ 0 ≤ y ∧ y ≤ b := by
    have c : r4 = 0 ∨ r4 = 1 ∨ 2 ≤ r4 := by omega
    rcases c with rfl | rfl | c
    · exact ⟨0, rfl, by omega, by omega⟩
    · exact ⟨b, rfl, by omega, by omega⟩
    · rw [if_neg (by omega)]
      exact ⟨r3, rfl, by omega, by omega⟩
  rw [e2]
  walk_at "rdm"
  rw [if_pos (small2 (by decide) (by omega))]
  walk_at "rdm"
  refine dr (by omega) (by omega) (by omega) fun r5 p9 p10 => ?_
  walk_at "rdm"
  refine dr (by omega) (by omega) (by omega) fun r6 p11 p12 => ?_
  walk_at "rdm"
  refine dr (by omega) (by decide) (by decide) fun r7 p13 p14 => ?_
  walk_at "rdm"
  have fin : ∀ (p r : Int) (n' : Nat), n ≤ n' + 10 → (-m - 1 ≤ p ∧ p ≤ m + 1) → (-m - 1 ≤ r ∧ r ≤ m + 1) → ∃ z, opNe (.tuple [.int p, .int r]) (.tuple [.int 0, .int 0]) = some z ∧ ∃ c, z = .bool c ∧
      if c = true then Q (.va (.tuple [.int x, .int y, .int p, .int r])) n' else Q (.va (.tuple [.int x, .int y, .int 1, .int 1])) n' := by
    intro p r n' hn' hp hr
    refine ⟨_, opNe_tt, _, rfl, ?_⟩
    by_cases hz : p = 0 ∧ r = 0
    · rw [if_neg (by simp [hz.1, hz.2])]
      exact q _ _ _ _ _ hn' x0 x1 y0 y1 (by omega) (by omega) (by omega)
    · rw [if_pos (by simp only [Bool.not_eq_true', Bool.and_eq_false_imp, decide_eq_true_eq, decide_eq_false_iff_not]; omega)]
      exact q _ _ _ _ _ hn' x0 x1 y0 y1 hp hr (by omega)
  by_cases h7 : r7 = 0
  · rw [if_pos (decide_eq_true h7)]
    exact fin _ _ _ (by omega) (by omega) (by omega)
  · rw [if_neg (by simpa using h7)]
    refine dr (by omega) (by decide) (by decide) fun r8 p15 p16 => ?_
    walk_at "rdm"
    by_cases h8 : r8 = 0
    · rw [if_pos (decide_eq_true h8)]
      exact fin _ _ _ (by omega) (by omega) (by omega)
    · rw [if_neg (by simpa using h8)]
      exact fin _ _ _ (by omega) (by omega) (by omega)
section
variable {P : Program} {w : World} {K : PySem.W.Frag} {mg : Str → Option Value} {base : Heap} {CN : String → Option Addr}
theorem ok__law_roll {f : Addr} {fd : FuncData} (F : Fun K "_law_roll" "_law_roll" s__law_roll f fd) (g : G K mg CN) (c__law_draw : CalW P w K mg base 1 "_law_draw" dDraw) : FnG P w K mg base 2 f fd ["well", "desk", "most"] (spW K D__law_roll) := by
  have sc := sc__law_roll
  exact fun_okW (m := m__law_roll) (CN := CN) F sc (by decide) len__law_roll (fun cdv A outer s H E C hr tk =>
    (pds_cons (pds_asg (ps_asg (pd_ix ix_seq rl_ix (pd_lst (pda_cons pd_int (pda_cons (pd_ix ix_seq rl_ix (dv 1) pd_int) (pda_cons (pd_callW c__law_draw hr (by decide) tk (pv 0) (pda_cons (pd_op or_add rl_add (pd_ix ix_seq rl_ix (dv 1) pd_int) pd_int) pda_nil)) pda_nil)))) (pd_callB (call_min2 rfl) rc_min g.b_min (by decide +kernel) (pda_cons pd_int (pda_cons (pd_callW c__law_draw hr (by decide) tk (pv 0) (pda_cons pd_int pda_nil)) pda_nil)))) (dg 3 sc.nd)))
    (pds_cons (pds_asg (ps_asg (pd_ix ix_seq rl_ix (pd_lst (pda_cons pd_int (pda_cons (pd_ix ix_seq rl_ix (dv 1) pd_int) (pda_cons (pd_callW c__law_draw hr (by decide) tk (pv 0) (pda_cons (pd_op or_add rl_add (pd_ix ix_seq rl_ix (dv 1) pd_int) pd_int) pda_nil)) pda_nil)))) (pd_callB (call_min2 rfl) rc_min g.b_min (by decide +kernel) (pda_cons pd_int (pda_cons (pd_callW c__law_draw hr (by decide) tk (pv 0) (pda_cons pd_int pda_nil)) pda_nil)))) (dg 4 sc.nd)))
    (pds_cons (pds_par2 (ps_par2 (i := 5) (j := 6) rfl sc.nd rfl rfl (by decide) rfl rfl (pdar_cons (pdr_of (pd_op op_sub rl_sub (pd_callW c__law_draw hr (by decide) tk (pv 0) (pda_cons (pd_op or_add rl_add (pd_op or_mul rl_mul pd_int (dv 2)) pd_int) pda_nil)) (dv 2))) (pdar_cons (pdr_of (pd_op op_sub rl_sub (pd_callW c__law_draw hr (by decide) tk (pv 0) (pda_cons (pd_op or_add rl_add (pd_op or_mul rl_mul pd_int (dv 2)) pd_int) pda_nil)) (dv 2))) pdar_nil)) rfl))
    (pds_cons (pds_if (pdt_cmp (or_eqD (RoomG.u64 hr)) rl_eq (pd_callW c__law_draw hr (by decide) tk (pv 0) (pda_cons pd_int pda_nil)) pd_int (nomark _)) (pds_one (pds_asg (ps_asg pd_int (dg 5 sc.nd)))) (pds_one (pds_if (pdt_cmp (or_eqD (RoomG.u64 hr)) rl_eq (pd_callW c__law_draw hr (by decide) tk (pv 0) (pda_cons pd_int pda_nil)) pd_int (nomark _)) (pds_one (pds_asg (ps_asg pd_int (dg 6 sc.nd)))) pds_nil)))
    (pds_one (pds_ret (pdr_of (pd_ifE (pdt_cmp (or_neD (RoomG.u64 hr)) rl_ne (pd_tup (pda_cons (dv 5) (pda_cons (dv 6) pda_nil))) (pd_tup (pda_cons pd_int (pda_cons pd_int pda_nil))) (nomark _)) (pd_tup (pda_cons (dv 3) (pda_cons (dv 4) (pda_cons (dv 5) (pda_cons (dv 6) pda_nil))))) (pd_tup (pda_cons (dv 3) (pda_cons (dv 4) (pda_cons pd_int (pda_cons pd_int pda_nil)))))))))))))) rd__law_roll
end
def m__law_low (W : WD) : MS :=
  mSeq (mAsgM [2, 3] [mrOf (mCallB bAbs (mCons (mVar 0) (mNil))), mrOf (mCallB bAbs (mCons (mVar 1) (mNil)))])
  (mSeq (mWhile (mT (mOp2 opNe (mVar 3) (mC (.int 0)))) (mAsgM [2, 3] [mrOf (mVar 3), mrOf (mOp2 opMod (mCallB bInt (mCons (mVar 2) (mNil))) (mVar 3))]))
  (mRet (mrOf (mIfE (mT (mOp2 opGt (mVar 1) (mC (.int 0)))) (mTup (mCons (mOp2 opFdiv (mVar 0) (mVar 2)) (mCons (mOp2 opFdiv (mVar 1) (mVar 2)) (mNil)))) (mTup (mCons (mOp2 opFdiv (mOp1 opNeg (mVar 0)) (mVar 2)) (mCons (mOp2 opFdiv (mOp1 opNeg (mVar 1)) (mVar 2)) (mNil))))))))
def D__law_low : PSpec := fun ds Q _ => ∃ t b, ds = [.int t, .int b] ∧ 1 ≤ b ∧ sz 8000 b ∧ Q (.va (fracD t b))
theorem len__law_low : ∀ ds Q E, D__law_low ds Q E → ds.length = 2 := by
  rintro _ Q E ⟨t, b, rfl, _⟩
  rfl
theorem rd__law_low : ∀ ds Q E, D__law_low ds Q E → m__law_low (fun c _ => E c) (endP Q) (slots0 4 ds) := by
  rintro _ Q E ⟨t, u, rfl, hb, hs, q⟩
  unfold m__law_low
  walk_at "rdn"
  refine whileM (fun m s => ∃ (a b : Int), s = [.va (.int t), .va (.int u), .va (.int a), .va (.int b)] ∧ 0 ≤ a ∧ 0 ≤ b ∧ Nat.gcd a.natAbs b.natAbs = Nat.gcd t.natAbs u.natAbs ∧ m = b.toNat) (n := u.toNat)
    ⟨_, _, rfl, by split <;> omega, by split <;> omega, by congr 1 <;> split <;> omega, by split <;> omega⟩ ?_
  rintro m s N ⟨a, b, rfl, a0, b0, hg, rfl⟩ hN
  walk_at "rdn"
  by_cases hz : b = 0
  · subst hz
    rw [if_neg (by decide)]
    rw [Nat.gcd_comm] at hg
    have hg : a.natAbs = Nat.gcd t.natAbs u.natAbs := by simpa using hg
    have ea : a = (Nat.gcd t.natAbs u.natAbs : Nat) := by omega
    have g := sz_gcd (t := t) hb hs
    have g0 := gcd_pos (t := t) hb
    rw [← ea] at g g0
    rw [if_pos (by simp; omega)]
    refine ⟨_, opFdiv_ok g0 g (by decide), _, opFdiv_ok g0 g (by decide), ?_⟩
    unfold fracD at q
    rw [← ea] at q
    exact q
  · rw [if_pos (by simpa using hz)]
    refine ⟨_, opMod_ok (by omega), ?_⟩
    refine hN (a % b).toNat _ ?_ ⟨b, a % b, rfl, b0, Int.emod_nonneg _ hz, ?_, rfl⟩
    · have := Int.emod_lt_of_pos a (show 0 < b by omega)
      have := Int.emod_nonneg a hz
      omega
    · rw [← hg]
      obtain ⟨a', rfl⟩ := Int.eq_ofNat_of_zero_le a0
      obtain ⟨b', rfl⟩ := Int.eq_ofNat_of_zero_le b0
      have e : ((a' : Int) % (b' : Int)).natAbs = a' % b' := by
        rw [← Int.natCast_emod]
        rfl
      rw [e]
      show Nat.gcd b' (a' % b') = Nat.gcd a' b'
      rw [Nat.gcd_comm b' (a' % b'), ← Nat.gcd_rec, Nat.gcd_comm]
section
variable {P : Program} {w : World} {K : PySem.W.Frag} {mg : Str → Option Value} {base : Heap} {CN : String → Option Addr}
theorem ok__law_low {f : Addr} {fd : FuncData} (F : Fun K "_law_low" "_law_low" s__law_low f fd) (g : G K mg CN)  : FnG P w K mg base 1 f fd ["top", "bottom"] (spP K CN D__law_low) := by
  have sc := sc__law_low
  exact fun_okP (m := m__law_low) F sc (by decide) len__law_low (fun cdv A outer s H E C W hw hr tk =>
    (pds_cons (pds_par2 (ps_par2 (i := 2) (j := 3) rfl sc.nd rfl rfl (by decide) rfl rfl (pdar_cons (pdr_of (pd_callB call_abs rc_abs g.b_abs (by decide +kernel) (pda_cons (dv 0) pda_nil))) (pdar_cons (pdr_of (pd_callB call_abs rc_abs g.b_abs (by decide +kernel) (pda_cons (dv 1) pda_nil))) pdar_nil)) rfl))
    (pds_cons (pds_while (ps_while psw (pdt_cmp (or_neD (RoomG.u64 hr)) rl_ne (dv 3) pd_int (nomark _)) (pds_one (pds_par2 (ps_par2 (i := 2) (j := 3) rfl sc.nd rfl rfl (by decide) rfl rfl (pdar_cons (pdr_of (dv 3)) (pdar_cons (pdr_of (pd_op op_mod rl_mod (pd_callTy cr_int rc_int g.b_int (by decide +kernel) (pda_cons (dv 2) pda_nil)) (dv 3))) pdar_nil)) rfl)))))
    (pds_one (pds_ret (pdr_of (pd_ifE (pdt_cmp op_gt rl_cmpI (dv 1) pd_int (nomark _)) (pd_tup (pda_cons (pd_op op_fdivW rl_fdiv (dv 0) (dv 2)) (pda_cons (pd_op op_fdivW rl_fdiv (dv 1) (dv 2)) pda_nil))) (pd_tup (pda_cons (pd_op op_fdivW rl_fdiv (pd_un un_neg rl_neg (dv 0)) (dv 2)) (pda_cons (pd_op op_fdivW rl_fdiv (pd_un un_neg rl_neg (dv 1)) (dv 2)) pda_nil)))))))))) rd__law_low
end
end LW
namespace LW
open PySem PySem.Spec PyProof.Rows L2 DL
def m__law_edges : MS :=
  mSeq (mAsg (mLst (mNil)) (mgName 2))
  (mSeq (mFor (miSeq (mVar 1)) (mgName 3) (mSeq (mAsg (mOp2 opIx (mLst (mCons (mC (.int 0)) (mCons (mCallW dDraw 0 (mCons (mOp2 opAdd (mVar 3) (mC (.int 1))) (mNil))) (mCons (mCallW dDraw 0 (mCons (mOp2 opAdd (mVar 3) (mC (.int 1))) (mNil))) (mNil))))) (mCallW dDraw 0 (mCons (mC (.int 3)) (mNil)))) (mgName 4))
  (mSeq (mAsg (mOp2 opIx (mLst (mCons (mC (.int 0)) (mCons (mC (.int 1)) (mCons (mVar 3) (mCons (mCallW dDraw 0 (mCons (mOp2 opAdd (mVar 3) (mC (.int 1))) (mNil))) (mNil)))))) (mCallW dDraw 0 (mCons (mC (.int 4)) (mNil)))) (mgName 5))
  (mAsg (mOp2 opAdd (mVar 2) (mLst (mCons (mVar 4) (mCons (mCallB bMin (mCons (mVar 3) (mCons (mOp2 opAdd (mVar 4) (mVar 5)) (mNil)))) (mNil))))) (mgName 2)))))
  (mRet (mrOf (mCallB bTup (mCons (mVar 2) mNil)))))
def D__law_edges : WSpec := fun n ds Q => ∃ a b : Int, ds = [.tuple [.int a, .int b]] ∧ 12 ≤ n ∧ 1 ≤ a ∧ 1 ≤ b ∧ a < 2 ^ 100 ∧ b < 2 ^ 100 ∧ ∀ l r lo hi n', n ≤ n' + 10 → (0 ≤ l ∧ l ≤ r ∧ r ≤ a ∧ 0 ≤ lo ∧ lo ≤ hi ∧ hi ≤ b) → Q (.va (.tuple [.int l, .int r, .int lo, .int hi])) n'
theorem len__law_edges : ∀ n ds Q, D__law_edges n ds Q → ds.length + 1 = 2 := by
  rintro n _ Q ⟨a, b, rfl, _⟩
  rfl
theorem rd__law_edges : ∀ n ds Q, D__law_edges n ds Q → m__law_edges (endW Q) (slotsW 6 n ds) := by
  rintro n _ Q ⟨a, b, rfl, hn, a1, b1, a2, b2, q⟩
  unfold m__law_edges
  refine seq_step fun N hN => ?_
  walk_at "rdn"
  subst hN
  have one : ∀ (e : Int) (k : Nat) (xs : List PyData) (x4 x5 : S) (D : DE), 5 ≤ k → 1 ≤ e → e < 2 ^ 100 → xs.length ≤ 100 →
      (∀ l r k' x4 x5, k ≤ k' + 5 → 0 ≤ l → l ≤ r → r ≤ e → D.nx [.well k', .va (.tuple [.int a, .int b]), .va (.list (xs ++ [.int l, .int r])), .va (.int e), x4, x5]) →
      mSeq (mAsg (mOp2 opIx (mLst (mCons (mC (.int 0)) (mCons (mCallW dDraw 0 (mCons (mOp2 opAdd (mVar 3) (mC (.int 1))) (mNil))) (mCons (mCallW dDraw 0 (mCons (mOp2 opAdd (mVar 3) (mC (.int 1))) (mNil))) (mNil))))) (mCallW dDraw 0 (mCons (mC (.int 3)) (mNil)))) (mgName 4))
        (mSeq (mAsg (mOp2 opIx (mLst (mCons (mC (.int 0)) (mCons (mC (.int 1)) (mCons (mVar 3) (mCons (mCallW dDraw 0 (mCons (mOp2 opAdd (mVar 3) (mC (.int 1))) (mNil))) (mNil)))))) (mCallW dDraw 0 (mCons (mC (.int 4)) (mNil)))) (mgName 5))
        (mAsg (mOp2 opAdd (mVar 2) (mLst (mCons (mVar 4) (mCons (mCallB bMin (mCons (mVar 3) (mCons (mOp2 opAdd (mVar 4) (mVar 5)) (mNil)))) (mNil))))) (mgName 2)))
        D [.well k, .va (.tuple [.int a, .int b]), .va (.list xs), .va (.int e), x4, x5] := by
    intro e k xs x4 x5 D hk e1 e2 hxs hD
    refine seq_run (fun st => ∃ l k', st = [.well k', .va (.tuple [.int a, .int b]), .va (.list xs), .va (.int e), .va (.int l), x5] ∧ 0 ≤ l ∧ l ≤ e ∧ k ≤ k' + 3) (fun N hN => ?_) ?_
    · walk_at "rdn"
      refine dr (by omega) (by omega) (by omega) fun u u0 u1 => ⟨_, rfl, ?_⟩
      refine dr (by omega) (by omega) (by omega) fun w w0 w1 => ⟨_, rfl, ?_⟩
      refine dr (by omega) (by omega) (by omega) fun c c0 c1 => ?_
      have : c = 0 ∨ c = 1 ∨ c = 2 := by omega
      rcases this with rfl | rfl | rfl
      · exact ⟨_, rfl, _, rfl, hN _ ⟨_, _, rfl, by omega, by omega, by omega⟩⟩
      · exact ⟨_, rfl, _, rfl, hN _ ⟨_, _, rfl, by omega, by omega, by omega⟩⟩
      · exact ⟨_, rfl, _, rfl, hN _ ⟨_, _, rfl, by omega, by omega, by omega⟩⟩
    rintro _ ⟨l, k', rfl, l0, l1, hk'⟩
    refine seq_run (fun st => ∃ m k'', st = [.well k'', .va (.tuple [.int a, .int b]), .va (.list xs), .va (.int e), .va (.int l), .va (.int m)] ∧ 0 ≤ m ∧ k ≤ k'' + 5) (fun N hN => ?_) ?_
    · walk_at "rdn"
      refine dr (by omega) (by omega) (by omega) fun u u0 u1 => ⟨_, rfl, ?_⟩
      refine dr (by omega) (by omega) (by omega) fun c c0 c1 => ?_
      have : c = 0 ∨ c = 1 ∨ c = 2 ∨ c = 3 := by omega
      rcases this with rfl | rfl | rfl | rfl
      · exact ⟨_, rfl, _, rfl, hN _ ⟨_, _, rfl, by omega, by omega⟩⟩
      · exact ⟨_, rfl, _, rfl, hN _ ⟨_, _, rfl, by omega, by omega⟩⟩
      · exact ⟨_, rfl, _, rfl, hN _ ⟨_, _, rfl, by omega, by omega⟩⟩
      · exact ⟨_, rfl, _, rfl, hN _ ⟨_, _, rfl, by omega, by omega⟩⟩
    rintro _ ⟨m, k'', rfl, m0, hk''⟩
    walk_at "rdn"
    refine ⟨_, if_pos (by omega), ?_⟩
    exact hD l _ k'' _ _ (by omega) l0 (by split <;> omega) (by split <;> omega)
  refine seq_step fun N hN => ?_
  simp only [mFor]
  walk_at "rdn"
  simp only [forL, mgName, sset]
  refine one a n [] _ _ _ (by omega) a1 a2 (by simp) fun l r k' x4 x5 hk' l0 lr ra => ?_
  simp only [sset]
  refine one b k' _ _ _ _ (by omega) b1 b2 (by simp) fun lo hi k'' x4 x5 hk'' lo0 lh hb => ?_
  subst hN
  walk_at "rdn"
  exact q l r lo hi _ (by omega) ⟨l0, lr, ra, lo0, lh, hb⟩
section
variable {P : Program} {w : World} {K : PySem.W.Frag} {mg : Str → Option Value} {base : Heap} {CN : String → Option Addr}
theorem ok__law_edges {f : Addr} {fd : FuncData} (F : Fun K "_law_edges" "_law_edges" s__law_edges f fd) (g : G K mg CN) (c__law_draw : CalW P w K mg base 1 "_law_draw" dDraw) : FnG P w K mg base 2 f fd ["well", "desk"] (spW K D__law_edges) := by
  have sc := sc__law_edges
  exact fun_okW (m := m__law_edges) (CN := CN) F sc (by decide) len__law_edges (fun cdv A outer s H E C hr tk =>
    (pds_cons (pds_asg (ps_asg (pd_lst pda_nil) (dg 2 sc.nd)))
    (pds_cons (pds_for (ps_for psw rfl (pdi_seq (dv 1)) (dg 3 sc.nd) (pds_cons (pds_asg (ps_asg (pd_ix ix_seq rl_ix (pd_lst (pda_cons pd_int (pda_cons (pd_callW c__law_draw hr (by decide) tk (pv 0) (pda_cons (pd_op or_add rl_add (dv 3) pd_int) pda_nil)) (pda_cons (pd_callW c__law_draw hr (by decide) tk (pv 0) (pda_cons (pd_op or_add rl_add (dv 3) pd_int) pda_nil)) pda_nil)))) (pd_callW c__law_draw hr (by decide) tk (pv 0) (pda_cons pd_int pda_nil))) (dg 4 sc.nd)))
    (pds_cons (pds_asg (ps_asg (pd_ix ix_seq rl_ix (pd_lst (pda_cons pd_int (pda_cons pd_int (pda_cons (dv 3) (pda_cons (pd_callW c__law_draw hr (by decide) tk (pv 0) (pda_cons (pd_op or_add rl_add (dv 3) pd_int) pda_nil)) pda_nil))))) (pd_callW c__law_draw hr (by decide) tk (pv 0) (pda_cons pd_int pda_nil))) (dg 5 sc.nd)))
    (pds_one (pds_asg (ps_asg (pd_op or_add rl_add (dv 2) (pd_lst (pda_cons (dv 4) (pda_cons (pd_callB (call_min2 rfl) rc_min g.b_min (by decide +kernel) (pda_cons (dv 3) (pda_cons (pd_op or_add rl_add (dv 4) (dv 5)) pda_nil))) pda_nil)))) (dg 2 sc.nd))))))))
    (pds_one (pds_ret (pdr_of (pd_tupOf g.b_tuple (dv 2)))))))) rd__law_edges
end
end LW
namespace LW
open PySem PySem.Spec PyProof.Rows L2 DL
theorem low_le {X m l : Int} (m1 : 1 ≤ m) : (l * (lowP X m).2 ≤ (lowP X m).1 ↔ l * m ≤ X) ∧ ((lowP X m).1 ≤ l * (lowP X m).2 ↔ X ≤ l * m) := by
  obtain ⟨e, p, -⟩ := lowP_facts (t := X) (b := m) m1
  generalize lowP X m = t at *
  have e1 : l * t.2 * m = l * m * t.2 := by simp only [Int.mul_assoc, Int.mul_comm, Int.mul_left_comm]
  constructor
  · constructor
    · intro h
      have := Int.mul_le_mul_of_nonneg_right h (show 0 ≤ m by omega)
      rw [e, e1] at this
      exact Int.le_of_mul_le_mul_right this (by omega)
    · intro h
      have := Int.mul_le_mul_of_nonneg_right h (show 0 ≤ t.2 by omega)
      rw [← e, ← e1] at this
      exact Int.le_of_mul_le_mul_right this (by omega)
  · constructor
    · intro h
      have := Int.mul_le_mul_of_nonneg_right h (show 0 ≤ m by omega)
      rw [e, e1] at this
      exact Int.le_of_mul_le_mul_right this (by omega)
    · intro h
      have := Int.mul_le_mul_of_nonneg_right h (show 0 ≤ t.2 by omega)
      rw [← e, ← e1] at this
      exact Int.le_of_mul_le_mul_right this (by omega)
end LW
namespace LW
open PySem PySem.Spec PyProof.Rows L2 DL
def m__law_within (W : WD) : MS :=
  mSeq (mFor (miSeq (mTup (mCons (mTup (mCons (mOp2 opIx (mVar 0) (mC (.int 0))) (mCons (mOp2 opIx (mVar 1) (mC (.int 0))) (mCons (mOp2 opIx (mVar 1) (mC (.int 1))) (mNil))))) (mCons (mTup (mCons (mOp2 opIx (mVar 0) (mC (.int 1))) (mCons (mOp2 opIx (mVar 1) (mC (.int 2))) (mCons (mOp2 opIx (mVar 1) (mC (.int 3))) (mNil))))) (mNil))))) (mgTup 3 (mgCons (mgName 2) (mgCons (mgName 3) (mgCons (mgName 4) (mgNil))))) (mIf (mTNot (mT (mChain opLe opLe (mOp2 opMul (mVar 3) (mOp2 opIx (mVar 2) (mC (.int 1)))) (mOp2 opIx (mVar 2) (mC (.int 0))) (mOp2 opMul (mVar 4) (mOp2 opIx (mVar 2) (mC (.int 1))))))) (mRet (mrOf (mC (.bool false)))) (mNext)))
  (mRet (mrOf (mC (.bool true))))
def D__law_within : PSpec := fun ds Q _ => ∃ X Y m l r lo hi : Int, ds = [.tuple [fracD X m, fracD Y m], .tuple [.int l, .int r, .int lo, .int hi]] ∧ 1 ≤ m ∧ sz 6000 m ∧ sz 6000 l ∧ sz 6000 r ∧ sz 6000 lo ∧ sz 6000 hi ∧ Q (.va (.bool (decide ((l * m ≤ X ∧ X ≤ r * m) ∧ (lo * m ≤ Y ∧ Y ≤ hi * m)))))
theorem len__law_within : ∀ ds Q E, D__law_within ds Q E → ds.length = 2 := by
  rintro _ Q E ⟨X, Y, m, l, r, lo, hi, rfl, _⟩
  rfl
theorem rd__law_within : ∀ ds Q E, D__law_within ds Q E → m__law_within (fun c _ => E c) (endP Q) (slots0 5 ds) := by
  rintro _ Q E ⟨X, Y, m, l, r, lo, hi, rfl, m1, zm, zl, zr, zlo, zhi, q⟩
  unfold m__law_within
  have eX := lowP_D X m
  have eY := lowP_D Y m
  have zX := (sz_lowP (t := X) (k := X.natAbs) m1 (Nat.lt_two_pow_self) zm).2
  have zY := (sz_lowP (t := Y) (k := Y.natAbs) m1 (Nat.lt_two_pow_self) zm).2
  have lX := fun z => low_le (X := X) (m := m) (l := z) m1
  have lY := fun z => low_le (X := Y) (m := m) (l := z) m1
  rw [eX, eY]
  generalize lowP X m = A at *
  generalize lowP Y m = B at *
  refine seq_step fun N hN => ?_
  simp only [mFor]
  walk_at "rdn"
  have one : ∀ (t : Int × Int) (u w : Int) (st0 st1 : S) (D : DE), sz 6000 t.2 → sz 6000 u → sz 6000 w → (¬ (u * t.2 ≤ t.1 ∧ t.1 ≤ w * t.2) → ∀ s, D.rt (.va (.bool false)) s) → ((u * t.2 ≤ t.1 ∧ t.1 ≤ w * t.2) → D.nx [st0, st1, .va (.tuple [.int t.1, .int t.2]), .va (.int u), .va (.int w)]) →
      mIf (mTNot (mT (mChain opLe opLe (mOp2 opMul (mVar 3) (mOp2 opIx (mVar 2) (mC (.int 1)))) (mOp2 opIx (mVar 2) (mC (.int 0))) (mOp2 opMul (mVar 4) (mOp2 opIx (mVar 2) (mC (.int 1))))))) (mRet (mrOf (mC (.bool false)))) (mNext) D [st0, st1, .va (.tuple [.int t.1, .int t.2]), .va (.int u), .va (.int w)] := by
    intro t u w st0 st1 D zt zu zw hf ht
    walk_at "rdn"
    refine ⟨_, opMul_ok zu zt (by decide), decide (u * t.2 ≤ t.1), rfl, ?_⟩
    by_cases c1 : u * t.2 ≤ t.1
    · rw [decide_eq_true c1, if_pos rfl]
      refine ⟨_, opMul_ok zw zt (by decide), _, rfl, decide (t.1 ≤ w * t.2), rfl, ?_⟩
      by_cases c2 : t.1 ≤ w * t.2
      · rw [decide_eq_true c2]
        exact ht ⟨c1, c2⟩
      · rw [decide_eq_false c2]
        exact hf (fun z => c2 z.2) _
    · rw [decide_eq_false c1, if_neg (by decide)]
      exact hf (fun z => c1 z.1) _
  simp only [forL, mgName, mgTup_t, mgCons_c, mgNil_n, sset]
  refine ⟨rfl, one A l r _ _ _ zX zl zr (fun h s => ?_) (fun h => ?_)⟩
  · rw [decide_eq_false (fun z => h ⟨(lX l).1.mpr z.1.1, (lX r).2.mpr z.1.2⟩)] at q
    exact q
  refine ⟨rfl, one B lo hi _ _ _ zY zlo zhi (fun h2 s => ?_) (fun h2 => ?_)⟩
  · rw [decide_eq_false (fun z => h2 ⟨(lY lo).1.mpr z.2.1, (lY hi).2.mpr z.2.2⟩)] at q
    exact q
  · subst hN
    walk_at "rdn"
    rw [decide_eq_true ⟨⟨(lX l).1.mp h.1, (lX r).2.mp h.2⟩, ⟨(lY lo).1.mp h2.1, (lY hi).2.mp h2.2⟩⟩] at q
    exact q
section
variable {P : Program} {w : World} {K : PySem.W.Frag} {mg : Str → Option Value} {base : Heap} {CN : String → Option Addr}
theorem ok__law_within {f : Addr} {fd : FuncData} (F : Fun K "_law_within" "_law_within" s__law_within f fd) (g : G K mg CN)  : FnG P w K mg base 1 f fd ["place", "room"] (spP K CN D__law_within) := by
  have sc := sc__law_within
  exact fun_okP (m := m__law_within) F sc (by decide) len__law_within (fun cdv A outer s H E C W hw hr tk =>
    (pds_cons (pds_for (ps_for psw rfl (pdi_seq (pd_tup (pda_cons (pd_tup (pda_cons (pd_ix ix_seq rl_ix (dv 0) pd_int) (pda_cons (pd_ix ix_seq rl_ix (dv 1) pd_int) (pda_cons (pd_ix ix_seq rl_ix (dv 1) pd_int) pda_nil)))) (pda_cons (pd_tup (pda_cons (pd_ix ix_seq rl_ix (dv 0) pd_int) (pda_cons (pd_ix ix_seq rl_ix (dv 1) pd_int) (pda_cons (pd_ix ix_seq rl_ix (dv 1) pd_int) pda_nil)))) pda_nil)))) (pdg_tup rfl (gcons (dg 2 sc.nd) (gcons (dg 3 sc.nd) (gcons (dg 4 sc.nd) pdgs_nil)))) (pds_one (pds_if (pdt_not (pdt_chain2 op_le op_le rl_cmpI rl_cmpI (pd_op or_mul rl_mul (dv 3) (pd_ix ix_seq rl_ix (dv 2) pd_int)) (pd_ix ix_seq rl_ix (dv 2) pd_int) (pd_op or_mul rl_mul (dv 4) (pd_ix ix_seq rl_ix (dv 2) pd_int)))) (pds_one (pds_ret (pdr_of pd_bl))) pds_nil))))
    (pds_one (pds_ret (pdr_of pd_bl))))) rd__law_within
end
end LW
namespace LW
open PySem PySem.Spec PyProof.Rows L2 DL
/-- numbers, texts, none, and lists and tuples of these, not deep -/
def sd : Nat → PyData → Bool
  | 0, _ => false
  | j + 1, .list xs => decide (xs.length ≤ 1000) && xs.all (sd j)
  | j + 1, .tuple xs => decide (xs.length ≤ 1000) && xs.all (sd j)
  | _ + 1, .int _ => true
  | _ + 1, .none => true
  | _ + 1, .bool _ => true
  | _ + 1, .str z => PyData.strOk z
  | _ + 1, _ => false
theorem eqv_all {xs : List PyData} (h : ∀ x ∈ xs, PyData.eqv x x = true) : PyData.eqvAll xs xs = true := by
  induction xs with
  | nil => rfl
  | cons x xs ih => simp [PyData.eqvAll, h x (by simp), ih fun y hy => h y (by simp [hy])]
theorem lay_all {xs : List PyData} {j : Nat} (h : ∀ x ∈ xs, x.canLay0 = true ∧ x.depth ≤ j) : PyData.canLayAll0 xs = true ∧ PyData.depthAll xs ≤ j := by
  induction xs with
  | nil => exact ⟨rfl, by simp [PyData.depthAll]⟩
  | cons x xs ih =>
    have h1 := h x (by simp)
    have h2 := ih fun y hy => h y (by simp [hy])
    refine ⟨by simp [PyData.canLayAll0, h1.1, h2.1], ?_⟩
    simp only [PyData.depthAll]
    omega
theorem sd_ok : ∀ (j : Nat) (d : PyData), sd j d = true → d.canLay0 = true ∧ d.depth ≤ j ∧ PyData.eqv d d = true
  | 0, _, h => by cases h
  | j + 1, .list xs, h => by
    simp only [sd, Bool.and_eq_true, List.all_eq_true] at h
    have ih : ∀ x ∈ xs, _ := fun x hx => sd_ok j x (h.2 x hx)
    have a := lay_all (xs := xs) (j := j) fun x hx => ⟨(ih x hx).1, (ih x hx).2.1⟩
    refine ⟨by simp [PyData.canLay0, a.1], by simp only [PyData.depth]; omega, ?_⟩
    simp only [PyData.eqv]
    exact eqv_all fun x hx => (ih x hx).2.2
  | j + 1, .tuple xs, h => by
    simp only [sd, Bool.and_eq_true, List.all_eq_true] at h
    have ih : ∀ x ∈ xs, _ := fun x hx => sd_ok j x (h.2 x hx)
    have a := lay_all (xs := xs) (j := j) fun x hx => ⟨(ih x hx).1, (ih x hx).2.1⟩
    refine ⟨by simp [PyData.canLay0, a.1], by simp only [PyData.depth]; omega, ?_⟩
    simp only [PyData.eqv]
    exact eqv_all fun x hx => (ih x hx).2.2
  | j + 1, .int i, _ => ⟨rfl, by simp [PyData.depth], by simp [PyData.eqv]⟩
  | j + 1, .none, _ => ⟨rfl, by simp [PyData.depth], by simp [PyData.eqv]⟩
  | j + 1, .bool b, _ => ⟨rfl, by simp [PyData.depth], by simp [PyData.eqv]⟩
  | j + 1, .str z, h => ⟨by simpa [PyData.canLay0, sd] using h, by simp [PyData.depth], by simp [PyData.eqv]⟩
  | j + 1, .dict kvs, h => by simp [sd] at h
theorem opEq_self {j : Nat} {d : PyData} (hj : j ≤ 60) (h : sd j d = true) : opEq d d = some (.bool true) := by
  have k := sd_ok j d h
  have e : SeqAt.shaped d = true := by
    unfold SeqAt.shaped
    rw [k.1, decide_eq_true (by omega)]
    rfl
  unfold opEq
  rw [e, k.2.2]
  rfl
theorem opNe_self {j : Nat} {d : PyData} (hj : j ≤ 60) (h : sd j d = true) : opNe d d = some (.bool false) := by
  have k := sd_ok j d h
  have e : SeqAt.shaped d = true := by
    unfold SeqAt.shaped
    rw [k.1, decide_eq_true (by omega)]
    rfl
  unfold opNe
  rw [e, k.2.2]
  rfl
theorem inR_shift {s l h z m j : Int} (s1 : 1 ≤ s) (m1 : 1 ≤ m) : InR s l h (z - 2 * s * m * j) m ↔ InR s l h z m := by
  unfold InR
  have : foldI s (z - 2 * s * m * j) m = foldI s z m := fold_eq s1 m1 (.inl (by
    rw [show z - 2 * s * m * j = z + 2 * s * m * (-j) by rw [Int.mul_neg]; omega, Int.add_mul_emod_self_left]))
  rw [this]
theorem inR_line {s l h x p n m : Int} (s1 : 1 ≤ s) (m1 : 1 ≤ m) : InR s l h (lineA p x * m + lineV p * n) m ↔ InR s l h (x * m + p * n) m := by
  unfold InR lineA lineV
  by_cases c : p < 0
  · rw [if_pos c, if_pos c]
    have : foldI s (-x * m + -p * n) m = foldI s (x * m + p * n) m := fold_eq s1 m1 (.inr (by rw [show -x * m + -p * n = -(x * m + p * n) by grind]))
    rw [this]
  · rw [if_neg c, if_neg c]
theorem nth_call {a b x y p q k : Int} {Q : S → Prop} {E : String → Prop} (v : Vd 200 a b x y p q) (k0 : 0 ≤ k) (zk : sz 300 k)
    (h : Q (.va ((Ls.of a b x y p q).row ((Ls.of a b x y p q).at (k.toNat + 1))))) : D_nth_hit [.tuple [.int a, .int b], .tuple [.int x, .int y, .int p, .int q], .int k] Q E := by
  have hi : isIdx (.int k) = true := decide_eq_true k0
  exact ⟨_, _, _, rfl, fun z => absurd (v.tab.symm.trans z) (by decide), fun _ z => absurd (v.shot.symm.trans z) (by decide), fun _ _ z => absurd (hi.symm.trans z) (by decide), fun _ _ _ => ⟨⟨v.za, v.zb⟩, ⟨v.zx, v.zy, v.zp, v.zq⟩, fun k' e => (by cases e; exact zk), h⟩⟩
theorem place_call {a b x y p q n m : Int} {Q : S → Prop} {E : String → Prop} (v : Vd 1000 a b x y p q) (m1 : 1 ≤ m) (g : Nat.gcd n.natAbs m.natAbs = 1) (zn : sz 7000 n) (zm : sz 7000 m)
    (h : Q (.va ((Ls.of a b x y p q).place (n, m)))) : D_place_at [.tuple [.int a, .int b], .tuple [.int x, .int y, .int p, .int q], .tuple [.int n, .int m]] Q E := by
  refine ⟨_, _, _, rfl, fun z => absurd (v.tab.symm.trans z) (by decide), fun _ z => absurd (v.shot.symm.trans z) (by decide), fun _ _ z => absurd ((frac_ok m1 g).symm.trans z) (by decide), fun _ _ _ => ⟨⟨v.za, v.zb⟩, ⟨v.zx, v.zy, v.zp, v.zq⟩, ⟨zn, zm⟩, ?_⟩⟩
  rw [← place_L v.a1 v.b1 (t := (n, m)) m1] at h
  exact h
theorem frac_whole {F m c : Int} (hm : 1 ≤ m) : fracD F m = .tuple [.int c, .int 1] ↔ F = c * m := by
  constructor
  · intro h
    obtain ⟨f, -, -⟩ := low_facts (t := F) hm
    unfold fracD at h
    simp only [PyData.tuple.injEq, List.cons.injEq, PyData.int.injEq, and_true] at h
    rw [h.1, h.2] at f
    omega
  · intro h
    exact low_unique hm (by decide) (Nat.gcd_one_right _) (by omega)
theorem rF_rest {s A V n m : Int} (hs : 1 ≤ s) (hm : 1 ≤ m) : rF s A V n m = (if rP s A V n m % 2 = 0 then (A * m + V * n) % (s * m) else s * m - (A * m + V * n) % (s * m)) ∧ 0 ≤ (A * m + V * n) % (s * m) ∧ (A * m + V * n) % (s * m) < s * m := by
  have M0 : 0 < s * m := Int.mul_pos (by omega) (by omega)
  have e := Int.mul_ediv_add_emod (A * m + V * n) (s * m)
  have h0 := Int.emod_nonneg (A * m + V * n) (show s * m ≠ 0 by omega)
  have h1 := Int.emod_lt_of_pos (A * m + V * n) M0
  have eP : rP s A V n m = (A * m + V * n) / (s * m) := rfl
  rw [← eP] at e
  have d : rD s A V n m = s * m - (A * m + V * n) % (s * m) := by
    unfold rD
    rw [Int.mul_add]
    omega
  refine ⟨?_, h0, h1⟩
  unfold rF
  rw [d]
  split <;> omega
/-- which cushion of a line the place lies at -/
theorem at_low {s A V n m : Int} (hs : 1 ≤ s) (hm : 1 ≤ m) : rF s A V n m = 0 * m ↔ rP s A V n m % 2 = 0 ∧ (A * m + V * n) % (s * m) = 0 := by
  obtain ⟨e, h0, h1⟩ := rF_rest (A := A) (V := V) (n := n) hs hm
  rw [e]
  split <;> omega
theorem at_high {s A V n m : Int} (hs : 1 ≤ s) (hm : 1 ≤ m) : rF s A V n m = s * m ↔ ¬ rP s A V n m % 2 = 0 ∧ (A * m + V * n) % (s * m) = 0 := by
  obtain ⟨e, h0, h1⟩ := rF_rest (A := A) (V := V) (n := n) hs hm
  rw [e]
  split <;> omega
theorem Ls.mark_facts (L : Ls) (ok : L.Ok) (hV : 0 < L.V) {j : Int} (j0 : 0 ≤ j) : 1 ≤ (lowP (sideM L.s L.A + L.s * j - L.A) L.V).2 ∧ 0 < (lowP (sideM L.s L.A + L.s * j - L.A) L.V).1 ∧ Nat.gcd (lowP (sideM L.s L.A + L.s * j - L.A) L.V).1.natAbs (lowP (sideM L.s L.A + L.s * j - L.A) L.V).2.natAbs = 1 ∧
    L.hit (lowP (sideM L.s L.A + L.s * j - L.A) L.V) = true ∧ L.P (lowP (sideM L.s L.A + L.s * j - L.A) L.V) = L.P (0, 1) + 1 + j ∧ (lowP (sideM L.s L.A + L.s * j - L.A) L.V).1 * L.V = (sideM L.s L.A + L.s * j - L.A) * (lowP (sideM L.s L.A + L.s * j - L.A) L.V).2 := by
  have sm := L.sideM0 ok
  have p0 := L.P0
  have s1 := ok.s1
  have e := Int.emod_add_mul_ediv L.A L.s
  have e1 := Int.emod_lt_of_pos L.A (show 0 < L.s by omega)
  rw [← p0] at e
  have sj := Int.mul_nonneg (show 0 ≤ L.s by omega) j0
  have pos : 0 < sideM L.s L.A + L.s * j - L.A := by
    rw [sm, Int.mul_add]
    omega
  obtain ⟨h1, h2, h3⟩ := lowP_facts (t := sideM L.s L.A + L.s * j - L.A) (b := L.V) hV
  rw [sm] at *
  generalize hT : lowP (L.s * (L.P (0, 1) + 1) + L.s * j - L.A) L.V = T at *
  have T0 : 0 < T.1 := by
    refine pos_of_mul (c := L.V) hV ?_
    rw [Int.mul_comm, h1]
    exact Int.mul_pos pos (by omega)
  have SM : 0 < L.s * T.2 := Int.mul_pos (by omega) (by omega)
  have eT : L.A * T.2 + L.V * T.1 = L.s * T.2 * (L.P (0, 1) + 1 + j) := by
    generalize L.P (0, 1) = P0 at *
    grind
  refine ⟨h2, T0, h3, ?_, ?_, h1⟩
  · unfold hit
    rw [eT]
    exact decide_eq_true ⟨by omega, Int.mul_emod_right _ _⟩
  · show (L.A * T.2 + L.V * T.1) / (L.s * T.2) = _
    rw [eT]
    exact Int.mul_ediv_cancel_left _ (by omega)
theorem corn_btw {L : Ls} (c1 : 1 ≤ L.z * L.V) (k : Int) : Btw (cornW L.s L.A L.V L.z L.B L.U).g (cornW L.s L.A L.V L.z L.B L.U).b (cornW L.s L.A L.V L.z L.B L.U).c (cornW L.s L.A L.V L.z L.B L.U).G (cornW L.s L.A L.V L.z L.B L.U).B (cornW L.s L.A L.V L.z L.B L.U).C k ↔ 0 ≤ k ∧ L.corn k := btw_wit c1
/-- at a corner both lines hit -/
def Ls.both (L : Ls) (t : Int × Int) : Prop := L.hit t = true ∧ L.hit' t = true
theorem due_facts {a b x y p q : Int} (R : LRow (Ls.of a b x y p q)) : (dueD a b x y p q = .none ∧ ∀ i : Nat, ¬ (Ls.of a b x y p q).both ((Ls.of a b x y p q).at (i + 1))) ∨
    ∃ k : Nat, dueD a b x y p q = .int k ∧ (Ls.of a b x y p q).both ((Ls.of a b x y p q).at (k + 1)) ∧ (∀ i : Nat, i < k → ¬ (Ls.of a b x y p q).both ((Ls.of a b x y p q).at (i + 1))) ∧ (k : Int) < a * lineV q + b * lineV p := by
  have ok := R.ok
  by_cases hz : lineV p = 0 ∨ lineV q = 0
  · left
    unfold dueD
    rw [if_pos hz]
    refine ⟨rfl, fun i ⟨h1, h2⟩ => ?_⟩
    unfold Ls.hit at h1
    unfold Ls.hit' at h2
    have h1 : lineV p ≠ 0 := (of_decide_eq_true h1).1
    have h2 : lineV q ≠ 0 := (of_decide_eq_true h2).1
    omega
  · have V0 : 0 < lineV p := by have := lineV_nonneg p; omega
    have U0 : 0 < lineV q := by have := lineV_nonneg q; omega
    have sp := cornO_spec a (lineA p x) (lineV p) b (lineA q y) (lineV q)
    unfold dueD
    rw [if_neg hz]
    generalize hL : Ls.of a b x y p q = L at *
    have es : L.s = a := by rw [← hL]; rfl
    have eA : L.A = lineA p x := by rw [← hL]; rfl
    have eV : L.V = lineV p := by rw [← hL]; rfl
    have ez : L.z = b := by rw [← hL]; rfl
    have eB : L.B = lineA q y := by rw [← hL]; rfl
    have eU : L.U = lineV q := by rw [← hL]; rfl
    have eI : ∀ o, cornI a b x y p q o = match o with
      | none => .none
      | some k => .int (L.N (lowP (sideM L.s L.A + L.s * k - L.A) L.V) - 1) := fun o => by
        unfold Ls.N
        rw [es, eA, eV, ez, eB, eU]
        cases o <;> rfl
    rw [eI]
    rw [← es, ← eA, ← eV, ← ez, ← eB, ← eU] at sp
    rw [← es, ← eA, ← eV, ← ez, ← eB, ← eU]
    rw [← eV] at V0
    rw [← eU] at U0
    generalize cornO L.s L.A L.V L.z L.B L.U = o at *
    have s1 := ok.s1
    have z1 := ok.z1
    have c1 : 1 ≤ L.z * L.V := Int.mul_pos (by omega) V0
    have sp := least_iff (corn_btw c1) sp
    have ix : ∀ i : Nat, L.both (L.at (i + 1)) → 0 ≤ L.P (L.at (i + 1)) - L.P (0, 1) - 1 ∧ L.corn (L.P (L.at (i + 1)) - L.P (0, 1) - 1) := by
      rintro i ⟨h1, h2⟩
      refine ⟨?_, (L.corn_hit ok (R.gd (i + 1)).m1 h1 U0).mpr h2⟩
      have t := (L.turn2 ok (R.gd i)).1
      have e : L.at (i + 1) = L.next (L.at i) := rfl
      rw [e] at h1 ⊢
      rw [h1, if_pos rfl] at t
      have := R.P_ge i
      omega
    cases o with
    | none =>
      left
      exact ⟨rfl, fun i h => sp _ (ix i h)⟩
    | some j =>
      right
      obtain ⟨⟨j0, hj⟩, least⟩ := sp
      obtain ⟨m1, n0, g, hh, hP, hT⟩ := L.mark_facts ok V0 j0
      have jc : j < L.z * L.V := by
        refine Classical.byContradiction fun z => ?_
        have := least (j - L.z * L.V) ⟨by omega, ?_⟩
        · omega
        · unfold Ls.corn at hj ⊢
          rw [show L.U * L.s * (j - L.z * L.V) + (L.B * L.V + L.U * (sideM L.s L.A - L.A)) = (L.U * L.s * j + (L.B * L.V + L.U * (sideM L.s L.A - L.A))) + L.z * L.V * -(L.U * L.s) by grind, Int.add_mul_emod_self_left]
          exact hj
      show ∃ k : Nat, PyData.int (L.N (lowP (sideM L.s L.A + L.s * j - L.A) L.V) - 1) = _ ∧ _
      have sm := L.sideM0 ok
      have e := Int.emod_add_mul_ediv L.A L.s
      have e1 := Int.emod_lt_of_pos L.A (show 0 < L.s by omega)
      have e2 := Int.emod_nonneg L.A (show L.s ≠ 0 by omega)
      rw [← L.P0] at e
      generalize lowP (sideM L.s L.A + L.s * j - L.A) L.V = T at *
      obtain ⟨k, ek, eN⟩ := R.hit_at m1 n0 g (.inl hh)
      have cj : L.corn (L.P T - L.P (0, 1) - 1) := by rw [hP, show L.P (0, 1) + 1 + j - L.P (0, 1) - 1 = j by omega]; exact hj
      have hh' := (L.corn_hit ok m1 hh U0).mp cj
      refine ⟨k, by rw [eN]; congr 1; omega, by rw [ek]; exact ⟨hh, hh'⟩, fun i hi hb => ?_, ?_⟩
      · have l := least _ (ix i hb)
        have t := (L.turn2 ok (R.gd k)).1
        have ek' : L.next (L.at k) = T := ek
        rw [ek', hh, if_pos rfl, hP] at t
        have mono := (L.P_mono ok (R.gd (i + 1)).m1 (R.gd k).m1 (by
          have := at_le R (i + 1) (k - (i + 1))
          rwa [show i + 1 + (k - (i + 1)) = k by omega] at this)).1
        omega
      · have eN2 := L.N_is ok m1 (by omega)
        rw [if_pos ⟨V0, U0⟩, hP, show (L.P (0, 1) + 1 + j - L.P (0, 1)).toNat = j.toNat + 1 by omega, cornC] at eN2
        rw [if_pos (by unfold Ls.corn at hj; rw [show (j.toNat : Int) = j by omega]; exact hj)] at eN2
        have q2 : L.P' T - L.P' (0, 1) ≤ L.U * L.s := by
          have MZ : 0 < L.z * T.2 := Int.mul_pos (by omega) (by omega)
          have le1 : T.1 ≤ T.2 * (L.s * L.z) := by
            refine Int.le_of_mul_le_mul_right (a := L.V) ?_ V0
            rw [hT, sm, Int.mul_comm _ T.2, Int.mul_assoc T.2]
            refine Int.mul_le_mul_of_nonneg_left ?_ (by omega)
            have a1 : L.s * (j + 1) ≤ L.s * (L.z * L.V) := Int.mul_le_mul_of_nonneg_left (by omega) (by omega)
            rw [Int.mul_add] at a1
            rw [Int.mul_add, Int.mul_assoc L.s]
            omega
          have le2 : L.B * T.2 + L.U * T.1 ≤ L.B * T.2 + L.z * T.2 * (L.U * L.s) := by
            have := Int.mul_le_mul_of_nonneg_left le1 (show 0 ≤ L.U by omega)
            have e : L.U * (T.2 * (L.s * L.z)) = L.z * T.2 * (L.U * L.s) := by simp only [Int.mul_assoc, Int.mul_comm, Int.mul_left_comm]
            omega
          have le3 : (L.B * T.2 + L.U * T.1) / (L.z * T.2) ≤ (L.B * T.2 + L.z * T.2 * (L.U * L.s)) / (L.z * T.2) := Int.ediv_le_ediv MZ le2
          rw [Int.add_mul_ediv_left _ _ (by omega), Int.mul_ediv_mul_of_pos_left _ _ (by omega)] at le3
          have eP0 : L.P' (0, 1) = L.B / L.z := by
            unfold Ls.P' rP
            simp only [Int.mul_one, Int.mul_zero, Int.add_zero]
          have eP : L.P' T = (L.B * T.2 + L.U * T.1) / (L.z * T.2) := rfl
          omega
        have e3 : L.U * L.s = L.s * L.U := Int.mul_comm _ _
        rw [eN] at eN2
        omega
theorem lineV_ne (v : Int) : lineV v ≠ 0 ↔ v ≠ 0 := by unfold lineV; split <;> omega
theorem inR_one {s c z m : Int} : InR s c c z m ↔ foldI s z m = c * m := by
  unfold InR
  omega
theorem line_at {s A V c : Int} {t : Int × Int} (s1 : 1 ≤ s) (t1 : 1 ≤ t.2) (hc : c = 0 ∨ c = s) (h : InR s c c (A * t.2 + V * t.1) t.2) : (A * t.2 + V * t.1) % (s * t.2) = 0 := by
  rw [inR_one, rF_fold s1 t1] at h
  rcases hc with rfl | rfl
  · exact ((at_low s1 t1).mp h).2
  · exact ((at_high s1 t1).mp h).2
theorem spot_both {a b x y p q u v : Int} {t : Int × Int} (a1 : 1 ≤ a) (b1 : 1 ≤ b) (hp : p ≠ 0) (hq : q ≠ 0) (t1 : 1 ≤ t.2) (hu : u = 0 ∨ u = a) (hv : v = 0 ∨ v = b) (h : InBox a b x y p q u u v v t) : (Ls.of a b x y p q).both t :=
  ⟨decide_eq_true ⟨(lineV_ne p).mpr hp, line_at a1 t1 hu h.1⟩, decide_eq_true ⟨(lineV_ne q).mpr hq, line_at b1 t1 hv h.2⟩⟩
theorem hit_line {L : Ls} {t : Int × Int} (h : L.hit t = true) : (L.A * t.2 + L.V * t.1) % (L.s * t.2) = 0 := (of_decide_eq_true h).2
theorem hit_line' {L : Ls} {t : Int × Int} (h : L.hit' t = true) : (L.B * t.2 + L.U * t.1) % (L.z * t.2) = 0 := (of_decide_eq_true h).2
/-- where both hit -/
def cornX (a P : Int) : Int := if P % 2 = 0 then 0 else a
theorem both_place {a b x y p q : Int} {t : Int × Int} (a1 : 1 ≤ a) (b1 : 1 ≤ b) (t1 : 1 ≤ t.2) (h : (Ls.of a b x y p q).both t) : (Ls.of a b x y p q).F t = cornX a ((Ls.of a b x y p q).P t) * t.2 ∧ (Ls.of a b x y p q).F' t = cornX b ((Ls.of a b x y p q).P' t) * t.2 := by
  have h1 := hit_line h.1
  have h2 := hit_line' h.2
  constructor
  · unfold cornX
    split
    · rename_i c
      exact (at_low a1 t1).mpr ⟨c, h1⟩
    · rename_i c
      exact (at_high a1 t1).mpr ⟨c, h1⟩
  · unfold cornX
    split
    · rename_i c
      exact (at_low b1 t1).mpr ⟨c, h2⟩
    · rename_i c
      exact (at_high b1 t1).mpr ⟨c, h2⟩
theorem both_spot {a b x y p q : Int} {t : Int × Int} (a1 : 1 ≤ a) (b1 : 1 ≤ b) (t1 : 1 ≤ t.2) (h : (Ls.of a b x y p q).both t) : InBox a b x y p q (cornX a ((Ls.of a b x y p q).P t)) (cornX a ((Ls.of a b x y p q).P t)) (cornX b ((Ls.of a b x y p q).P' t)) (cornX b ((Ls.of a b x y p q).P' t)) t := by
  obtain ⟨e1, e2⟩ := both_place a1 b1 t1 h
  refine ⟨inR_one.mpr ?_, inR_one.mpr ?_⟩
  · rw [rF_fold a1 t1]
    exact e1
  · rw [rF_fold b1 t1]
    exact e2
theorem cornX_or (a P : Int) : cornX a P = 0 ∨ cornX a P = a := by
  unfold cornX
  split
  · exact .inl rfl
  · exact .inr rfl
/-- what is collected: times behind 0 at corners -/
structure Fnd (a b x y p q : Int) (t : Int × Int) : Prop where
  t1 : 1 ≤ t.2
  t0 : 0 < t.1
  g : Nat.gcd t.1.natAbs t.2.natAbs = 1
  at' : ∃ u v, (u = 0 ∨ u = a) ∧ (v = 0 ∨ v = b) ∧ InBox a b x y p q u u v v t
  z1 : sz 5000 t.1
  z2 : sz 5000 t.2
theorem Fnd.both {a b x y p q : Int} {t : Int × Int} (f : Fnd a b x y p q t) (a1 : 1 ≤ a) (b1 : 1 ≤ b) (hp : p ≠ 0) (hq : q ≠ 0) : (Ls.of a b x y p q).both t := by
  obtain ⟨u, v, hu, hv, h⟩ := f.at'
  exact spot_both a1 b1 hp hq f.t1 hu hv h
theorem Fnd.row {a b x y p q : Int} {t : Int × Int} (R : LRow (Ls.of a b x y p q)) (f : Fnd a b x y p q t) (a1 : 1 ≤ a) (b1 : 1 ≤ b) (hp : p ≠ 0) (hq : q ≠ 0) : ∃ k : Nat, (Ls.of a b x y p q).at (k + 1) = t := by
  obtain ⟨k, e, -⟩ := R.hit_at f.t1 f.t0 f.g (.inl (f.both a1 b1 hp hq).1)
  exact ⟨k, e⟩
/-- what is collected lies at or behind the first corner -/
theorem Fnd.late {a b x y p q : Int} {t : Int × Int} (R : LRow (Ls.of a b x y p q)) (f : Fnd a b x y p q t) (a1 : 1 ≤ a) (b1 : 1 ≤ b) (hp : p ≠ 0) (hq : q ≠ 0) {k : Nat} (h : ∀ i : Nat, i < k → ¬ (Ls.of a b x y p q).both ((Ls.of a b x y p q).at (i + 1))) : le ((Ls.of a b x y p q).at (k + 1)) t := by
  obtain ⟨j, e⟩ := f.row R a1 b1 hp hq
  have hj : k ≤ j := Nat.le_of_not_lt fun c => h j c (by rw [e]; exact f.both a1 b1 hp hq)
  rw [← e]
  have := at_le R (k + 1) (j - k)
  rw [show k + 1 + (j - k) = j + 1 by omega] at this
  exact this
theorem one_le1 : (1 : Int) ≤ 1 := by decide
theorem line_shift {s x v w : Int} (hs : 1 ≤ s) (x0 : 0 ≤ x) (x1 : x ≤ s) : ∃ c : Int, lineA (rW s (lineA v x) (lineV v) w 1) (rF s (lineA v x) (lineV v) w 1) = lineA v x + lineV v * w - 2 * s * c ∧ lineV (rW s (lineA v x) (lineV v) w 1) = lineV v := by
  obtain ⟨e, h0, h1⟩ := rF_rest (A := lineA v x) (V := lineV v) (n := w) hs (show (1 : Int) ≤ 1 by decide)
  have v0 : 0 ≤ lineV v := lineV_nonneg v
  have dm := Int.mul_ediv_add_emod (lineA v x * 1 + lineV v * w) (s * 1)
  have eP : rP s (lineA v x) (lineV v) w 1 = (lineA v x * 1 + lineV v * w) / (s * 1) := rfl
  rw [← eP] at dm
  rw [e]
  by_cases hV : lineV v = 0
  · have hv : v = 0 := by unfold lineV at hV; split at hV <;> omega
    refine ⟨0, ?_, ?_⟩
    · have w0 : rW s (lineA v x) (lineV v) w 1 = 0 := by unfold rW; rw [hV]; split <;> rfl
      rw [w0]
      have hA : lineA v x = x := by unfold lineA; rw [if_neg (by omega)]
      have hA0 : ∀ z : Int, lineA 0 z = z := fun z => if_neg (by decide)
      rw [hA0]
      rw [hA, hV] at *
      simp only [Int.zero_mul, Int.add_zero, Int.mul_one, Int.mul_zero, Int.sub_zero] at *
      by_cases c : x = s
      · subst c
        have : rP x x 0 w 1 = 1 := by
          show (x * 1 + 0 * w) / (x * 1) = 1
          rw [Int.mul_one, Int.zero_mul, Int.add_zero]
          exact Int.ediv_self (by omega)
        rw [this, Int.emod_self]
        simp
      · have : rP s x 0 w 1 = 0 := by
          show (x * 1 + 0 * w) / (s * 1) = 0
          rw [Int.mul_one, Int.mul_one, Int.zero_mul, Int.add_zero]
          exact Int.ediv_eq_zero_of_lt x0 (by omega)
        rw [this, Int.emod_eq_of_lt x0 (by omega)]
        simp
    · have w0 : rW s (lineA v x) (lineV v) w 1 = 0 := by unfold rW; rw [hV]; split <;> rfl
      rw [w0, hV]
      rfl
  · have V1 : 0 < lineV v := by omega
    unfold rW
    generalize rP s (lineA v x) (lineV v) w 1 = P at *
    generalize lineV v = V at *
    generalize lineA v x = A at *
    generalize (A * 1 + V * w) % (s * 1) = r at *
    by_cases hp : P % 2 = 0
    · refine ⟨P / 2, ?_, ?_⟩
      · rw [if_pos hp, if_pos hp]
        unfold lineA
        rw [if_neg (by omega)]
        have : P = 2 * (P / 2) := by omega
        generalize P / 2 = c at *
        subst this
        grind
      · rw [if_pos hp]
        unfold lineV
        rw [if_neg (by omega)]
    · refine ⟨(P + 1) / 2, ?_, ?_⟩
      · rw [if_neg hp, if_neg hp]
        unfold lineA
        rw [if_pos (by omega)]
        have : P = 2 * ((P + 1) / 2) - 1 := by omega
        generalize (P + 1) / 2 = c at *
        subst this
        grind
      · rw [if_neg hp]
        unfold lineV
        rw [if_pos (by omega)]
        omega
def back (w : Int) (t : Int × Int) : Int × Int := (t.1 - w * t.2, t.2)
structure Shift (L M : Ls) (w c d : Int) : Prop where
  s : M.s = L.s
  z : M.z = L.z
  V : M.V = L.V
  U : M.U = L.U
  A : M.A = L.A + L.V * w - 2 * L.s * c
  B : M.B = L.B + L.U * w - 2 * L.z * d
theorem back_line {s A V w c n m : Int} (hs : 1 ≤ s) (hm : 1 ≤ m) : rP s (A + V * w - 2 * s * c) V (n - w * m) m = rP s A V n m - 2 * c ∧ rD s (A + V * w - 2 * s * c) V (n - w * m) m = rD s A V n m ∧ ((A + V * w - 2 * s * c) * m + V * (n - w * m)) % (s * m) = (A * m + V * n) % (s * m) := by
  have M0 : 0 < s * m := Int.mul_pos (by omega) (by omega)
  have e : (A + V * w - 2 * s * c) * m + V * (n - w * m) = (A * m + V * n) + (s * m) * (-(2 * c)) := by grind
  have p : rP s (A + V * w - 2 * s * c) V (n - w * m) m = rP s A V n m - 2 * c := by
    unfold rP
    rw [e, Int.add_mul_ediv_left _ _ (by omega)]
    omega
  refine ⟨p, ?_, ?_⟩
  · unfold rD
    rw [p, e]
    generalize rP s A V n m = P
    grind
  · rw [e, Int.add_mul_emod_self_left]
theorem lowP_back {X V w : Int} (hV : 0 < V) : lowP (X - V * w) V = back w (lowP X V) := by
  obtain ⟨e, p, g⟩ := lowP_facts (t := X) (b := V) hV
  refine lowP_of ?_
  refine low_unique hV p ?_ ?_
  · have := gcd_lin (R := (lowP X V).1 - w * (lowP X V).2) (T := (lowP X V).1) (B := (lowP X V).2) (k := -w) (.inl (by rw [Int.mul_neg, Int.mul_comm w]; omega))
    show Nat.gcd ((lowP X V).1 - w * (lowP X V).2).natAbs (lowP X V).2.natAbs = 1
    rw [this, g]
  · show ((lowP X V).1 - w * (lowP X V).2) * V = (X - V * w) * (lowP X V).2
    generalize lowP X V = h at *
    grind
section
variable {L M : Ls} {w c d : Int}
theorem Shift.PD (S : Shift L M w c d) (ok : L.Ok) {t : Int × Int} (m1 : 1 ≤ t.2) : M.P (back w t) = L.P t - 2 * c ∧ M.P' (back w t) = L.P' t - 2 * d ∧ M.D (back w t) = L.D t ∧ M.D' (back w t) = L.D' t := by
  obtain ⟨e1, e2, e3, e4, e5, e6⟩ := S
  unfold Ls.P Ls.P' Ls.D Ls.D' back
  rw [e1, e2, e3, e4, e5, e6]
  obtain ⟨a1, a2, -⟩ := back_line (A := L.A) (V := L.V) (w := w) (c := c) (n := t.1) ok.s1 m1
  obtain ⟨b1, b2, -⟩ := back_line (A := L.B) (V := L.U) (w := w) (c := d) (n := t.1) ok.z1 m1
  exact ⟨a1, b1, a2, b2⟩
theorem Shift.next (S : Shift L M w c d) (ok : L.Ok) {t : Int × Int} (m1 : 1 ≤ t.2) : M.next (back w t) = back w (L.next t) := by
  obtain ⟨p, q, a, b⟩ := S.PD ok m1
  have f : M.first (back w t) = L.first t := by
    unfold Ls.first
    rw [a, b, S.V, S.U]
  have v0 := ok.v0
  have u0 := ok.u0
  have hw := ok.w
  unfold Ls.next
  rw [f]
  by_cases h : L.first t = true
  · rw [if_pos h, if_pos h, p, S.s, S.A, S.V]
    have hV : 0 < L.V := by
      unfold Ls.first at h
      simp only [Bool.and_eq_true, decide_eq_true_eq] at h
      omega
    rw [← lowP_back hV]
    congr 1
    generalize L.P t = P
    grind
  · rw [if_neg h, if_neg h, q, S.z, S.B, S.U]
    have hU : 0 < L.U := by
      by_cases c : L.U = 0
      · exfalso
        apply h
        unfold Ls.first
        simp [c]
        omega
      · omega
    rw [← lowP_back hU]
    congr 1
    generalize L.P' t = P
    grind
end
theorem sz_one (k : Nat) (h : 1 ≤ k) : sz k 1 := sz_mono (k := 1) (by unfold sz; decide) h
theorem shotN_whole {a b x y p q w : Int} (a1 : 1 ≤ a) (b1 : 1 ≤ b) : shotN a b x y p q w 1 = .tuple [.int (rF a (lineA p x) (lineV p) w 1), .int (rF b (lineA q y) (lineV q) w 1), .int (rW a (lineA p x) (lineV p) w 1), .int (rW b (lineA q y) (lineV q) w 1)] := by
  have h1 : placeN a x p w 1 = .tuple [.int (rF a (lineA p x) (lineV p) w 1), .int 1] := by rw [place_frac1 a1 one_le1, rF_fold a1 one_le1, fracD_one]
  have h2 : placeN b y q w 1 = .tuple [.int (rF b (lineA q y) (lineV q) w 1), .int 1] := by rw [place_frac1 b1 one_le1, rF_fold b1 one_le1, fracD_one]
  unfold shotN
  rw [h1, h2]
  rfl
theorem shot_call {a b x y p q w : Int} {Q : S → Prop} {E : String → Prop} (v : Vd 1000 a b x y p q) (zw : sz 1000 w)
    (h : Q (.va (.tuple [.int (rF a (lineA p x) (lineV p) w 1), .int (rF b (lineA q y) (lineV q) w 1), .int (rW a (lineA p x) (lineV p) w 1), .int (rW b (lineA q y) (lineV q) w 1)]))) : D_shot_at [.tuple [.int a, .int b], .tuple [.int x, .int y, .int p, .int q], .tuple [.int w, .int 1]] Q E := by
  refine ⟨_, _, _, rfl, fun z => absurd (v.tab.symm.trans z) (by decide), fun _ z => absurd (v.shot.symm.trans z) (by decide), fun _ _ z => absurd ((frac_ok one_le1 (Nat.gcd_one_right _)).symm.trans z) (by decide), fun _ _ _ => ⟨⟨v.za, v.zb⟩, ⟨v.zx, v.zy, v.zp, v.zq⟩, ⟨zw, sz_one _ (by decide)⟩, ?_⟩⟩
  rw [← shotN_whole v.a1 v.b1] at h
  exact h
theorem later_ok {k : Nat} {a b x y p q w : Int} (v : Vd k a b x y p q) : Vd k a b (rF a (lineA p x) (lineV p) w 1) (rF b (lineA q y) (lineV q) w 1) (rW a (lineA p x) (lineV p) w 1) (rW b (lineA q y) (lineV q) w 1) ∧
    ∃ c d : Int, Shift (Ls.of a b x y p q) (Ls.of a b (rF a (lineA p x) (lineV p) w 1) (rF b (lineA q y) (lineV q) w 1) (rW a (lineA p x) (lineV p) w 1) (rW b (lineA q y) (lineV q) w 1)) w c d := by
  have rng : ∀ {s A V : Int}, 1 ≤ s → 0 ≤ rF s A V w 1 ∧ rF s A V w 1 ≤ s := by
    intro s A V hs
    obtain ⟨e, h0, h1⟩ := rF_rest (A := A) (V := V) (n := w) hs one_le1
    rw [e]
    rw [Int.mul_one] at *
    split <;> omega
  have zW : ∀ {s A V : Int}, sz k V → sz k (rW s A V w 1) := by
    intro s A V h
    unfold rW
    split
    · exact h
    · exact sz_neg h
  obtain ⟨x0, x1⟩ := rng (A := lineA p x) (V := lineV p) v.a1
  obtain ⟨y0, y1⟩ := rng (A := lineA q y) (V := lineV q) v.b1
  obtain ⟨c, hA, hV⟩ := line_shift (v := p) (w := w) v.a1 v.x0 v.x1
  obtain ⟨d, hB, hU⟩ := line_shift (v := q) (w := w) v.b1 v.y0 v.y1
  have w' := v.w
  have e1 := lineV_ne p
  have e2 := lineV_ne q
  have e3 := lineV_ne (rW a (lineA p x) (lineV p) w 1)
  have e4 := lineV_ne (rW b (lineA q y) (lineV q) w 1)
  rw [hV] at e3
  rw [hU] at e4
  refine ⟨⟨v.a1, v.b1, x0, x1, y0, y1, ?_, v.za, v.zb, sz_le v.za (by omega), sz_le v.zb (by omega), zW (sz_lineV v.zp), zW (sz_lineV v.zq)⟩, c, d, ⟨rfl, rfl, hV, hU, hA, hB⟩⟩
  rcases w' with h | h
  · exact .inl (e3.mp (e1.mpr h))
  · exact .inr (e4.mp (e2.mpr h))
theorem least_same {M : Int × Int → Prop} {o o' : Option (Int × Int)} (h : LeastT M o) (h' : LeastT M o') : o = o' := by
  cases o with
  | none =>
    cases o' with
    | none => rfl
    | some w => exact absurd h'.2.2.2.1 (h w h'.1 h'.2.1)
  | some t =>
    cases o' with
    | none => exact absurd h.2.2.2.1 (h' t h.1 h.2.1)
    | some w =>
      obtain ⟨p, t0, c, m, l⟩ := h
      obtain ⟨p', t0', c', m', l'⟩ := h'
      have e : t.1 * w.2 = w.1 * t.2 := by
        have h1 := l w p' t0' m'
        have h2 := l' t p t0 m
        omega
      have f := low_unique p' p c e
      have f2 := low_unique p' p' c' rfl
      rw [f] at f2
      simp only [PyData.tuple.injEq, List.cons.injEq, PyData.int.injEq, and_true] at f2
      rw [Prod.ext f2.1 f2.2]
theorem in_mate1 {s l h x v w n m : Int} (s1 : 1 ≤ s) (x0 : 0 ≤ x) (x1 : x ≤ s) (m1 : 1 ≤ m) : InR s l h (lineA (rW s (lineA v x) (lineV v) w 1) (rF s (lineA v x) (lineV v) w 1) * m + lineV (rW s (lineA v x) (lineV v) w 1) * n) m ↔ InR s l h (lineA v x * m + lineV v * (n + w * m)) m := by
  obtain ⟨c, e1, e2⟩ := line_shift (v := v) (w := w) s1 x0 x1
  rw [e1, e2]
  have e : (lineA v x + lineV v * w - 2 * s * c) * m + lineV v * n = (lineA v x * m + lineV v * (n + w * m)) - 2 * s * m * c := by grind
  rw [e]
  exact inR_shift s1 m1
theorem in_back1 {s l h x v n m : Int} (s1 : 1 ≤ s) (m1 : 1 ≤ m) : InR s l h (lineA (-v) x * m + lineV (-v) * n) m ↔ InR s l h (lineA v x * m + lineV v * (-n)) m := by
  rw [inR_line s1 m1, inR_line s1 m1]
  have e : x * m + -v * n = x * m + v * -n := by grind
  rw [e]
section
variable {a b x y p q w l r lo hi : Int}
/-- the shot at the time w: in a box at u just if the first one is at u + w -/
theorem in_mate {n m : Int} (a1 : 1 ≤ a) (b1 : 1 ≤ b) (x0 : 0 ≤ x) (x1 : x ≤ a) (y0 : 0 ≤ y) (y1 : y ≤ b) (m1 : 1 ≤ m) : InBox a b (rF a (lineA p x) (lineV p) w 1) (rF b (lineA q y) (lineV q) w 1) (rW a (lineA p x) (lineV p) w 1) (rW b (lineA q y) (lineV q) w 1) l r lo hi (n, m) ↔ InBox a b x y p q l r lo hi (n + w * m, m) := by
  unfold InBox
  rw [in_mate1 a1 x0 x1 m1, in_mate1 b1 y0 y1 m1]
/-- .. turned back -/
theorem in_back {n m : Int} (a1 : 1 ≤ a) (b1 : 1 ≤ b) (x0 : 0 ≤ x) (x1 : x ≤ a) (y0 : 0 ≤ y) (y1 : y ≤ b) (m1 : 1 ≤ m) : InBox a b (rF a (lineA p x) (lineV p) w 1) (rF b (lineA q y) (lineV q) w 1) (-(rW a (lineA p x) (lineV p) w 1)) (-(rW b (lineA q y) (lineV q) w 1)) l r lo hi (n, m) ↔ InBox a b x y p q l r lo hi (w * m - n, m) := by
  have h := in_mate (p := p) (q := q) (w := w) (l := l) (r := r) (lo := lo) (hi := hi) (n := -n) a1 b1 x0 x1 y0 y1 m1
  rw [show -n + w * m = w * m - n by omega] at h
  rw [← h]
  unfold InBox
  rw [in_back1 a1 m1, in_back1 b1 m1]
/-- where it starts -/
theorem in_start (a1 : 1 ≤ a) (b1 : 1 ≤ b) (x0 : 0 ≤ x) (x1 : x ≤ a) (y0 : 0 ≤ y) (y1 : y ≤ b) : InBox a b x y p q l r lo hi (0, 1) ↔ (l ≤ x ∧ x ≤ r) ∧ lo ≤ y ∧ y ≤ hi := by
  unfold InBox
  simp only [Int.mul_one, Int.mul_zero, Int.add_zero]
  rw [inR_start a1 x0 x1, inR_start b1 y0 y1]
/-- the place at a time is the spot -/
theorem place_spot {u v : Int} {t : Int × Int} (a1 : 1 ≤ a) (b1 : 1 ≤ b) (t1 : 1 ≤ t.2) (h : InBox a b x y p q u u v v t) : (Ls.of a b x y p q).place t = .tuple [.tuple [.int u, .int 1], .tuple [.int v, .int 1]] := by
  have e1 : foldI a (lineA p x * t.2 + lineV p * t.1) t.2 = u * t.2 := by have := h.1; unfold InR at this; omega
  have e2 : foldI b (lineA q y * t.2 + lineV q * t.1) t.2 = v * t.2 := by have := h.2; unfold InR at this; omega
  rw [rF_fold a1 t1] at e1
  rw [rF_fold b1 t1] at e2
  have e1 : (Ls.of a b x y p q).F t = u * t.2 := e1
  have e2 : (Ls.of a b x y p q).F' t = v * t.2 := e2
  unfold Ls.place
  rw [(frac_whole (c := u) t1).mpr e1, (frac_whole (c := v) t1).mpr e2]
/-- least times -/
def lessO : Option (Int × Int) → Option (Int × Int) → Bool
  | _, none => true
  | none, some _ => false
  | some t, some u => decide (t.1 * u.2 ≤ u.1 * t.2)
theorem less_sub {M N : Int × Int → Prop} {o o' : Option (Int × Int)} (h : LeastT M o) (h' : LeastT N o') (s : ∀ u : Int × Int, 1 ≤ u.2 → N u → M u) : lessO o o' = true := by
  cases o' with
  | none => cases o <;> rfl
  | some u =>
    obtain ⟨u1, u0, -, un, -⟩ := h'
    cases o with
    | none => exact absurd (s u u1 un) (h u u1 u0)
    | some t => exact decide_eq_true (h.2.2.2.2 u u1 u0 (s u u1 un))
theorem less_at {M : Int × Int → Prop} {o : Option (Int × Int)} (h : LeastT M o) {u : Int × Int} (u1 : 1 ≤ u.2) (u0 : 0 ≤ u.1) (m : M u) : lessO o (some u) = true := by
  cases o with
  | none => exact absurd m (h u u1 u0)
  | some t => exact decide_eq_true (h.2.2.2.2 u u1 u0 m)
theorem least_zero {M : Int × Int → Prop} {o : Option (Int × Int)} (h : LeastT M o) (m : M (0, 1)) : o = some (0, 1) := by
  have h' : LeastT M (some (0, 1)) := ⟨by decide, by decide, by decide, m, fun u _ u0 _ => by simp; omega⟩
  exact least_same h h'
theorem least_later {M : Int × Int → Prop} {t : Int × Int} (h : LeastT M (some t)) (hw : w * t.2 ≤ t.1) (w0 : 0 ≤ w) : LeastT (fun u => M (u.1 + w * u.2, u.2)) (some (lowP (t.1 - w * t.2) t.2)) := by
  obtain ⟨t1, t0, g, m, l⟩ := h
  have g2 : Nat.gcd (t.1 - w * t.2).natAbs t.2.natAbs = 1 := by
    rw [show t.1 - w * t.2 = t.1 + t.2 * (-w) by grind]
    rw [Nat.gcd_comm, ← Int.gcd_eq_natAbs_gcd_natAbs] at *
    rw [Int.gcd_add_mul_left_right]
    exact g
  have e : lowP (t.1 - w * t.2) t.2 = (t.1 - w * t.2, t.2) := by
    unfold lowP
    rw [g2]
    simp
  rw [e]
  refine ⟨t1, by show 0 ≤ t.1 - w * t.2; omega, g2, ?_, fun u u1 u0 mu => ?_⟩
  · show M (t.1 - w * t.2 + w * t.2, t.2)
    rw [show t.1 - w * t.2 + w * t.2 = t.1 by omega]
    exact m
  · have := l (u.1 + w * u.2, u.2) u1 (by have := Int.mul_nonneg w0 (show 0 ≤ u.2 by omega); show 0 ≤ u.1 + w * u.2; omega) mu
    show (t.1 - w * t.2) * u.2 ≤ u.1 * t.2
    simp only at this
    grind
theorem in_whole (a1 : 1 ≤ a) (b1 : 1 ≤ b) (x0 : 0 ≤ x) (x1 : x ≤ a) (y0 : 0 ≤ y) (y1 : y ≤ b) : InBox a b x y p q 0 a 0 b (0, 1) := (in_start a1 b1 x0 x1 y0 y1).mpr ⟨⟨x0, x1⟩, y0, y1⟩
theorem in_sub {l' r' lo' hi' : Int} {u : Int × Int} (u1 : 1 ≤ u.2) (h1 : l ≤ l') (h2 : r' ≤ r) (h3 : lo ≤ lo') (h4 : hi' ≤ hi) (h : InBox a b x y p q l' r' lo' hi' u) : InBox a b x y p q l r lo hi u := by
  have k1 := Int.mul_le_mul_of_nonneg_right h1 (show 0 ≤ u.2 by omega)
  have k2 := Int.mul_le_mul_of_nonneg_right h2 (show 0 ≤ u.2 by omega)
  have k3 := Int.mul_le_mul_of_nonneg_right h3 (show 0 ≤ u.2 by omega)
  have k4 := Int.mul_le_mul_of_nonneg_right h4 (show 0 ≤ u.2 by omega)
  obtain ⟨⟨a1, a2⟩, ⟨b1, b2⟩⟩ := h
  exact ⟨⟨Int.le_trans k1 a1, Int.le_trans a2 k2⟩, ⟨Int.le_trans k3 b1, Int.le_trans b2 k4⟩⟩
theorem in_cross {u : Int × Int} : InBox b a y x q p lo hi l r u ↔ InBox a b x y p q l r lo hi u := ⟨fun h => ⟨h.2, h.1⟩, fun h => ⟨h.2, h.1⟩⟩
end
theorem spot_call {a b x y p q u v : Int} {Q : S → Prop} {E : String → Prop} (w : Vd 700 a b x y p q) (hu : 0 ≤ u ∧ u ≤ a) (hv : 0 ≤ v ∧ v ≤ b) (h : ∀ o, LeastT (InBox a b x y p q u u v v) o → szO 5000 o → Q (.va (oT o))) : D_first_at [.tuple [.int a, .int b], .tuple [.int x, .int y, .int p, .int q], .tuple [.int u, .int v]] Q E := by
  have sp : isSpot (.tuple [.int a, .int b]) (.tuple [.int u, .int v]) = true := by simp [isSpot, hu, hv]
  exact ⟨_, _, _, rfl, fun z => absurd (w.tab.symm.trans z) (by decide), fun _ z => absurd (w.shot.symm.trans z) (by decide), fun _ _ z => absurd (sp.symm.trans z) (by decide), fun _ _ _ => ⟨⟨w.za, w.zb⟩, ⟨w.zx, w.zy, w.zp, w.zq⟩, fun o ho => h o ho.1 ho.2⟩⟩
theorem box_call {a b x y p q l r lo hi : Int} {Q : S → Prop} {E : String → Prop} (w : Vd 700 a b x y p q) (hl : 0 ≤ l ∧ l ≤ r ∧ r ≤ a) (hh : 0 ≤ lo ∧ lo ≤ hi ∧ hi ≤ b) (h : ∀ o, LeastT (InBox a b x y p q l r lo hi) o → szO 5000 o → Q (.va (oT o))) : D_first_in_box [.tuple [.int a, .int b], .tuple [.int x, .int y, .int p, .int q], .tuple [.int l, .int r, .int lo, .int hi]] Q E := by
  have sp : isBox (.tuple [.int a, .int b]) (.tuple [.int l, .int r, .int lo, .int hi]) = true := by simp [isBox, hl, hh]
  exact ⟨_, _, _, rfl, fun z => absurd (w.tab.symm.trans z) (by decide), fun _ z => absurd (w.shot.symm.trans z) (by decide), fun _ _ z => absurd (sp.symm.trans z) (by decide), fun _ _ _ => ⟨⟨w.za, w.zb⟩, ⟨w.zx, w.zy, w.zp, w.zq⟩, fun o ho => h o ho.1 ho.2⟩⟩
theorem Vd.back {k : Nat} {a b x y p q : Int} (v : Vd k a b x y p q) : Vd k a b x y (-p) (-q) := ⟨v.a1, v.b1, v.x0, v.x1, v.y0, v.y1, v.w.imp (by omega) (by omega), v.za, v.zb, v.zx, v.zy, sz_neg v.zp, sz_neg v.zq⟩
theorem oT_sd (o : Option (Int × Int)) : sd 2 (oT o) = true := by cases o <;> rfl
theorem turned_call {x y p q : Int} {Q : S → Prop} {E : String → Prop} (h0 : 0 ≤ x ∧ 0 ≤ y ∧ (p ≠ 0 ∨ q ≠ 0)) (h : Q (.va (.tuple [.int x, .int y, .int (-p), .int (-q)]))) : D_turned [.tuple [.int x, .int y, .int p, .int q]] Q E := by
  have an : isAny (.tuple [.int x, .int y, .int p, .int q]) = true := by simp [isAny, h0]
  exact ⟨_, rfl, fun z => absurd (an.symm.trans z) (by decide), fun x' y' p' q' e _ => (by cases e; exact h)⟩
theorem opEq_xy {u v u' v' : Int} : opEq (.tuple [.int u, .int v]) (.tuple [.int u', .int v']) = some (.bool (decide (u = u') && decide (v = v'))) := opEq_tt
end LW
namespace LW
open PySem PySem.Spec PyProof.Rows L2 DL
def m__law_less (W : WD) : MS :=
  mRet (mrOf (mOr (mOp2 opIsN2 (mVar 1) (mC .none)) (mAnd (mOp2 opNotN2 (mVar 0) (mC .none)) (mOp2 opLe (mOp2 opMul (mOp2 opIx (mVar 0) (mC (.int 0))) (mOp2 opIx (mVar 1) (mC (.int 1)))) (mOp2 opMul (mOp2 opIx (mVar 1) (mC (.int 0))) (mOp2 opIx (mVar 0) (mC (.int 1))))))))
def D__law_less : PSpec := fun ds Q _ => ∃ o o', ds = [oT o, oT o'] ∧ szO 6000 o ∧ szO 6000 o' ∧ Q (.va (.bool (lessO o o')))
theorem len__law_less : ∀ ds Q E, D__law_less ds Q E → ds.length = 2 := by
  rintro _ Q E ⟨o, o', rfl, _⟩
  rfl
theorem rd__law_less : ∀ ds Q E, D__law_less ds Q E → m__law_less (fun c _ => E c) (endP Q) (slots0 2 ds) := by
  rintro _ Q E ⟨o, o', rfl, z, z', q⟩
  unfold m__law_less
  cases o' with
  | none =>
    rw [show oT none = PyData.none from rfl]
    cases o <;> walk_at "rdn" <;> exact q
  | some u =>
    rw [show oT (some u) = PyData.tuple [.int u.1, .int u.2] from rfl]
    obtain ⟨zu1, zu2⟩ := z' u rfl
    cases o with
    | none =>
      rw [show oT none = PyData.none from rfl]
      walk_at "rdn"
      exact q
    | some t =>
      rw [show oT (some t) = PyData.tuple [.int t.1, .int t.2] from rfl]
      obtain ⟨zt1, zt2⟩ := z t rfl
      walk_at "rdn"
      exact ⟨_, opMul_ok zt1 zu2 (by decide), _, opMul_ok zu1 zt2 (by decide), _, rfl, q⟩
section
variable {P : Program} {w : World} {K : PySem.W.Frag} {mg : Str → Option Value} {base : Heap} {CN : String → Option Addr}
theorem ok__law_less {f : Addr} {fd : FuncData} (F : Fun K "_law_less" "_law_less" s__law_less f fd) (g : G K mg CN)  : FnG P w K mg base 1 f fd ["one", "two"] (spP K CN D__law_less) := by
  have sc := sc__law_less
  exact fun_okP (m := m__law_less) F sc (by decide) len__law_less (fun cdv A outer s H E C W hw hr tk =>
    (pds_one (pds_ret (pdr_of (pd_or (pd_cmp op_isN rl_isN (dv 1) pd_non (nomark _)) (pd_one (pd_and (pd_cmp op_notN rl_notN (dv 0) pd_non (nomark _)) (pd_one (pd_cmp op_le rl_cmpI (pd_op or_mul rl_mul (pd_ix ix_seq rl_ix (dv 0) pd_int) (pd_ix ix_seq rl_ix (dv 1) pd_int)) (pd_op or_mul rl_mul (pd_ix ix_seq rl_ix (dv 1) pd_int) (pd_ix ix_seq rl_ix (dv 0) pd_int)) (nomark _)))))))))) rd__law_less
end
end LW
namespace LW
open PySem PySem.Spec PyProof.Rows L2 DL
/-- a ball: a shot on a table -/
abbrev ballD (t v : PyData) : PyData := objD "Ball" [.tuple [.str "_table", t], .tuple [.str "_shot", v]]
theorem ball_table (t v : PyData) : opAttr "Ball" "_table" (ballD t v) = some t := by
  show (if (Str.ofString "Ball") = Str.ofString "Ball" then fget "_table" _ else none) = _
  rw [if_pos rfl]
  show (if (Str.ofString "_table") = Str.ofString "_table" then some t else _) = _
  rw [if_pos rfl]
theorem ball_shot (t v : PyData) : opAttr "Ball" "_shot" (ballD t v) = some v := by
  show (if (Str.ofString "Ball") = Str.ofString "Ball" then fget "_shot" _ else none) = _
  rw [if_pos rfl]
  show (if (Str.ofString "_shot") = Str.ofString "_table" then some t else (if (Str.ofString "_shot") = Str.ofString "_shot" then some v else _)) = _
  rw [if_neg (by decide), if_pos rfl]
end LW
namespace LW
open PySem PySem.Spec PyProof.Rows L2 DL
def m_Ball_contains (W : WD) : MS :=
  mRet (mrOf (mAnd (mCall D_is_spot W (mCons (mOp1 (opAttr "Ball" "_table") (mVar 0)) (mCons (mVar 1) (mNil)))) (mOp2 opNotN2 (mCall D_first_at W (mCons (mOp1 (opAttr "Ball" "_table") (mVar 0)) (mCons (mOp1 (opAttr "Ball" "_shot") (mVar 0)) (mCons (mVar 1) (mNil))))) (mC .none))))
def D_Ball_contains : PSpec := fun ds Q _ => ∃ a b v g, ds = [ballD (.tuple [.int a, .int b]) v, g] ∧ isTab (.tuple [.int a, .int b]) = true ∧ isShot (.tuple [.int a, .int b]) v = true ∧ szH 700 (.tuple [.int a, .int b]) ∧ szH 700 v ∧
  (isSpot (.tuple [.int a, .int b]) g = false → Q (.va (.bool false))) ∧ (isSpot (.tuple [.int a, .int b]) g = true → ∀ o, spotN (.tuple [.int a, .int b]) v g o → Q (.va (.bool (!isN (oT o)))))
theorem len_Ball_contains : ∀ ds Q E, D_Ball_contains ds Q E → ds.length = 2 := by
  rintro _ Q E ⟨a, b, v, g, rfl, _⟩
  rfl
theorem rd_Ball_contains : ∀ ds Q E, D_Ball_contains ds Q E → m_Ball_contains (fun c _ => E c) (endP Q) (slots0 2 ds) := by
  rintro _ Q E ⟨a, b, v, g, rfl, h1, h2, z1, z2, q1, q2⟩
  unfold m_Ball_contains
  walk_at "rdn"
  have e1 : opAttr "Ball" "_table" (ballD (.tuple [.int a, .int b]) v) = some (.tuple [.int a, .int b]) := ball_table _ _
  have e2 : opAttr "Ball" "_shot" (ballD (.tuple [.int a, .int b]) v) = some v := ball_shot _ _
  refine ⟨_, e1, a, b, g, rfl, _, rfl, _, rfl, ?_⟩
  cases hs : isSpot (.tuple [.int a, .int b]) g with
  | false => exact q1 hs
  | true =>
    refine ⟨_, e1, _, e2, _, v, g, rfl, fun h => (by rw [h1] at h; cases h), fun _ h => (by rw [h2] at h; cases h), fun _ _ h => (by rw [hs] at h; cases h), fun _ _ _ => ⟨z1, z2, fun o ho => ⟨_, rfl, ?_⟩⟩⟩
    exact q2 hs o ho
section
variable {P : Program} {w : World} {K : PySem.W.Frag} {mg : Str → Option Value} {base : Heap} {CN : String → Option Addr}
theorem ok_Ball_contains {f : Addr} {fd : FuncData} (F : Fun K "__contains__" "Ball.__contains__" s_Ball_contains f fd) (g : G K mg CN) (c_first_at : CalP P w K mg base CN 7 "first_at" D_first_at) (c_is_spot : CalP P w K mg base CN 3 "is_spot" D_is_spot) : FnG P w K mg base 8 f fd ["self", "x"] (spP K CN D_Ball_contains) := by
  have sc := sc_Ball_contains
  exact fun_okP (m := m_Ball_contains) F sc (by decide) len_Ball_contains (fun cdv A outer s H E C W hw hr tk =>
    (pds_one (pds_ret (pdr_of (pd_and (pd_call c_is_spot hr (by decide) tk (pda_cons (pd_attr g.na_Ball__table (dv 0)) (pda_cons (dv 1) pda_nil))) (pd_one (pd_cmp op_notN rl_notN (pd_call c_first_at hr (by decide) tk (pda_cons (pd_attr g.na_Ball__table (dv 0)) (pda_cons (pd_attr g.na_Ball__shot (dv 0)) (pda_cons (dv 1) pda_nil)))) pd_non (nomark _)))))))) rd_Ball_contains
end
def m_Ball_init (W : WD) : MS :=
  mSeq (mDrop (mCall D_check_shot W (mCons (mVar 1) (mCons (mVar 2) (mNil)))))
  (mSeq (mSetF 0 "Ball" "_table" (mVar 1))
  (mSetF 0 "Ball" "_shot" (mVar 2)))
def D_Ball_init : OSpec := fun es ds Q E => ∃ t v, es = [] ∧ ds = [t, v] ∧ (isTab t = false → E "InvalidTable" []) ∧ (isTab t = true → isShot t v = false → E "InvalidShot" []) ∧ (isTab t = true → isShot t v = true → Q (.va .none) [.tuple [.str "_table", t], .tuple [.str "_shot", v]])
theorem len_Ball_init : ∀ es ds Q E, D_Ball_init es ds Q E → ds.length + 1 = 3 := by
  rintro es _ Q E ⟨t, v, _, rfl, _⟩
  rfl
theorem rd_Ball_init : ∀ es ds Q E, D_Ball_init es ds Q E → m_Ball_init (fun cn sd => ∃ es', sget sd 0 = .ins "Ball" es' ∧ E cn es') (endO "Ball" Q) (slotsO 3 "Ball" es ds) := by
  rintro _ _ Q E ⟨t, v, rfl, rfl, q1, q2, q3⟩
  unfold m_Ball_init
  show mSeq _ _ _ [.ins "Ball" [], .va t, .va v]
  refine seq_step fun N hN => ?_
  walk_at "rdn"
  refine ⟨t, v, rfl, fun h => ⟨_, rfl, q1 h⟩, fun h1 h2 => ⟨_, rfl, q2 h1 h2⟩, fun h1 h2 => ⟨⟨_, rfl⟩, ?_⟩⟩
  subst hN
  refine seq_step fun N hN => ?_
  simp only [mSetF, mVar, sget, sset]
  refine ⟨[], rfl, by decide, ?_⟩
  subst hN
  simp only [mSetF, mVar, sget, sset]
  exact ⟨_, rfl, Nat.lt_of_lt_of_le (show 1 < 2 by decide) (by decide), _, rfl, q3 h1 h2⟩
theorem ball_new {t v : PyData} {Q : S → List PyData → Prop} {E : String → List PyData → Prop} (h1 : isTab t = true) (h2 : isShot t v = true) (q : Q (.va .none) [.tuple [.str "_table", t], .tuple [.str "_shot", v]]) : D_Ball_init [] [t, v] Q E :=
  ⟨t, v, rfl, rfl, fun h => (by rw [h1] at h; cases h), fun _ h => (by rw [h2] at h; cases h), fun _ _ => q⟩
section
variable {P : Program} {w : World} {K : PySem.W.Frag} {mg : Str → Option Value} {base : Heap} {CN : String → Option Addr}
theorem ok_Ball_init {f : Addr} {fd : FuncData} (F : Fun K "__init__" "Ball.__init__" s_Ball_init f fd) (g : G K mg CN) (c_check_shot : CalP P w K mg base CN 6 "check_shot" D_check_shot) : FnG P w K mg base 7 f fd ["self", "table", "shot"] (spO K CN "Ball" D_Ball_init) := by
  have sc := sc_Ball_init
  exact fun_okO (m := m_Ball_init) F sc (by decide) len_Ball_init (fun cdv A outer s H E C W hr tk =>
    (pds_cons (pds_drop (pd_call c_check_shot hr (by decide) tk (pda_cons (dv 1) (pda_cons (dv 2) pda_nil))))
    (pds_cons (pds_setF g.na_Ball__table (pv 0) (dv 1))
    (pds_one (pds_setF g.na_Ball__shot (pv 0) (dv 2)))))) rd_Ball_init
end
end LW
namespace LW
open PySem PySem.Spec PyProof.Rows L2 DL
theorem in_call {a b x y p q u v : Int} {Q : S → Prop} {E : String → Prop} (w : Vd 700 a b x y p q) (hu : 0 ≤ u ∧ u ≤ a) (hv : 0 ≤ v ∧ v ≤ b) (h : ∀ o, LeastT (InBox a b x y p q u u v v) o → Q (.va (.bool (!isN (oT o))))) : D_Ball_contains [ballD (.tuple [.int a, .int b]) (.tuple [.int x, .int y, .int p, .int q]), .tuple [.int u, .int v]] Q E := by
  have sp : isSpot (.tuple [.int a, .int b]) (.tuple [.int u, .int v]) = true := by simp [isSpot, hu, hv]
  exact ⟨a, b, _, _, rfl, w.tab, w.shot, ⟨w.za, w.zb⟩, ⟨w.zx, w.zy, w.zp, w.zq⟩, fun z => absurd (sp.symm.trans z) (by decide), fun _ o ho => h o ho.1⟩
end LW
namespace LW
open PySem PySem.Spec PyProof.Rows L2 DL
def m__law_spot_right : MS :=
  mSeq (mAsg (mCallW dDraw 0 (mCons (mC (.int 50)) (mNil))) (mgName 3))
  (mSeq (mAsg (mCall D_shot_at wF (mCons (mVar 1) (mCons (mVar 2) (mCons (mTup (mCons (mVar 3) (mCons (mC (.int 1)) (mNil)))) (mNil))))) (mgName 4))
  (mSeq (mAsg (mSl opSl (mVar 4) mNoPart (mPart (mC (.int 2)))) (mgName 5))
  (mSeq (mIf (mT (mOp2 opEq (mCallW dDraw 0 (mCons (mC (.int 3)) (mNil))) (mC (.int 0)))) (mAsg (mTup (mCons (mCallW dDraw 0 (mCons (mOp2 opAdd (mOp2 opIx (mVar 1) (mC (.int 0))) (mC (.int 1))) (mNil))) (mCons (mCallW dDraw 0 (mCons (mOp2 opAdd (mOp2 opIx (mVar 1) (mC (.int 1))) (mC (.int 1))) (mNil))) (mNil)))) (mgName 5)) (mNext))
  (mSeq (mAsg (mCall D_first_at wF (mCons (mVar 1) (mCons (mVar 2) (mCons (mVar 5) (mNil))))) (mgName 6))
  (mSeq (mIf (mT (mOp2 opNe (mVar 6) (mCall D_first_in_box wF (mCons (mVar 1) (mCons (mVar 2) (mCons (mTup (mCons (mOp2 opIx (mVar 5) (mC (.int 0))) (mCons (mOp2 opIx (mVar 5) (mC (.int 0))) (mCons (mOp2 opIx (mVar 5) (mC (.int 1))) (mCons (mOp2 opIx (mVar 5) (mC (.int 1))) (mNil)))))) (mNil))))))) (mRet (mrOf (mC (.bool false)))) (mNext))
  (mSeq (mIf (mT (mOp2 opNe (mInM "Ball" D_Ball_contains (mVar 5) (mMake "Ball" D_Ball_init wF (mCons (mVar 1) (mCons (mVar 2) (mNil))))) (mOp2 opNotN2 (mVar 6) (mC .none)))) (mRet (mrOf (mC (.bool false)))) (mNext))
  (mSeq (mIf (mTAnd (mT (mOp2 opEq (mVar 5) (mSl opSl (mVar 4) mNoPart (mPart (mC (.int 2)))))) (mTNot (mT (mCall D__law_less wF (mCons (mVar 6) (mCons (mTup (mCons (mVar 3) (mCons (mC (.int 1)) (mNil)))) (mNil))))))) (mRet (mrOf (mC (.bool false)))) (mNext))
  (mSeq (mIf (mTAnd (mT (mOp2 opNotN2 (mVar 6) (mC .none))) (mT (mOp2 opNe (mCall D_place_at wF (mCons (mVar 1) (mCons (mVar 2) (mCons (mVar 6) (mNil))))) (mTup (mCons (mTup (mCons (mOp2 opIx (mVar 5) (mC (.int 0))) (mCons (mC (.int 1)) (mNil)))) (mCons (mTup (mCons (mOp2 opIx (mVar 5) (mC (.int 1))) (mCons (mC (.int 1)) (mNil)))) (mNil))))))) (mRet (mrOf (mC (.bool false)))) (mNext))
  (mSeq (mIf (mT (mOp2 opNe (mCall D_place_at wF (mCons (mVar 1) (mCons (mCall D_turned wF (mCons (mVar 4) (mNil))) (mCons (mTup (mCons (mVar 3) (mCons (mC (.int 1)) (mNil)))) (mNil))))) (mTup (mCons (mTup (mCons (mOp2 opIx (mVar 2) (mC (.int 0))) (mCons (mC (.int 1)) (mNil)))) (mCons (mTup (mCons (mOp2 opIx (mVar 2) (mC (.int 1))) (mCons (mC (.int 1)) (mNil)))) (mNil)))))) (mRet (mrOf (mC (.bool false)))) (mNext))
  (mRet (mrOf (mCall D__law_less wF (mCons (mCall D_first_at wF (mCons (mVar 1) (mCons (mCall D_turned wF (mCons (mVar 4) (mNil))) (mCons (mSl opSl (mVar 2) mNoPart (mPart (mC (.int 2)))) (mNil))))) (mCons (mTup (mCons (mVar 3) (mCons (mC (.int 1)) (mNil)))) (mNil)))))))))))))))
def D__law_spot_right : WSpec := fun n ds Q => ∃ a b x y p q : Int, ds = [.tuple [.int a, .int b], .tuple [.int x, .int y, .int p, .int q]] ∧ 10 ≤ n ∧ Vd 26 a b x y p q ∧ ∀ n', n ≤ n' + 6 → Q (.va (.bool true)) n'
theorem len__law_spot_right : ∀ n ds Q, D__law_spot_right n ds Q → ds.length + 1 = 3 := by
  rintro n _ Q ⟨a, b, x, y, p, q, rfl, _⟩
  rfl
theorem rd__law_spot_right : ∀ n ds Q, D__law_spot_right n ds Q → m__law_spot_right (endW Q) (slotsW 7 n ds) := by
  rintro n _ Q ⟨a, b, x, y, p, r, rfl, hn, v, q⟩
  have v7 := v.mono (l := 700) (by decide)
  have v10 := v.mono (l := 1000) (by decide)
  unfold m__law_spot_right
  refine seq_step fun N hN => ?_
  walk_at "rdn"
  refine dr (by omega) (by decide) (by decide) fun w w0 w1 => ⟨_, rfl, ?_⟩
  have zw : sz 6 w := by unfold sz; omega
  subst hN
  refine seq_step fun N hN => ?_
  walk_at "rdn"
  refine shot_call v10 (sz_mono zw (by decide)) ⟨_, rfl, ?_⟩
  obtain ⟨vm, -⟩ := later_ok (w := w) v
  have im := fun {l rr lo hi n m : Int} => in_mate (a := a) (b := b) (x := x) (y := y) (p := p) (q := r) (w := w) (l := l) (r := rr) (lo := lo) (hi := hi) (n := n) (m := m) v.a1 v.b1 v.x0 v.x1 v.y0 v.y1
  have ib := fun {l rr lo hi n m : Int} => in_back (a := a) (b := b) (x := x) (y := y) (p := p) (q := r) (w := w) (l := l) (r := rr) (lo := lo) (hi := hi) (n := n) (m := m) v.a1 v.b1 v.x0 v.x1 v.y0 v.y1
  generalize rF a (lineA p x) (lineV p) w 1 = X at *
  generalize rF b (lineA r y) (lineV r) w 1 = Y at *
  generalize rW a (lineA p x) (lineV p) w 1 = P at *
  generalize rW b (lineA r y) (lineV r) w 1 = R at *
  subst hN
  refine seq_step fun N hN => ?_
  walk_at "rdn"
  have ct : cutL [PyData.int X, .int Y, .int P, .int R] none (some 2) = [.int X, .int Y] := rfl
  rw [ct]
  subst hN
  refine seq_run (fun s => ∃ (n1 : Nat) (u z : Int), s = [.well n1, .va (.tuple [.int a, .int b]), .va (.tuple [.int x, .int y, .int p, .int r]), .va (.int w), .va (.tuple [.int X, .int Y, .int P, .int R]), .va (.tuple [.int u, .int z]), .no] ∧ (0 ≤ u ∧ u ≤ a) ∧ (0 ≤ z ∧ z ≤ b) ∧ n ≤ n1 + 5) (fun N1 h1 => ?_) ?_
  · walk_at "rdn"
    refine dr (by omega) (by decide) (by decide) fun k k0 k1 => ⟨_, rfl, _, opEq_int, _, rfl, ?_⟩
    have za := v.za
    have zb := v.zb
    have a1 := v.a1
    have b1 := v.b1
    have la : a + 1 < 2 ^ 200 := by unfold sz at za; omega
    have lb : b + 1 < 2 ^ 200 := by unfold sz at zb; omega
    by_cases hk : k = 0
    · rw [decide_eq_true hk, if_pos rfl]
      refine dr (by omega) (by omega) la fun u u0 u1 => ⟨_, rfl, ?_⟩
      refine dr (by omega) (by omega) lb fun z z0 z1 => ⟨_, rfl, ?_⟩
      exact h1 _ ⟨_, u, z, rfl, ⟨u0, by omega⟩, ⟨z0, by omega⟩, by omega⟩
    · rw [decide_eq_false hk, if_neg (by decide)]
      exact h1 _ ⟨_, X, Y, rfl, ⟨vm.x0, vm.x1⟩, ⟨vm.y0, vm.y1⟩, by omega⟩
  rintro _ ⟨n1, u, z, rfl, hu, hz, hn1⟩
  refine seq_step fun N hN => ?_
  walk_at "rdn"
  refine spot_call v7 hu hz fun o ho zo => ⟨_, rfl, ?_⟩
  subst hN
  refine seq_step fun N hN => ?_
  refine if_run false (fun Q h => ?_) (fun hc => by cases hc) (fun _ => ?_)
  · walk_at "rdn"
    refine box_call v7 ⟨hu.1, Int.le_refl _, hu.2⟩ ⟨hz.1, Int.le_refl _, hz.2⟩ fun o' ho' _ => ⟨_, rfl, ?_⟩
    rw [least_same ho' ho]
    exact ⟨_, opNe_self (j := 2) (by decide) (oT_sd o), _, rfl, h⟩
  walk_at "rdn"
  subst hN
  refine seq_step fun N hN => ?_
  refine if_run false (fun Q h => ?_) (fun hc => by cases hc) (fun _ => ?_)
  · simp only [mT, mOp2, mInM, mMake, mCons, mNil, mVar, sget, sset]
    refine ball_new v.tab v.shot ⟨rfl, ⟨_, rfl⟩, ?_⟩
    refine in_call v7 hu hz fun o' ho' => ⟨_, rfl, ?_⟩
    rw [least_same ho' ho]
    walk_at "rdn"
    exact h
  walk_at "rdn"
  subst hN
  refine seq_step fun N hN => ?_
  refine if_run false (fun Q h => ?_) (fun hc => by cases hc) (fun _ => ?_)
  · walk_at "rdn"
    refine ⟨_, opEq_xy, _, rfl, ?_⟩
    by_cases e : u = X ∧ z = Y
    · obtain ⟨rfl, rfl⟩ := e
      rw [if_pos (by simp)]
      have m : InBox a b x y p r u u z z (w, 1) := by
        have := (im (l := u) (rr := u) (lo := z) (hi := z) (n := 0) (m := 1) (by decide)).mp ((in_start vm.a1 vm.b1 vm.x0 vm.x1 vm.y0 vm.y1).mpr ⟨⟨Int.le_refl _, Int.le_refl _⟩, Int.le_refl _, Int.le_refl _⟩)
        simpa using this
      refine ⟨o, some (w, 1), rfl, fun t e => ⟨sz_mono (zo t e).1 (by decide), sz_mono (zo t e).2 (by decide)⟩, fun t e => (by cases e; exact ⟨sz_mono zw (by decide), sz_one _ (by decide)⟩), _, rfl, _, rfl, ?_⟩
      rw [less_at ho (u := (w, 1)) (show (1 : Int) ≤ 1 by decide) w0 m]
      exact h
    · rw [if_neg (by simp only [Bool.and_eq_true, decide_eq_true_eq]; exact e)]
      exact h
  walk_at "rdn"
  subst hN
  refine seq_step fun N hN => ?_
  refine if_run false (fun Q h => ?_) (fun hc => by cases hc) (fun _ => ?_)
  · cases o with
    | none =>
      rw [show oT none = PyData.none from rfl] at h ⊢
      walk_at "rdn"
      exact h
    | some t =>
      rw [show oT (some t) = PyData.tuple [.int t.1, .int t.2] from rfl] at h ⊢
      obtain ⟨t1, t0, tg, tm, -⟩ := ho
      walk_at "rdn"
      refine place_call v10 t1 tg (sz_mono (zo t rfl).1 (by decide)) (sz_mono (zo t rfl).2 (by decide)) ⟨_, rfl, ?_⟩
      rw [place_spot v.a1 v.b1 t1 tm]
      exact ⟨_, opNe_self (j := 4) (by decide) rfl, _, rfl, h⟩
  walk_at "rdn"
  subst hN
  have vb := vm.back
  have vb10 := vb.mono (l := 1000) (by decide)
  have vb7 := vb.mono (l := 700) (by decide)
  have tc : ∀ {Q : S → Prop} {E : String → Prop}, Q (.va (.tuple [.int X, .int Y, .int (-P), .int (-R)])) → D_turned [.tuple [.int X, .int Y, .int P, .int R]] Q E := fun h => turned_call ⟨vm.x0, vm.y0, vm.w⟩ h
  have mb : InBox a b X Y (-P) (-R) x x y y (w, 1) := by
    have := (ib (l := x) (rr := x) (lo := y) (hi := y) (n := w) (m := 1) (by decide)).mpr (by
      rw [show w * 1 - w = 0 by omega]
      exact (in_start v.a1 v.b1 v.x0 v.x1 v.y0 v.y1).mpr ⟨⟨Int.le_refl _, Int.le_refl _⟩, Int.le_refl _, Int.le_refl _⟩)
    exact this
  refine seq_step fun N hN => ?_
  refine if_run false (fun Q h => ?_) (fun hc => by cases hc) (fun _ => ?_)
  · walk_at "rdn"
    refine tc ⟨_, rfl, ?_⟩
    refine place_call vb10 (by decide) (Nat.gcd_one_right _) (sz_mono zw (by decide)) (sz_one _ (by decide)) ⟨_, rfl, ?_⟩
    rw [place_spot (t := (w, 1)) v.a1 v.b1 (show (1 : Int) ≤ 1 by decide) mb]
    exact ⟨_, opNe_self (j := 4) (by decide) rfl, _, rfl, h⟩
  walk_at "rdn"
  subst hN
  walk_at "rdn"
  refine tc ⟨_, rfl, ?_⟩
  have ct2 : cutL [PyData.int x, .int y, .int p, .int r] none (some 2) = [.int x, .int y] := rfl
  rw [ct2]
  refine spot_call vb7 ⟨v.x0, v.x1⟩ ⟨v.y0, v.y1⟩ fun o2 ho2 zo2 => ⟨_, rfl, ?_⟩
  refine ⟨o2, some (w, 1), rfl, fun t e => ⟨sz_mono (zo2 t e).1 (by decide), sz_mono (zo2 t e).2 (by decide)⟩, fun t e => (by cases e; exact ⟨sz_mono zw (by decide), sz_one _ (by decide)⟩), _, rfl, ?_⟩
  rw [less_at ho2 (u := (w, 1)) (show (1 : Int) ≤ 1 by decide) w0 mb]
  exact q _ (by omega)
section
variable {P : Program} {w : World} {K : PySem.W.Frag} {mg : Str → Option Value} {base : Heap} {CN : String → Option Addr}
theorem ok__law_spot_right {f : Addr} {fd : FuncData} (F : Fun K "_law_spot_right" "_law_spot_right" s__law_spot_right f fd) (g : G K mg CN) (c_Ball_contains : CalM P w K mg base CN 8 "Ball" "__contains__" D_Ball_contains) (c_Ball_init : CalI P w K mg base CN 7 "Ball" D_Ball_init) (c__law_draw : CalW P w K mg base 1 "_law_draw" dDraw) (c__law_less : CalP P w K mg base CN 1 "_law_less" D__law_less) (c_first_at : CalP P w K mg base CN 7 "first_at" D_first_at) (c_first_in_box : CalP P w K mg base CN 7 "first_in_box" D_first_in_box) (c_place_at : CalP P w K mg base CN 8 "place_at" D_place_at) (c_shot_at : CalP P w K mg base CN 8 "shot_at" D_shot_at) (c_turned : CalP P w K mg base CN 4 "turned" D_turned) : FnG P w K mg base 9 f fd ["well", "desk", "put"] (spW K D__law_spot_right) := by
  have sc := sc__law_spot_right
  exact fun_okW (m := m__law_spot_right) (CN := CN) F sc (by decide) len__law_spot_right (fun cdv A outer s H E C hr tk =>
    (pds_cons (pds_asg (ps_asg (pd_callW c__law_draw hr (by decide) tk (pv 0) (pda_cons pd_int pda_nil)) (dg 3 sc.nd)))
    (pds_cons (pds_asg (ps_asg (pd_call c_shot_at hr (by decide) tk (pda_cons (dv 1) (pda_cons (dv 2) (pda_cons (pd_tup (pda_cons (dv 3) (pda_cons pd_int pda_nil))) pda_nil)))) (dg 4 sc.nd)))
    (pds_cons (pds_asg (ps_asg (pd_slB (dv 4) pd_int) (dg 5 sc.nd)))
    (pds_cons (pds_if (pdt_cmp (or_eqD (RoomG.u64 hr)) rl_eq (pd_callW c__law_draw hr (by decide) tk (pv 0) (pda_cons pd_int pda_nil)) pd_int (nomark _)) (pds_one (pds_asg (ps_asg (pd_tup (pda_cons (pd_callW c__law_draw hr (by decide) tk (pv 0) (pda_cons (pd_op or_add rl_add (pd_ix ix_seq rl_ix (dv 1) pd_int) pd_int) pda_nil)) (pda_cons (pd_callW c__law_draw hr (by decide) tk (pv 0) (pda_cons (pd_op or_add rl_add (pd_ix ix_seq rl_ix (dv 1) pd_int) pd_int) pda_nil)) pda_nil))) (dg 5 sc.nd)))) pds_nil)
    (pds_cons (pds_asg (ps_asg (pd_call c_first_at hr (by decide) tk (pda_cons (dv 1) (pda_cons (dv 2) (pda_cons (dv 5) pda_nil)))) (dg 6 sc.nd)))
    (pds_cons (pds_if (pdt_cmp (or_neD (RoomG.u64 hr)) rl_ne (dv 6) (pd_call c_first_in_box hr (by decide) tk (pda_cons (dv 1) (pda_cons (dv 2) (pda_cons (pd_tup (pda_cons (pd_ix ix_seq rl_ix (dv 5) pd_int) (pda_cons (pd_ix ix_seq rl_ix (dv 5) pd_int) (pda_cons (pd_ix ix_seq rl_ix (dv 5) pd_int) (pda_cons (pd_ix ix_seq rl_ix (dv 5) pd_int) pda_nil))))) pda_nil)))) (nomark _)) (pds_one (pds_ret (pdr_of pd_bl))) pds_nil)
    (pds_cons (pds_if (pdt_cmp (or_neD (RoomG.u64 hr)) rl_ne (pd_inM c_Ball_contains hr (by decide) (dv 5) (pd_make c_Ball_init hr (by decide) tk (pda_cons (dv 1) (pda_cons (dv 2) pda_nil))) rfl) (pd_cmp op_notN rl_notN (dv 6) pd_non (nomark _)) (nomark _)) (pds_one (pds_ret (pdr_of pd_bl))) pds_nil)
    (pds_cons (pds_if (pdt_ofw (pdw_and (pdt_cmp (or_eqD (RoomG.u64 hr)) rl_eq (dv 5) (pd_slB (dv 4) pd_int) (nomark _)) (pdw_and1 (pdt_not (pdt_val (pd_call c__law_less hr (by decide) tk (pda_cons (dv 6) (pda_cons (pd_tup (pda_cons (dv 3) (pda_cons pd_int pda_nil))) pda_nil)))))))) (pds_one (pds_ret (pdr_of pd_bl))) pds_nil)
    (pds_cons (pds_if (pdt_ofw (pdw_and (pdt_cmp op_notN rl_notN (dv 6) pd_non (nomark _)) (pdw_and1 (pdt_cmp (or_neD (RoomG.u64 hr)) rl_ne (pd_call c_place_at hr (by decide) tk (pda_cons (dv 1) (pda_cons (dv 2) (pda_cons (dv 6) pda_nil)))) (pd_tup (pda_cons (pd_tup (pda_cons (pd_ix ix_seq rl_ix (dv 5) pd_int) (pda_cons pd_int pda_nil))) (pda_cons (pd_tup (pda_cons (pd_ix ix_seq rl_ix (dv 5) pd_int) (pda_cons pd_int pda_nil))) pda_nil))) (nomark _))))) (pds_one (pds_ret (pdr_of pd_bl))) pds_nil)
    (pds_cons (pds_if (pdt_cmp (or_neD (RoomG.u64 hr)) rl_ne (pd_call c_place_at hr (by decide) tk (pda_cons (dv 1) (pda_cons (pd_call c_turned hr (by decide) tk (pda_cons (dv 4) pda_nil)) (pda_cons (pd_tup (pda_cons (dv 3) (pda_cons pd_int pda_nil))) pda_nil)))) (pd_tup (pda_cons (pd_tup (pda_cons (pd_ix ix_seq rl_ix (dv 2) pd_int) (pda_cons pd_int pda_nil))) (pda_cons (pd_tup (pda_cons (pd_ix ix_seq rl_ix (dv 2) pd_int) (pda_cons pd_int pda_nil))) pda_nil))) (nomark _)) (pds_one (pds_ret (pdr_of pd_bl))) pds_nil)
    (pds_one (pds_ret (pdr_of (pd_call c__law_less hr (by decide) tk (pda_cons (pd_call c_first_at hr (by decide) tk (pda_cons (dv 1) (pda_cons (pd_call c_turned hr (by decide) tk (pda_cons (dv 4) pda_nil)) (pda_cons (pd_slB (dv 2) pd_int) pda_nil)))) (pda_cons (pd_tup (pda_cons (dv 3) (pda_cons pd_int pda_nil))) pda_nil))))))))))))))))) rd__law_spot_right
end
end LW
namespace LW
open PySem PySem.Spec PyProof.Rows L2 DL
theorem inBox_same {a b x y p q l r lo hi : Int} {t u : Int × Int} (t1 : 1 ≤ t.2) (u1 : 1 ≤ u.2) (e : t.1 * u.2 = u.1 * t.2) (h : InBox a b x y p q l r lo hi t) : InBox a b x y p q l r lo hi u :=
  ⟨(inR_same t1 u1 e).mp h.1, (inR_same t1 u1 e).mp h.2⟩
theorem inBox_iff {a b x y p q l r lo hi : Int} {u : Int × Int} (a1 : 1 ≤ a) (b1 : 1 ≤ b) (u1 : 1 ≤ u.2) : InBox a b x y p q l r lo hi u ↔ InR a l r (x * u.2 + p * u.1) u.2 ∧ InR b lo hi (y * u.2 + q * u.1) u.2 := by
  unfold InBox
  rw [inR_line a1 u1, inR_line b1 u1]
theorem fold_wide {a k z m : Int} : foldI (a * k) z m = foldI a z (m * k) := by
  unfold foldI
  have e1 : 2 * (a * k) * m = 2 * a * (m * k) := by grind
  have e2 : a * k * m = a * (m * k) := by simp only [Int.mul_assoc, Int.mul_comm, Int.mul_left_comm]
  rw [e1, e2]
theorem inR_wide {a k l h z m : Int} : InR (a * k) (l * k) (h * k) z m ↔ InR a l h z (m * k) := by
  unfold InR
  rw [fold_wide]
  have e : ∀ l : Int, l * k * m = l * (m * k) := fun l => by simp only [Int.mul_assoc, Int.mul_comm, Int.mul_left_comm]
  rw [e, e]
theorem inBox_wide {a b x y p q l r lo hi k : Int} {u : Int × Int} (a1 : 1 ≤ a) (b1 : 1 ≤ b) (k1 : 1 ≤ k) (u1 : 1 ≤ u.2) : InBox (a * k) (b * k) (x * k) (y * k) p q (l * k) (r * k) (lo * k) (hi * k) u ↔ InBox a b x y p q l r lo hi (u.1, u.2 * k) := by
  rw [inBox_iff (Int.mul_pos (by omega) (by omega)) (Int.mul_pos (by omega) (by omega)) u1, inBox_iff a1 b1 (show 1 ≤ ((u.1, u.2 * k) : Int × Int).2 from Int.mul_pos (by omega) (by omega)), inR_wide, inR_wide]
  have e : ∀ x : Int, x * k * u.2 = x * (u.2 * k) := fun x => by simp only [Int.mul_assoc, Int.mul_comm, Int.mul_left_comm]
  rw [e, e]
theorem scale_least {a b x y p q l r lo hi k : Int} {o : Option (Int × Int)} (a1 : 1 ≤ a) (b1 : 1 ≤ b) (k1 : 1 ≤ k) (h : LeastT (InBox a b x y p q l r lo hi) o) : LeastT (InBox (a * k) (b * k) (x * k) (y * k) p q (l * k) (r * k) (lo * k) (hi * k)) (o.map fun t => lowP (t.1 * k) t.2) := by
  cases o with
  | none =>
    intro u u1 n0 hu
    rw [inBox_wide a1 b1 k1 u1] at hu
    exact h (u.1, u.2 * k) (Int.mul_pos (by omega) (by omega)) n0 hu
  | some t =>
    obtain ⟨t1, t0, c, m, le⟩ := h
    obtain ⟨e, p1, cc⟩ := lowP_facts (t := t.1 * k) (b := t.2) t1
    show LeastT _ (some (lowP (t.1 * k) t.2))
    generalize lowP (t.1 * k) t.2 = w at *
    refine ⟨p1, nonneg_of_mul (c := t.2) (by omega) (by rw [Int.mul_comm, e]; exact Int.mul_nonneg (Int.mul_nonneg t0 (by omega)) (by omega)), cc, ?_, fun u u1 n0 hu => ?_⟩
    · rw [inBox_wide a1 b1 k1 p1]
      refine inBox_same (t := t) (u := (w.1, w.2 * k)) t1 (Int.mul_pos (by omega) (by omega)) ?_ m
      show t.1 * (w.2 * k) = w.1 * t.2
      rw [e]
      simp only [Int.mul_assoc, Int.mul_comm, Int.mul_left_comm]
    · rw [inBox_wide a1 b1 k1 u1] at hu
      have l1 := le (u.1, u.2 * k) (Int.mul_pos (by omega) (by omega)) n0 hu
      have l1 : t.1 * (u.2 * k) ≤ u.1 * t.2 := l1
      refine frac_le (a := w) (b := (t.1 * k, t.2)) (c := u) p1 t1 u1 (Int.le_of_eq e) ?_
      show t.1 * k * u.2 ≤ u.1 * t.2
      rw [show t.1 * k * u.2 = t.1 * (u.2 * k) by simp only [Int.mul_assoc, Int.mul_comm, Int.mul_left_comm]]
      exact l1
theorem scaled_call {a b x y p q c : Int} {Q : S → Prop} {E : String → Prop} (v : Vd 1000 a b x y p q) (c1 : 1 ≤ c) (zc : sz 1000 c) (h : Q (.va (.tuple [.tuple [.int (a * c), .int (b * c)], .tuple [.int (x * c), .int (y * c), .int p, .int q]]))) : D_scaled [.tuple [.int a, .int b], .tuple [.int x, .int y, .int p, .int q], .int c] Q E := by
  refine ⟨_, _, _, rfl, fun z => absurd (v.tab.symm.trans z) (by decide), fun _ z => absurd (v.shot.symm.trans z) (by decide), fun _ _ z => ?_, fun a' b' x' y' p' q' j e1 e2 e3 _ _ _ => ?_⟩
  · have := z c rfl
    omega
  · cases e1
    cases e2
    cases e3
    exact ⟨⟨v.za, v.zb⟩, ⟨v.zx, v.zy, v.zp, v.zq⟩, zc, h⟩
theorem crossed_call {a b x y p q : Int} {Q : S → Prop} {E : String → Prop} (v : Vd 1000 a b x y p q) (h : Q (.va (.tuple [.tuple [.int b, .int a], .tuple [.int y, .int x, .int q, .int p]]))) : D_crossed [.tuple [.int a, .int b], .tuple [.int x, .int y, .int p, .int q]] Q E := by
  refine ⟨_, _, rfl, fun z => absurd (v.tab.symm.trans z) (by decide), fun _ z => absurd (v.shot.symm.trans z) (by decide), fun a' b' x' y' p' q' e1 e2 _ _ => ?_⟩
  cases e1
  cases e2
  exact h
theorem sz_wideV {k l m : Nat} {a b x y p q c : Int} (v : Vd k a b x y p q) (c1 : 1 ≤ c) (zc : sz l c) (h : k + l ≤ m) : Vd m (a * c) (b * c) (x * c) (y * c) p q :=
  ⟨by have := Int.mul_pos (show 0 < a by have := v.a1; omega) (show 0 < c by omega); omega, by have := Int.mul_pos (show 0 < b by have := v.b1; omega) (show 0 < c by omega); omega, Int.mul_nonneg v.x0 (by omega), Int.mul_le_mul_of_nonneg_right v.x1 (by omega), Int.mul_nonneg v.y0 (by omega), Int.mul_le_mul_of_nonneg_right v.y1 (by omega), v.w, sz_mono (sz_mul v.za zc) h, sz_mono (sz_mul v.zb zc) h, sz_mono (sz_mul v.zx zc) h, sz_mono (sz_mul v.zy zc) h, sz_mono v.zp (by omega), sz_mono v.zq (by omega)⟩
/-- for at in range(max(b, min(c, len(script)))) -/
theorem at_loopB {ns : List Int} {b c : Int} {body : MS} {D : DE} {rest : DSt} (hl : ns.length ≤ 63) (hb : 1 ≤ b ∧ b ≤ 60) (hc : 1 ≤ c ∧ c ≤ 60) (I : DSt → Prop) (h0 : I (.scr ns :: rest)) (hs : ∀ j : Int, 0 ≤ j → j < 2 ^ 20 → ∀ (s : DSt) (N : DSt → Prop), I s → (∀ s', I s' → N s') → body { D with nx := N, ct := N, bk := D.nx } (sset s 1 (.va (.int j)))) (hf : ∀ s, I s → D.nx s) :
    mFor (miRng1 (mCons (mCallB bMax (mCons (mC (.int b)) (mCons (mCallB bMin (mCons (mC (.int c)) (mCons (mLenScr 0) (mNil)))) (mNil)))) (mNil))) (mgName 1) body D (.scr ns :: rest) := by
  walk_at "rdn"
  generalize hk : (if (if (ns.length : Int) < c then (ns.length : Int) else c) > b then if (ns.length : Int) < c then (ns.length : Int) else c else b) = k
  have k0 : 0 ≤ k := by rw [← hk]; split <;> (try split) <;> omega
  have k1 : k ≤ 60 := by rw [← hk]; split <;> (try split) <;> omega
  refine ⟨by omega, by omega, ?_⟩
  refine forL_run (fun r s => (∀ d ∈ r, ∃ j : Int, d = .int j ∧ 0 ≤ j ∧ j < 2 ^ 20) ∧ I s) ?_ ?_ _ _ ⟨?_, h0⟩
  · rintro d r s N ⟨hd, i⟩ hN
    obtain ⟨j, rfl, j0, j1⟩ := hd d (by simp)
    have hd' := fun d h => hd d (List.mem_cons_of_mem _ h)
    exact hs j j0 j1 s N i fun s' i' => hN s' ⟨hd', i'⟩
  · rintro s ⟨-, i⟩
    exact hf s i
  · intro d hd
    unfold rangeL at hd
    obtain ⟨i, hi, rfl⟩ := List.mem_map.mp hd
    have := List.mem_range.mp hi
    exact ⟨_, rfl, by omega, by omega⟩
theorem ten_pow (k : Int) (n : Int) (h0 : 0 ≤ k) (h1 : k ≤ 100) (e : (10 : Int) ^ k.toNat = n) : opPow (.int 10) (.int k) = some (.int n) := by
  rw [opPow_i, if_pos ⟨h0, h1, big10⟩, e]
end LW
namespace LW
open PySem PySem.Spec PyProof.Rows L2 DL
def m__law_box_right : MS :=
  mSeq (mAsgM [3, 4] [mrOf (mCallW D__law_edges 0 (mCons (mVar 1) (mNil))), mrOf (mCallW dDraw 0 (mCons (mC (.int 9)) (mNil)))])
  (mSeq (mAsg (mCall D_first_in_box wF (mCons (mVar 1) (mCons (mVar 2) (mCons (mVar 3) (mNil))))) (mgName 5))
  (mSeq (mIf (mTAnd (mT (mOp2 opNotN2 (mVar 5) (mC .none))) (mTNot (mT (mCall D__law_within wF (mCons (mCall D_place_at wF (mCons (mVar 1) (mCons (mVar 2) (mCons (mVar 5) (mNil))))) (mCons (mVar 3) (mNil))))))) (mRet (mrOf (mC (.bool false)))) (mNext))
  (mSeq (mAsg (mLst (mNil)) (mgName 6))
  (mSeq (mFor (miSeq (mTup (mCons (mC (.int 0)) (mCons (mC (.int 2)) (mNil))))) (mgName 7) (mSeq (mAsg (mOp2 opAdd (mOp2 opIx (mVar 3) (mVar 7)) (mCallW dDraw 0 (mCons (mOp2 opAdd (mOp2 opSub (mOp2 opIx (mVar 3) (mOp2 opAdd (mVar 7) (mC (.int 1)))) (mOp2 opIx (mVar 3) (mVar 7))) (mC (.int 1))) (mNil)))) (mgName 8))
  (mAsg (mOp2 opAdd (mVar 6) (mLst (mCons (mVar 8) (mCons (mOp2 opAdd (mVar 8) (mCallW dDraw 0 (mCons (mOp2 opAdd (mOp2 opSub (mOp2 opIx (mVar 3) (mOp2 opAdd (mVar 7) (mC (.int 1)))) (mVar 8)) (mC (.int 1))) (mNil)))) (mNil))))) (mgName 6))))
  (mSeq (mIf (mTNot (mT (mCall D__law_less wF (mCons (mVar 5) (mCons (mCall D_first_in_box wF (mCons (mVar 1) (mCons (mVar 2) (mCons (mCallB bTup (mCons (mVar 6) mNil)) (mNil))))) (mNil)))))) (mRet (mrOf (mC (.bool false)))) (mNext))
  (mSeq (mIf (mT (mOp2 opNe (mCall D_first_in_box wF (mCons (mVar 1) (mCons (mVar 2) (mCons (mTup (mCons (mC (.int 0)) (mCons (mOp2 opIx (mVar 1) (mC (.int 0))) (mCons (mC (.int 0)) (mCons (mOp2 opIx (mVar 1) (mC (.int 1))) (mNil)))))) (mNil))))) (mTup (mCons (mC (.int 0)) (mCons (mC (.int 1)) (mNil)))))) (mRet (mrOf (mC (.bool false)))) (mNext))
  (mSeq (mIf (mTAnd (mT (mOp2 opNotN2 (mVar 5) (mC .none))) (mT (mOp2 opGe (mOp2 opIx (mVar 5) (mC (.int 0))) (mOp2 opMul (mVar 4) (mOp2 opIx (mVar 5) (mC (.int 1))))))) (mSeq (mAsg (mCall D_first_in_box wF (mCons (mVar 1) (mCons (mCall D_shot_at wF (mCons (mVar 1) (mCons (mVar 2) (mCons (mTup (mCons (mVar 4) (mCons (mC (.int 1)) (mNil)))) (mNil))))) (mCons (mVar 3) (mNil))))) (mgName 9))
  (mIf (mT (mOp2 opNe (mVar 9) (mCall D__law_low wF (mCons (mOp2 opSub (mOp2 opIx (mVar 5) (mC (.int 0))) (mOp2 opMul (mVar 4) (mOp2 opIx (mVar 5) (mC (.int 1))))) (mCons (mOp2 opIx (mVar 5) (mC (.int 1))) (mNil)))))) (mRet (mrOf (mC (.bool false)))) (mNext))) (mNext))
  (mSeq (mAsg (mCall D_crossed wF (mCons (mVar 1) (mCons (mVar 2) (mNil)))) (mgTup 2 (mgCons (mgName 10) (mgCons (mgName 11) (mgNil)))))
  (mSeq (mIf (mT (mOp2 opNe (mCall D_first_in_box wF (mCons (mVar 10) (mCons (mVar 11) (mCons (mOp2 opAdd (mSl opSl (mVar 3) (mPart (mC (.int 2))) mNoPart) (mSl opSl (mVar 3) mNoPart (mPart (mC (.int 2))))) (mNil))))) (mVar 5))) (mRet (mrOf (mC (.bool false)))) (mNext))
  (mSeq (mAsg (mOp2 opAdd (mC (.int 1)) (mCallW dDraw 0 (mCons (mOp2 opPow (mC (.int 10)) (mC (.int 8))) (mNil)))) (mgName 12))
  (mSeq (mAsg (mCall D_scaled wF (mCons (mVar 1) (mCons (mVar 2) (mCons (mVar 12) (mNil))))) (mgTup 2 (mgCons (mgName 10) (mgCons (mgName 11) (mgNil)))))
  (mSeq (mAsg (mCall D_first_in_box wF (mCons (mVar 10) (mCons (mVar 11) (mCons (mCallB bTup (mCons (mLc (miSeq (mVar 3)) (mgName 14) (mTYes) (mOp2 opMul (mVar 14) (mVar 12)) [14]) mNil)) (mNil))))) (mgName 13))
  (mRet (mrOf (mOp2 opEq (mVar 13) (mIfE (mT (mOp2 opIsN2 (mVar 5) (mC .none))) (mC .none) (mCall D__law_low wF (mCons (mOp2 opMul (mOp2 opIx (mVar 5) (mC (.int 0))) (mVar 12)) (mCons (mOp2 opIx (mVar 5) (mC (.int 1))) (mNil))))))))))))))))))))
theorem vd_cross {k : Nat} {a b x y p q : Int} (v : Vd k a b x y p q) : Vd k b a y x q p := ⟨v.b1, v.a1, v.y0, v.y1, v.x0, v.x1, v.w.symm, v.zb, v.za, v.zy, v.zx, v.zq, v.zp⟩
def D__law_box_right : WSpec := fun n ds Q => ∃ a b x y p q : Int, ds = [.tuple [.int a, .int b], .tuple [.int x, .int y, .int p, .int q]] ∧ 30 ≤ n ∧ Vd 26 a b x y p q ∧ ∀ n', n ≤ n' + 20 → Q (.va (.bool true)) n'
theorem len__law_box_right : ∀ n ds Q, D__law_box_right n ds Q → ds.length + 1 = 3 := by
  rintro n _ Q ⟨a, b, x, y, p, q, rfl, _⟩
  rfl
theorem rd__law_box_right : ∀ n ds Q, D__law_box_right n ds Q → m__law_box_right (endW Q) (slotsW 15 n ds) := by
  rintro n _ Q ⟨a, b, x, y, p, r, rfl, hn, v, q⟩
  have v7 := v.mono (l := 700) (by decide)
  have v10 := v.mono (l := 1000) (by decide)
  have a1 := v.a1
  have b1 := v.b1
  have la : a < 2 ^ 26 := by have := v.za; unfold sz at this; omega
  have lb : b < 2 ^ 26 := by have := v.zb; unfold sz at this; omega
  have sm : ∀ {z : Int} {k : Nat}, 0 ≤ z → z < 2 ^ 26 → 26 ≤ k → sz k z := fun h0 h1 hk => sz_mono (k := 26) (by unfold sz; omega) hk
  unfold m__law_box_right
  refine seq_step fun N hN => ?_
  walk_at "rdn"
  refine ⟨a, b, rfl, by omega, a1, b1, by omega, by omega, fun l rr lo hi n1 hn1 hb => ⟨_, rfl, ?_⟩⟩
  refine dr (by omega) (by decide) (by decide) fun w w0 w1 => ⟨_, rfl, ?_⟩
  have zw : sz 6 w := by unfold sz; omega
  obtain ⟨l0, lr, ra, lo0, lh, hb'⟩ := hb
  subst hN
  refine seq_step fun N hN => ?_
  walk_at "rdn"
  refine box_call v7 ⟨l0, lr, ra⟩ ⟨lo0, lh, hb'⟩ fun o ho zo => ⟨_, rfl, ?_⟩
  have zo6 : szO 6000 o := fun t e => ⟨sz_mono (zo t e).1 (by decide), sz_mono (zo t e).2 (by decide)⟩
  subst hN
  refine seq_step fun N hN => ?_
  refine if_run false (fun Q h => ?_) (fun hc => by cases hc) (fun _ => ?_)
  · cases o with
    | none =>
      rw [show oT none = PyData.none from rfl] at h ⊢
      walk_at "rdn"
      exact h
    | some t =>
      rw [show oT (some t) = PyData.tuple [.int t.1, .int t.2] from rfl] at h ⊢
      obtain ⟨t1, t0, tg, tm, -⟩ := ho
      walk_at "rdn"
      refine place_call v10 t1 tg (sz_mono (zo t rfl).1 (by decide)) (sz_mono (zo t rfl).2 (by decide)) ⟨_, rfl, ?_⟩
      have tm2 : (l * t.2 ≤ (Ls.of a b x y p r).F t ∧ (Ls.of a b x y p r).F t ≤ rr * t.2) ∧ (lo * t.2 ≤ (Ls.of a b x y p r).F' t ∧ (Ls.of a b x y p r).F' t ≤ hi * t.2) := by
        have e1 := tm.1
        have e2 := tm.2
        unfold InR at e1 e2
        rw [rF_fold a1 t1] at e1
        rw [rF_fold b1 t1] at e2
        exact ⟨e1, e2⟩
      refine ⟨_, _, t.2, l, rr, lo, hi, rfl, t1, (zo6 t rfl).2, sm l0 (by omega) (by decide), sm (by omega) (by omega) (by decide), sm lo0 (by omega) (by decide), sm (by omega) (by omega) (by decide), _, rfl, _, rfl, ?_⟩
      rw [decide_eq_true tm2]
      exact h
  walk_at "rdn"
  subst hN
  refine seq_step fun N hN => ?_
  walk_at "rdn"
  subst hN
  -- the inner box
  refine seq_run (fun s => ∃ (n2 : Nat) (l' r' lo' hi' : Int) (x7 x8 : S), s = [.well n2, .va (.tuple [.int a, .int b]), .va (.tuple [.int x, .int y, .int p, .int r]), .va (.tuple [.int l, .int rr, .int lo, .int hi]), .va (.int w), .va (oT o), .va (.list [.int l', .int r', .int lo', .int hi']), x7, x8, .no, .no, .no, .no, .no, .no] ∧ (l ≤ l' ∧ l' ≤ r' ∧ r' ≤ rr) ∧ (lo ≤ lo' ∧ lo' ≤ hi' ∧ hi' ≤ hi) ∧ n1 ≤ n2 + 5) (fun N1 h1 => ?_) ?_
  · simp only [mFor]
    walk_at "rdn"
    simp only [forL, mgName, sset]
    refine seq_step fun N2 hN2 => ?_
    walk_at "rdn"
    refine ⟨.int rr, rfl, _, rfl, _, rfl, ?_⟩
    refine dr (by omega) (by omega) (by omega) fun u u0 u1 => ⟨_, rfl, ?_⟩
    subst hN2
    walk_at "rdn"
    refine ⟨.int rr, rfl, _, rfl, _, rfl, ?_⟩
    refine dr (by omega) (by omega) (by omega) fun u2 u20 u21 => ⟨_, rfl, _, rfl, .int hi, rfl, _, rfl, _, rfl, ?_⟩
    refine dr (by omega) (by omega) (by omega) fun u3 u30 u31 => ⟨_, rfl, _, rfl, .int hi, rfl, _, rfl, _, rfl, ?_⟩
    refine dr (by omega) (by omega) (by omega) fun u4 u40 u41 => ⟨_, rfl, _, rfl, ?_⟩
    exact h1 _ ⟨_, l + u, l + u + u2, lo + u3, lo + u3 + u4, _, _, rfl, by omega, by omega, by omega⟩
  rintro _ ⟨n2, l', r', lo', hi', x7, x8, rfl, hb1, hb2, hn2⟩
  refine seq_step fun N hN => ?_
  refine if_run false (fun Q h => ?_) (fun hc => by cases hc) (fun _ => ?_)
  · walk_at "rdn"
    refine box_call v7 ⟨by omega, by omega, by omega⟩ ⟨by omega, by omega, by omega⟩ fun o' ho' zo' => ⟨_, rfl, ?_⟩
    refine ⟨o, o', rfl, zo6, fun t e => ⟨sz_mono (zo' t e).1 (by decide), sz_mono (zo' t e).2 (by decide)⟩, _, rfl, _, rfl, ?_⟩
    rw [less_sub ho ho' fun u u1 m => in_sub u1 hb1.1 hb1.2.2 hb2.1 hb2.2.2 m]
    exact h
  walk_at "rdn"
  subst hN
  refine seq_step fun N hN => ?_
  refine if_run false (fun Q h => ?_) (fun hc => by cases hc) (fun _ => ?_)
  · walk_at "rdn"
    refine box_call v7 ⟨Int.le_refl _, by omega, Int.le_refl _⟩ ⟨Int.le_refl _, by omega, Int.le_refl _⟩ fun o' ho' zo' => ⟨_, rfl, ?_⟩
    rw [least_zero ho' (in_whole a1 b1 v.x0 v.x1 v.y0 v.y1)]
    exact ⟨_, opNe_self (j := 2) (by decide) (oT_sd (some (0, 1))), _, rfl, h⟩
  walk_at "rdn"
  subst hN
  -- later on the same way
  refine seq_run (fun s => ∃ x9 : S, s = [.well n2, .va (.tuple [.int a, .int b]), .va (.tuple [.int x, .int y, .int p, .int r]), .va (.tuple [.int l, .int rr, .int lo, .int hi]), .va (.int w), .va (oT o), .va (.list [.int l', .int r', .int lo', .int hi']), x7, x8, x9, .no, .no, .no, .no, .no]) (fun N1 h1 => ?_) ?_
  · cases o with
    | none =>
      rw [show oT none = PyData.none from rfl] at h1 ⊢
      walk_at "rdn"
      exact h1 _ ⟨_, rfl⟩
    | some t =>
      rw [show oT (some t) = PyData.tuple [.int t.1, .int t.2] from rfl] at h1 ⊢
      have t1 := ho.1
      walk_at "rdn"
      refine ⟨_, opMul_ok zw (zo t rfl).2 (by decide), _, rfl, _, rfl, ?_⟩
      by_cases hc : w * t.2 ≤ t.1
      · rw [if_pos (decide_eq_true hc)]
        refine shot_call v10 (sz_mono zw (by decide)) ⟨_, rfl, ?_⟩
        obtain ⟨vm, -⟩ := later_ok (w := w) v
        have im := fun {n m : Int} => in_mate (a := a) (b := b) (x := x) (y := y) (p := p) (q := r) (w := w) (l := l) (r := rr) (lo := lo) (hi := hi) (n := n) (m := m) v.a1 v.b1 v.x0 v.x1 v.y0 v.y1
        generalize rF a (lineA p x) (lineV p) w 1 = X at *
        generalize rF b (lineA r y) (lineV r) w 1 = Y at *
        generalize rW a (lineA p x) (lineV p) w 1 = P at *
        generalize rW b (lineA r y) (lineV r) w 1 = R at *
        refine box_call (vm.mono (by decide)) ⟨l0, lr, ra⟩ ⟨lo0, lh, hb'⟩ fun o' ho' zo' => ⟨_, rfl, ?_⟩
        have e := least_same ho' (leastT_iff (least_later ho hc w0) fun u u1 => (im (n := u.1) (m := u.2) u1).symm)
        refine ⟨_, opMul_ok zw (zo t rfl).2 (by decide), _, rfl, ?_⟩
        refine ⟨_, _, rfl, t1, sz_mono (zo t rfl).2 (by decide), _, rfl, ?_⟩
        rw [e]
        refine ⟨_, opNe_self (j := 2) (by decide) (oT_sd (some (lowP (t.1 - w * t.2) t.2))), _, rfl, ?_⟩
        rw [if_neg (by decide)]
        exact h1 _ ⟨_, rfl⟩
      · rw [if_neg (by rw [decide_eq_true_eq]; exact hc)]
        exact h1 _ ⟨_, rfl⟩
  rintro _ ⟨x9, rfl⟩
  refine seq_step fun N hN => ?_
  walk_at "rdn"
  refine crossed_call v10 ⟨_, rfl, ?_⟩
  walk_at "rdn"
  subst hN
  have vc := vd_cross v7
  refine seq_step fun N hN => ?_
  refine if_run false (fun Q h => ?_) (fun hc => by cases hc) (fun _ => ?_)
  · walk_at "rdn"
    have c1 : cutL [PyData.int l, .int rr, .int lo, .int hi] (some 2) none = [.int lo, .int hi] := rfl
    have c2 : cutL [PyData.int l, .int rr, .int lo, .int hi] none (some 2) = [.int l, .int rr] := rfl
    rw [c1, c2]
    refine ⟨_, rfl, ?_⟩
    refine box_call vc ⟨lo0, lh, hb'⟩ ⟨l0, lr, ra⟩ fun o' ho' zo' => ⟨_, rfl, ?_⟩
    rw [least_same ho' (leastT_iff ho fun u u1 => in_cross.symm)]
    exact ⟨_, opNe_self (j := 2) (by decide) (oT_sd o), _, rfl, h⟩
  walk_at "rdn"
  subst hN
  refine seq_step fun N hN => ?_
  walk_at "rdn"
  have p8 := ten_pow 8 100000000 (by decide) (by decide) (by decide +kernel)
  refine ⟨_, p8, ?_⟩
  refine dr (by omega) (by decide) (by decide) fun c c0 c1 => ⟨_, rfl, _, rfl, ?_⟩
  obtain ⟨g, hg⟩ : ∃ g : Int, 1 + c = g := ⟨_, rfl⟩
  rw [hg]
  have g1 : 1 ≤ g := by omega
  have zg : sz 27 g := by unfold sz; omega
  subst hN
  refine seq_step fun N hN => ?_
  walk_at "rdn"
  refine scaled_call v10 g1 (sz_mono zg (by decide)) ⟨_, rfl, ?_⟩
  walk_at "rdn"
  subst hN
  refine seq_step fun N hN => ?_
  walk_at "rdn"
  have vw : Vd 60 (a * g) (b * g) (x * g) (y * g) p r := sz_wideV v g1 zg (by decide)
  have ms : ∀ {z : Int}, 0 ≤ z → z < 2 ^ 26 → opMul (.int z) (.int g) = some (.int (z * g)) := fun h0 h1 => opMul_ok (sm h0 h1 (Nat.le_refl _)) zg (by decide)
  have mul : ∀ {u z : Int}, u ≤ z → u * g ≤ z * g := fun h => Int.mul_le_mul_of_nonneg_right h (by omega)
  refine ⟨rfl, ?_⟩
  refine lcL_run (fun s => ∃ x14, s = [.well (n2 - 1), .va (.tuple [.int a, .int b]), .va (.tuple [.int x, .int y, .int p, .int r]), .va (.tuple [.int l, .int rr, .int lo, .int hi]), .va (.int w), .va (oT o), .va (.list [.int l', .int r', .int lo', .int hi']), x7, x8, x9, .va (.tuple [.int (a * g), .int (b * g)]), .va (.tuple [.int (x * g), .int (y * g), .int p, .int r]), .va (.int g), .no, x14]) (fun d => match d with | .int z => some (.int (z * g)) | _ => none) _ ?_ _ [] ⟨_, rfl⟩ (by simp) ?_
  · rintro d hd s ⟨x14, rfl⟩ Y N' hY hN'
    obtain ⟨z, z0, z1, rfl⟩ : ∃ z : Int, 0 ≤ z ∧ z < 2 ^ 26 ∧ d = .int z := by
      simp only [List.mem_cons, List.not_mem_nil, or_false] at hd
      rcases hd with rfl | rfl | rfl | rfl
      · exact ⟨_, l0, by omega, rfl⟩
      · exact ⟨_, by omega, by omega, rfl⟩
      · exact ⟨_, lo0, by omega, rfl⟩
      · exact ⟨_, by omega, by omega, rfl⟩
    simp only [mgName, swipe, sset, mTYes, if_true]
    walk_at "rdn"
    exact ⟨_, ms z0 z1, hY _ _ rfl ⟨_, rfl⟩⟩
  rintro s ⟨x14, rfl⟩
  simp only [sback]
  walk_at "rdn"
  refine box_call (l := l * g) (r := rr * g) (lo := lo * g) (hi := hi * g) (vw.mono (by decide)) ⟨Int.mul_nonneg l0 (by omega), mul lr, mul ra⟩ ⟨Int.mul_nonneg lo0 (by omega), mul lh, mul hb'⟩ fun o2 ho2 zo2 => ⟨_, rfl, ?_⟩
  have e := least_same ho2 (scale_least a1 b1 g1 ho)
  subst hN
  walk_at "rdn"
  rw [e]
  cases o with
  | none =>
    rw [show oT none = PyData.none from rfl]
    walk_at "rdn"
    exact ⟨_, opEq_nn, q (n2 - 1) (by omega)⟩
  | some t =>
    rw [show oT (some t) = PyData.tuple [.int t.1, .int t.2] from rfl]
    walk_at "rdn"
    refine ⟨_, opMul_ok (zo t rfl).1 zg (by decide), _, _, rfl, ho.1, sz_mono (zo t rfl).2 (by decide), _, rfl, ?_⟩
    refine ⟨_, opEq_self (j := 2) (by decide) (oT_sd (some (lowP (t.1 * g) t.2))), ?_⟩
    exact q (n2 - 1) (by omega)
section
variable {P : Program} {w : World} {K : PySem.W.Frag} {mg : Str → Option Value} {base : Heap} {CN : String → Option Addr}
theorem ok__law_box_right {f : Addr} {fd : FuncData} (F : Fun K "_law_box_right" "_law_box_right" s__law_box_right f fd) (g : G K mg CN) (c__law_draw : CalW P w K mg base 1 "_law_draw" dDraw) (c__law_edges : CalW P w K mg base 2 "_law_edges" D__law_edges) (c__law_less : CalP P w K mg base CN 1 "_law_less" D__law_less) (c__law_low : CalP P w K mg base CN 1 "_law_low" D__law_low) (c__law_within : CalP P w K mg base CN 1 "_law_within" D__law_within) (c_crossed : CalP P w K mg base CN 7 "crossed" D_crossed) (c_first_in_box : CalP P w K mg base CN 7 "first_in_box" D_first_in_box) (c_place_at : CalP P w K mg base CN 8 "place_at" D_place_at) (c_scaled : CalP P w K mg base CN 7 "scaled" D_scaled) (c_shot_at : CalP P w K mg base CN 8 "shot_at" D_shot_at) : FnG P w K mg base 9 f fd ["well", "desk", "put"] (spW K D__law_box_right) := by
  have sc := sc__law_box_right
  exact fun_okW (m := m__law_box_right) (CN := CN) F sc (by decide) len__law_box_right (fun cdv A outer s H E C hr tk =>
    (pds_cons (pds_par2 (ps_par2 (i := 3) (j := 4) rfl sc.nd rfl rfl (by decide) rfl rfl (pdar_cons (pdr_of (pd_callW c__law_edges hr (by decide) tk (pv 0) (pda_cons (dv 1) pda_nil))) (pdar_cons (pdr_of (pd_callW c__law_draw hr (by decide) tk (pv 0) (pda_cons pd_int pda_nil))) pdar_nil)) rfl))
    (pds_cons (pds_asg (ps_asg (pd_call c_first_in_box hr (by decide) tk (pda_cons (dv 1) (pda_cons (dv 2) (pda_cons (dv 3) pda_nil)))) (dg 5 sc.nd)))
    (pds_cons (pds_if (pdt_ofw (pdw_and (pdt_cmp op_notN rl_notN (dv 5) pd_non (nomark _)) (pdw_and1 (pdt_not (pdt_val (pd_call c__law_within hr (by decide) tk (pda_cons (pd_call c_place_at hr (by decide) tk (pda_cons (dv 1) (pda_cons (dv 2) (pda_cons (dv 5) pda_nil)))) (pda_cons (dv 3) pda_nil)))))))) (pds_one (pds_ret (pdr_of pd_bl))) pds_nil)
    (pds_cons (pds_asg (ps_asg (pd_lst pda_nil) (dg 6 sc.nd)))
    (pds_cons (pds_for (ps_for psw rfl (pdi_seq (pd_tup (pda_cons pd_int (pda_cons pd_int pda_nil)))) (dg 7 sc.nd) (pds_cons (pds_asg (ps_asg (pd_op or_add rl_add (pd_ix ix_seq rl_ix (dv 3) (dv 7)) (pd_callW c__law_draw hr (by decide) tk (pv 0) (pda_cons (pd_op or_add rl_add (pd_op op_sub rl_sub (pd_ix ix_seq rl_ix (dv 3) (pd_op or_add rl_add (dv 7) pd_int)) (pd_ix ix_seq rl_ix (dv 3) (dv 7))) pd_int) pda_nil))) (dg 8 sc.nd)))
    (pds_one (pds_asg (ps_asg (pd_op or_add rl_add (dv 6) (pd_lst (pda_cons (dv 8) (pda_cons (pd_op or_add rl_add (dv 8) (pd_callW c__law_draw hr (by decide) tk (pv 0) (pda_cons (pd_op or_add rl_add (pd_op op_sub rl_sub (pd_ix ix_seq rl_ix (dv 3) (pd_op or_add rl_add (dv 7) pd_int)) (dv 8)) pd_int) pda_nil))) pda_nil)))) (dg 6 sc.nd)))))))
    (pds_cons (pds_if (pdt_not (pdt_val (pd_call c__law_less hr (by decide) tk (pda_cons (dv 5) (pda_cons (pd_call c_first_in_box hr (by decide) tk (pda_cons (dv 1) (pda_cons (dv 2) (pda_cons (pd_tupOf g.b_tuple (dv 6)) pda_nil)))) pda_nil))))) (pds_one (pds_ret (pdr_of pd_bl))) pds_nil)
    (pds_cons (pds_if (pdt_cmp (or_neD (RoomG.u64 hr)) rl_ne (pd_call c_first_in_box hr (by decide) tk (pda_cons (dv 1) (pda_cons (dv 2) (pda_cons (pd_tup (pda_cons pd_int (pda_cons (pd_ix ix_seq rl_ix (dv 1) pd_int) (pda_cons pd_int (pda_cons (pd_ix ix_seq rl_ix (dv 1) pd_int) pda_nil))))) pda_nil)))) (pd_tup (pda_cons pd_int (pda_cons pd_int pda_nil))) (nomark _)) (pds_one (pds_ret (pdr_of pd_bl))) pds_nil)
    (pds_cons (pds_if (pdt_ofw (pdw_and (pdt_cmp op_notN rl_notN (dv 5) pd_non (nomark _)) (pdw_and1 (pdt_cmp op_ge rl_cmpI (pd_ix ix_seq rl_ix (dv 5) pd_int) (pd_op or_mul rl_mul (dv 4) (pd_ix ix_seq rl_ix (dv 5) pd_int)) (nomark _))))) (pds_cons (pds_asg (ps_asg (pd_call c_first_in_box hr (by decide) tk (pda_cons (dv 1) (pda_cons (pd_call c_shot_at hr (by decide) tk (pda_cons (dv 1) (pda_cons (dv 2) (pda_cons (pd_tup (pda_cons (dv 4) (pda_cons pd_int pda_nil))) pda_nil)))) (pda_cons (dv 3) pda_nil)))) (dg 9 sc.nd)))
    (pds_one (pds_if (pdt_cmp (or_neD (RoomG.u64 hr)) rl_ne (dv 9) (pd_call c__law_low hr (by decide) tk (pda_cons (pd_op op_sub rl_sub (pd_ix ix_seq rl_ix (dv 5) pd_int) (pd_op or_mul rl_mul (dv 4) (pd_ix ix_seq rl_ix (dv 5) pd_int))) (pda_cons (pd_ix ix_seq rl_ix (dv 5) pd_int) pda_nil))) (nomark _)) (pds_one (pds_ret (pdr_of pd_bl))) pds_nil))) pds_nil)
    (pds_cons (pds_asg (ps_asg (pd_call c_crossed hr (by decide) tk (pda_cons (dv 1) (pda_cons (dv 2) pda_nil))) (pdg_tup rfl (gcons (dg 10 sc.nd) (gcons (dg 11 sc.nd) pdgs_nil)))))
    (pds_cons (pds_if (pdt_cmp (or_neD (RoomG.u64 hr)) rl_ne (pd_call c_first_in_box hr (by decide) tk (pda_cons (dv 10) (pda_cons (dv 11) (pda_cons (pd_op or_add rl_add (pd_slA (dv 3) pd_int) (pd_slB (dv 3) pd_int)) pda_nil)))) (dv 5) (nomark _)) (pds_one (pds_ret (pdr_of pd_bl))) pds_nil)
    (pds_cons (pds_asg (ps_asg (pd_op or_add rl_add pd_int (pd_callW c__law_draw hr (by decide) tk (pv 0) (pda_cons (pd_op op_powW rl_pow pd_int pd_int) pda_nil))) (dg 12 sc.nd)))
    (pds_cons (pds_asg (ps_asg (pd_call c_scaled hr (by decide) tk (pda_cons (dv 1) (pda_cons (dv 2) (pda_cons (dv 12) pda_nil)))) (pdg_tup rfl (gcons (dg 10 sc.nd) (gcons (dg 11 sc.nd) pdgs_nil)))))
    (pds_cons (pds_asg (ps_asg (pd_call c_first_in_box hr (by decide) tk (pda_cons (dv 10) (pda_cons (dv 11) (pda_cons (pd_tupOf g.b_tuple (pd_lc (pe_lc (own := [("mark", 14)]) rfl sc.nd (pdi_seq (dv 3)) (blkOk_by (N := ["well", "desk", "put", "room", "ticks", "found", "inner", "k", "low", "later", "other_desk", "other_put", "large", "far", "mark"]) (sc := (defScope s__law_box_right)) (by decide +kernel)) (fun _ _ _ _ _ => (dgv 14 (vs := [14]) sc.nd)) (fun _ _ _ _ _ => pdts_nil) (fun _ _ _ _ _ => (pd_op or_mul rl_mul (dv 14) (dv 12)))))) pda_nil)))) (dg 13 sc.nd)))
    (pds_one (pds_ret (pdr_of (pd_cmp (or_eqD (RoomG.u64 hr)) rl_eq (dv 13) (pd_ifE (pdt_cmp op_isN rl_isN (dv 5) pd_non (nomark _)) pd_non (pd_call c__law_low hr (by decide) tk (pda_cons (pd_op or_mul rl_mul (pd_ix ix_seq rl_ix (dv 5) pd_int) (dv 12)) (pda_cons (pd_ix ix_seq rl_ix (dv 5) pd_int) pda_nil)))) (nomark _))))))))))))))))))) rd__law_box_right
end
end LW
namespace LW
open PySem PySem.Spec PyProof.Rows L2 DL
theorem letS_inj {j k : Nat} (hj : j < 4) (hk : k < 4) (h : PyData.str (letS j) = .str (letS k)) : j = k := by
  have c : j = 0 ∨ j = 1 ∨ j = 2 ∨ j = 3 := by omega
  have d : k = 0 ∨ k = 1 ∨ k = 2 ∨ k = 3 := by omega
  rcases c with rfl | rfl | rfl | rfl <;> rcases d with rfl | rfl | rfl | rfl <;> first | rfl | (exfalso; simp only [letS, PyData.str.injEq] at h; exact absurd h (by decide +kernel))
/-- item by item -/
def AllT {α β : Type} (P : α → β → Prop) : List α → List β → Prop
  | [], [] => True
  | a :: as, b :: bs => P a b ∧ AllT P as bs
  | _, _ => False
theorem allT_len {α β : Type} {P : α → β → Prop} : ∀ {as : List α} {bs : List β}, AllT P as bs → as.length = bs.length
  | [], [], _ => rfl
  | a :: as, b :: bs, h => by rw [List.length_cons, List.length_cons, allT_len h.2]
  | [], b :: bs, h => h.elim
  | a :: as, [], h => h.elim
theorem allT_get {α β : Type} {P : α → β → Prop} : ∀ {as : List α} {bs : List β} {i : Nat} {a : α}, AllT P as bs → as[i]? = some a → ∃ b, bs[i]? = some b ∧ P a b
  | [], _, i, a, _, e => by simp at e
  | a :: as, [], i, _, h, _ => h.elim
  | a :: as, b :: bs, 0, _, h, e => by cases e; exact ⟨b, rfl, h.1⟩
  | a :: as, b :: bs, i + 1, _, h, e => by
    obtain ⟨b', h1, h2⟩ := allT_get h.2 (show as[i]? = some _ by simpa using e)
    exact ⟨b', by simpa using h1, h2⟩
theorem allT_get' {α β : Type} {P : α → β → Prop} : ∀ {as : List α} {bs : List β} {i : Nat} {b : β}, AllT P as bs → bs[i]? = some b → ∃ a, as[i]? = some a ∧ P a b
  | [], [], i, b, _, e => by simp at e
  | [], b :: bs, i, _, h, _ => h.elim
  | a :: as, [], i, _, h, _ => h.elim
  | a :: as, b :: bs, 0, _, h, e => by cases e; exact ⟨a, rfl, h.1⟩
  | a :: as, b :: bs, i + 1, _, h, e => by
    obtain ⟨b', h1, h2⟩ := allT_get' h.2 (show bs[i]? = some _ by simpa using e)
    exact ⟨b', by simpa using h1, h2⟩
/-- a comprehension whose items are told by what they promise -/
theorem lcL_runA {α β : Type} {mg : MG} {mt : MT} {me : ME} {vs : List Nat} (I : DSt → Prop) (P : α → β → Prop) (f : α → PyData) (g : β → PyData) {Q : List PyData → DSt → Prop} :
    ∀ as : List α, (∀ a ∈ as, ∀ s, I s → ∀ (Y : PyData → DSt → Prop) (N : DSt → Prop), (∀ b s3, P a b → I s3 → Y (g b) s3) → mg (f a) (swipe s vs) fun s1 => mt s1 fun b s2 => if b = true then me s2 Y else N s2) →
      ∀ s acc, I s → acc.length + as.length ≤ 100000 → (∀ bs s', AllT P as bs → I s' → Q (acc ++ bs.map g) s') → lcL mg mt me vs Q (as.map f) s acc
  | [], _, s, acc, i, _, q => by
    have := q [] s trivial i
    rw [List.map_nil, List.append_nil] at this
    exact this
  | a :: as, h, s, acc, i, hl, q => by
    refine h a (by simp) s i _ _ (fun b s3 p i3 => ⟨by simp at hl; omega, ?_⟩)
    refine lcL_runA I P f g as (fun a' ha => h a' (by simp [ha])) s3 (acc ++ [g b]) i3 (by simp at hl ⊢; omega) fun bs s' hb i' => ?_
    have := q (b :: bs) s' ⟨p, hb⟩ i'
    simpa using this
theorem sz_lineVk {k : Nat} {v : Int} (h : sz k v) : sz k (lineV v) := by
  unfold lineV
  split
  · exact sz_neg h
  · exact h
theorem leastT_iff0 {M N : Int × Int → Prop} {o : Option (Int × Int)} (h : LeastT M o) (e : ∀ u : Int × Int, 1 ≤ u.2 → 0 ≤ u.1 → (M u ↔ N u)) : LeastT N o := by
  cases o with
  | none => exact fun u u1 n0 z => h u u1 n0 ((e u u1 n0).mpr z)
  | some t =>
    obtain ⟨p, t0, c, m, l⟩ := h
    exact ⟨p, t0, c, (e t p t0).mp m, fun u u1 n0 z => l u u1 n0 ((e u u1 n0).mpr z)⟩
/-- a strip at a cushion as a box -/
def stripL (a b : Int) (lo hi : Int) : Nat → Int × Int × Int × Int
  | 0 => (0, 0, lo, hi)
  | 1 => (a, a, lo, hi)
  | 2 => (lo, hi, 0, 0)
  | _ => (lo, hi, b, b)
def InStrip (a b x y p q : Int) (lo hi : Int) (j : Nat) (u : Int × Int) : Prop := InBox a b x y p q (stripL a b lo hi j).1 (stripL a b lo hi j).2.1 (stripL a b lo hi j).2.2.1 (stripL a b lo hi j).2.2.2 u
theorem line_cush {s A V c r n m : Int} (s1 : 1 ≤ s) (m1 : 1 ≤ m) (hv : V ≠ 0) (hc : (c = 0 ∧ r = 0) ∨ (c = s ∧ r = 1)) :
    InR s c c (A * m + V * n) m ↔ (V ≠ 0 ∧ (A * m + V * n) % (s * m) = 0) ∧ rP s A V n m % 2 = r := by
  rw [inR_one, rF_fold s1 m1]
  have two : rP s A V n m % 2 = 0 ∨ rP s A V n m % 2 = 1 := by omega
  rcases hc with ⟨rfl, rfl⟩ | ⟨rfl, rfl⟩
  · rw [at_low s1 m1]
    exact ⟨fun h => ⟨⟨hv, h.2⟩, h.1⟩, fun h => ⟨h.2, h.1.2⟩⟩
  · rw [at_high s1 m1]
    exact ⟨fun h => ⟨⟨hv, h.2⟩, by omega⟩, fun h => ⟨by omega, h.1.2⟩⟩
theorem strip_iff {a b x y p q lo hi : Int} {j : Nat} (hj : j < 4) {u : Int × Int} (a1 : 1 ≤ a) (b1 : 1 ≤ b) (u1 : 1 ≤ u.2) (hv : (j < 2 → p ≠ 0) ∧ (2 ≤ j → q ≠ 0)) :
    InStrip a b x y p q lo hi j u ↔ LaneP (Ls.of a b x y p q) j lo hi u := by
  have i1 : ∀ {l h : Int}, InR a l h (lineA p x * u.2 + lineV p * u.1) u.2 ↔ l * u.2 ≤ (Ls.of a b x y p q).F u ∧ (Ls.of a b x y p q).F u ≤ h * u.2 := by
    intro l h
    unfold InR
    rw [rF_fold a1 u1]
    exact Iff.rfl
  have i2 : ∀ {l h : Int}, InR b l h (lineA q y * u.2 + lineV q * u.1) u.2 ↔ l * u.2 ≤ (Ls.of a b x y p q).F' u ∧ (Ls.of a b x y p q).F' u ≤ h * u.2 := by
    intro l h
    unfold InR
    rw [rF_fold b1 u1]
    exact Iff.rfl
  have k1 : (Ls.of a b x y p q).hit u = true ↔ (lineV p ≠ 0 ∧ (lineA p x * u.2 + lineV p * u.1) % (a * u.2) = 0) := decide_eq_true_iff
  have k2 : (Ls.of a b x y p q).hit' u = true ↔ (lineV q ≠ 0 ∧ (lineA q y * u.2 + lineV q * u.1) % (b * u.2) = 0) := decide_eq_true_iff
  have f1 : (Ls.of a b x y p q).P u = rP a (lineA p x) (lineV p) u.1 u.2 := rfl
  have f2 : (Ls.of a b x y p q).P' u = rP b (lineA q y) (lineV q) u.1 u.2 := rfl
  have c : j = 0 ∨ j = 1 ∨ j = 2 ∨ j = 3 := by omega
  unfold LaneP
  rcases c with rfl | rfl | rfl | rfl
  · have e := line_cush (A := lineA p x) (V := lineV p) (n := u.1) (c := 0) (r := 0) a1 u1 ((lineV_ne p).mpr (hv.1 (by decide))) (.inl ⟨rfl, rfl⟩)
    show InR a 0 0 _ _ ∧ InR b lo hi _ _ ↔ ((Ls.of a b x y p q).hit u && decide ((Ls.of a b x y p q).P u % 2 = 0)) = true ∧ _
    rw [Bool.and_eq_true, k1, f1, decide_eq_true_eq, ← e, i2, if_pos (by decide)]
  · have e := line_cush (A := lineA p x) (V := lineV p) (n := u.1) (c := a) (r := 1) a1 u1 ((lineV_ne p).mpr (hv.1 (by decide))) (.inr ⟨rfl, rfl⟩)
    show InR a a a _ _ ∧ InR b lo hi _ _ ↔ ((Ls.of a b x y p q).hit u && !decide ((Ls.of a b x y p q).P u % 2 = 0)) = true ∧ _
    rw [Bool.and_eq_true, k1, f1, Bool.not_eq_true', decide_eq_false_iff_not, show (¬ rP a (lineA p x) (lineV p) u.1 u.2 % 2 = 0) ↔ rP a (lineA p x) (lineV p) u.1 u.2 % 2 = 1 by omega, ← e, i2, if_pos (by decide)]
  · have e := line_cush (A := lineA q y) (V := lineV q) (n := u.1) (c := 0) (r := 0) b1 u1 ((lineV_ne q).mpr (hv.2 (by decide))) (.inl ⟨rfl, rfl⟩)
    show InR a lo hi _ _ ∧ InR b 0 0 _ _ ↔ ((Ls.of a b x y p q).hit' u && decide ((Ls.of a b x y p q).P' u % 2 = 0)) = true ∧ _
    rw [Bool.and_eq_true, k2, f2, decide_eq_true_eq, ← e, i1, if_neg (by decide)]
    exact And.comm
  · have e := line_cush (A := lineA q y) (V := lineV q) (n := u.1) (c := b) (r := 1) b1 u1 ((lineV_ne q).mpr (hv.2 (by decide))) (.inr ⟨rfl, rfl⟩)
    show InR a lo hi _ _ ∧ InR b b b _ _ ↔ ((Ls.of a b x y p q).hit' u && !decide ((Ls.of a b x y p q).P' u % 2 = 0)) = true ∧ _
    rw [Bool.and_eq_true, k2, f2, Bool.not_eq_true', decide_eq_false_iff_not, show (¬ rP b (lineA q y) (lineV q) u.1 u.2 % 2 = 0) ↔ rP b (lineA q y) (lineV q) u.1 u.2 % 2 = 1 by omega, ← e, i1, if_neg (by decide)]
    exact And.comm
/-- a strip is first come to by the first hit in its stretch, where the ball does not start in it -/
theorem strip_due {a b x y p q lo hi : Int} (R : LRow (Ls.of a b x y p q)) {j : Nat} (hj : j < 4) (a1 : 1 ≤ a) (b1 : 1 ≤ b) (x0 : 0 ≤ x) (x1 : x ≤ a) (y0 : 0 ≤ y) (y1 : y ≤ b) (hv : (j < 2 → p ≠ 0) ∧ (2 ≤ j → q ≠ 0)) {o : Option Int} {w : Option (Int × Int)}
    (h : Least (LaneK (Ls.of a b x y p q) j lo hi) o) (hw : LeastT (InStrip a b x y p q lo hi j) w) (ns : ¬ InStrip a b x y p q lo hi j (0, 1)) :
    w = o.map fun k => (Ls.of a b x y p q).at (k.toNat + 1) := by
  have hs : LeastT (StrM (Ls.of a b x y p q) j lo hi) w := leastT_iff0 hw fun u u1 u0 => by
    rw [strM_iff R.ok hj u1 u0, ← strip_iff hj a1 b1 u1 hv]
    refine ⟨fun m => ⟨?_, m⟩, fun m => m.2⟩
    refine Classical.byContradiction fun z => ns ?_
    have e : u.1 = 0 := by omega
    exact inBox_same u1 (by decide) (by rw [e]; simp) m
  have hl := stretch_least R hj hs
  have e := least_unique h hl
  rw [e]
  cases w with
  | none => rfl
  | some t =>
    obtain ⟨t1, t0, g, m, -⟩ := hs
    obtain ⟨tp, hl⟩ := (strM_iff R.ok hj t1 t0).mp m
    obtain ⟨k, e1, e2⟩ := R.hit_at t1 tp g (lane_hit hj hl)
    show some t = some ((Ls.of a b x y p q).at (((Ls.of a b x y p q).N t - 1).toNat + 1))
    rw [e2, show ((k : Int) + 1 - 1).toNat = k by omega, e1]
theorem str_call {a b x y p q lo hi : Int} {j : Nat} {Q : S → Prop} {E : String → Prop} (v : Vd 200 a b x y p q) (hj : j < 4) (hl : 0 ≤ lo ∧ lo ≤ hi ∧ hi ≤ (if j < 2 then b else a)) (h : ∀ o, Least (LaneK (Ls.of a b x y p q) j lo hi) o → Q (.va (optD o))) :
    D_first_in_stretch [.tuple [.int a, .int b], .tuple [.int x, .int y, .int p, .int q], .tuple [.str (letS j), .int lo, .int hi]] Q E := by
  have hs : isStretch (.tuple [.int a, .int b]) (.tuple [.str (letS j), .int lo, .int hi]) = true := by
    have c : j = 0 ∨ j = 1 ∨ j = 2 ∨ j = 3 := by omega
    show (isCush (.str (letS j)) && (decide (0 ≤ lo) && decide (lo ≤ hi) && decide (hi ≤ strSide a b (.str (letS j))))) = true
    have ss : strSide a b (.str (letS j)) = if j < 2 then b else a := by
      rcases c with rfl | rfl | rfl | rfl
      · show (if (decide (letS 0 = "W") || decide (letS 0 = "E")) = true then b else a) = (if 0 < 2 then b else a)
        rw [if_pos (by decide), if_pos (by decide)]
      · show (if (decide (letS 1 = "W") || decide (letS 1 = "E")) = true then b else a) = (if 1 < 2 then b else a)
        rw [if_pos (by decide), if_pos (by decide)]
      · show (if (decide (letS 2 = "W") || decide (letS 2 = "E")) = true then b else a) = (if 2 < 2 then b else a)
        rw [if_neg (by decide), if_neg (by decide)]
      · show (if (decide (letS 3 = "W") || decide (letS 3 = "E")) = true then b else a) = (if 3 < 2 then b else a)
        rw [if_neg (by decide), if_neg (by decide)]
    have cu : isCush (.str (letS j)) = true := by rcases c with rfl | rfl | rfl | rfl <;> decide
    rw [ss, cu, decide_eq_true hl.1, decide_eq_true hl.2.1, decide_eq_true hl.2.2]
    rfl
  refine ⟨_, _, _, rfl, fun z => absurd (v.tab.symm.trans z) (by decide), fun _ z => absurd (v.shot.symm.trans z) (by decide), fun _ _ z => absurd (hs.symm.trans z) (by decide), fun _ _ _ => ⟨⟨v.za, v.zb⟩, ⟨v.zx, v.zy, v.zp, v.zq⟩, fun o ho => ?_⟩⟩
  obtain ⟨i, hi, e, l⟩ := ho
  have : j = i := letS_inj hj hi (congrArg PyData.str e)
  subst this
  exact h o l
theorem corner_call {a b x y p q : Int} {Q : S → Prop} {E : String → Prop} (v : Vd 600 a b x y p q) (h : Q (.va (dueD a b x y p q))) : D_corner_hit [.tuple [.int a, .int b], .tuple [.int x, .int y, .int p, .int q]] Q E :=
  ⟨_, _, rfl, fun z => absurd (v.tab.symm.trans z) (by decide), fun _ z => absurd (v.shot.symm.trans z) (by decide), fun _ _ => ⟨⟨v.za, v.zb⟩, ⟨v.zx, v.zy, v.zp, v.zq⟩, h⟩⟩
def cornersQ (a b : Int) : List (Int × Int) := [(0, 0), (a, 0), (0, b), (a, b)]
theorem corners_or {a b : Int} {c : Int × Int} : c ∈ cornersQ a b ↔ (c.1 = 0 ∨ c.1 = a) ∧ (c.2 = 0 ∨ c.2 = b) := by
  obtain ⟨u, v⟩ := c
  simp only [cornersQ, List.mem_cons, List.not_mem_nil, or_false, Prod.mk.injEq]
  constructor
  · rintro (h | h | h | h) <;> simp [h]
  · rintro ⟨h1 | h1, h2 | h2⟩ <;> simp [h1, h2]
/-- a list of times, some of which may be none -/
theorem lay_oTs : ∀ l : List (Option (Int × Int)), PyData.canLayAll0 (l.map oT) = true ∧ PyData.depthAll (l.map oT) ≤ 2
  | [] => ⟨rfl, by simp [PyData.depthAll]⟩
  | o :: l => by
    obtain ⟨a, b⟩ := lay_oTs l
    cases o with
    | none =>
      refine ⟨by simp [oT, PyData.canLayAll0, PyData.canLay0, a], ?_⟩
      simp only [List.map_cons, oT, PyData.depthAll, PyData.depth]
      omega
    | some t =>
      refine ⟨by simp [oT, PyData.canLayAll0, PyData.canLay0, a], ?_⟩
      simp only [List.map_cons, oT, PyData.depthAll, PyData.depth]
      omega
theorem shaped_oTs (l : List (Option (Int × Int))) : SeqAt.shaped (.list (l.map oT)) = true := by
  obtain ⟨a, b⟩ := lay_oTs l
  unfold SeqAt.shaped
  rw [Bool.and_eq_true, decide_eq_true_eq]
  refine ⟨by simpa [PyData.canLay0] using a, ?_⟩
  simp only [PyData.depth]
  omega
theorem opInD_oT {t : Int × Int} {l : List (Option (Int × Int))} : opInD (oT (some t)) (.list (l.map oT)) = some (.bool (decide (some t ∈ l))) := by
  show (if (SeqAt.shaped (prP t) && SeqAt.shaped (.list (l.map oT))) = true then some (PyData.bool ((l.map oT).any fun z => PyData.eqv z (prP t))) else none) = _
  rw [shaped_oTs, show SeqAt.shaped (prP t) = true from shaped_pair, if_pos (by decide)]
  congr 2
  induction l with
  | nil => simp
  | cons o l ih =>
    rw [List.map_cons, List.any_cons, ih]
    cases o with
    | none =>
      have : PyData.eqv (oT none) (prP t) = false := by simp [oT, prP, PyData.eqv]
      rw [this]
      simp
    | some u =>
      have : PyData.eqv (oT (some u)) (prP t) = decide (u = t) := by
        obtain ⟨u1, u2⟩ := u
        obtain ⟨t1, t2⟩ := t
        simp [oT, prP, PyData.eqv, PyData.eqvAll]
        by_cases h1 : u1 = t1 <;> by_cases h2 : u2 = t2 <;> simp [h1, h2]
      rw [this]
      by_cases h : u = t
      · simp [h]
      · have h2 : ¬ t = u := fun z => h z.symm
        simp [h, h2]
theorem opEq_oTs (l : List (Option (Int × Int))) (h : l = List.replicate l.length none) : opEq (.list (l.map oT)) (.list (List.replicate l.length .none)) = some (.bool true) := by
  have e : (l.map oT) = List.replicate l.length PyData.none := by
    rw [h]
    simp [oT]
  rw [e]
  refine (?_ : opEq (.list (List.replicate l.length PyData.none)) (.list (List.replicate l.length PyData.none)) = _)
  have s := shaped_oTs l
  rw [e] at s
  unfold opEq
  rw [s]
  have : PyData.eqv (.list (List.replicate l.length PyData.none)) (.list (List.replicate l.length PyData.none)) = true := by
    simp only [PyData.eqv]
    generalize l.length = n
    induction n with
    | zero => rfl
    | succ n ih => rw [List.replicate_succ]; simp [PyData.eqvAll, PyData.eqv, ih]
  rw [this]
  rfl
section
variable {a b x y p q : Int}
theorem spot_hit {c : Int × Int} {t : Int × Int} (R : LRow (Ls.of a b x y p q)) (a1 : 1 ≤ a) (b1 : 1 ≤ b) (x0 : 0 ≤ x) (x1 : x ≤ a) (y0 : 0 ≤ y) (y1 : y ≤ b) (hp : p ≠ 0) (hq : q ≠ 0) (hc : c ∈ cornersQ a b) (ns : (x, y) ∉ cornersQ a b)
    (t1 : 1 ≤ t.2) (t0 : 0 ≤ t.1) (g : Nat.gcd t.1.natAbs t.2.natAbs = 1) (m : InBox a b x y p q c.1 c.1 c.2 c.2 t) (z1 : sz 5000 t.1) (z2 : sz 5000 t.2) : Fnd a b x y p q t := by
  obtain ⟨h1, h2⟩ := corners_or.mp hc
  refine ⟨t1, ?_, g, ⟨c.1, c.2, h1, h2, m⟩, z1, z2⟩
  refine Classical.byContradiction fun z => ns ?_
  have e : t.1 = 0 := by omega
  have m0 : InBox a b x y p q c.1 c.1 c.2 c.2 (0, 1) := inBox_same t1 (by decide) (by rw [e]; simp) m
  have := (in_start a1 b1 x0 x1 y0 y1).mp m0
  rw [corners_or]
  have e1 : x = c.1 := by omega
  have e2 : y = c.2 := by omega
  show (x = 0 ∨ x = a) ∧ (y = 0 ∨ y = b)
  rw [e1, e2]
  exact ⟨h1, h2⟩
end
end LW
namespace LW
open PySem PySem.Spec PyProof.Rows L2 DL
def m__law_strips_right : MS :=
  mSeq (mAsg (mVar 1) (mgTup 2 (mgCons (mgName 3) (mgCons (mgName 4) (mgNil)))))
  (mSeq (mAsgM [5, 6] [mrLst (mNil), mrLst (mNil)])
  (mSeq (mFor (miSeq (mTup (mCons (mVar 4) (mCons (mVar 3) (mNil))))) (mgName 7) (mSeq (mApp 5 (mCallW dDraw 0 (mCons (mOp2 opAdd (mVar 7) (mC (.int 1))) (mNil))))
  (mApp 6 (mOp2 opAdd (mIxOwn 5 (mOp1 opNeg (mC (.int 1)))) (mCallW dDraw 0 (mCons (mOp2 opAdd (mOp2 opSub (mVar 7) (mIxOwn 5 (mOp1 opNeg (mC (.int 1))))) (mC (.int 1))) (mNil)))))))
  (mSeq (mFor (miSeq (mTup (mCons (mTup (mCons (mC (.str "W")) (mCons (mC (.int 0)) (mNil)))) (mCons (mTup (mCons (mC (.str "E")) (mCons (mC (.int 0)) (mNil)))) (mCons (mTup (mCons (mC (.str "S")) (mCons (mC (.int 1)) (mNil)))) (mCons (mTup (mCons (mC (.str "N")) (mCons (mC (.int 1)) (mNil)))) (mNil))))))) (mgTup 2 (mgCons (mgName 8) (mgCons (mgName 9) (mgNil)))) (mSeq (mAsg (mIfE (mT (mOp2 opIn (mVar 8) (mTup (mCons (mC (.str "E")) (mCons (mC (.str "N")) (mNil)))))) (mOp2 opIx (mVar 1) (mVar 9)) (mC (.int 0))) (mgName 10))
  (mSeq (mAsg (mLst (mCons (mVar 10) (mCons (mVar 10) (mCons (mIxOwn 5 (mVar 9)) (mCons (mIxOwn 6 (mVar 9)) (mNil)))))) (mgName 11))
  (mSeq (mAsg (mCallB bTup (mCons (mIfE (mT (mOp2 opEq (mVar 9) (mC (.int 0)))) (mVar 11) (mOp2 opAdd (mSl opSl (mVar 11) (mPart (mC (.int 2))) mNoPart) (mSl opSl (mVar 11) mNoPart (mPart (mC (.int 2)))))) mNil)) (mgName 11))
  (mSeq (mAsg (mCall D__law_within wF (mCons (mTup (mCons (mTup (mCons (mOp2 opIx (mVar 2) (mC (.int 0))) (mCons (mC (.int 1)) (mNil)))) (mCons (mTup (mCons (mOp2 opIx (mVar 2) (mC (.int 1))) (mCons (mC (.int 1)) (mNil)))) (mNil)))) (mCons (mVar 11) (mNil)))) (mgName 12))
  (mIf (mTAnd (mT (mOp2 opNe (mOp2 opIx (mVar 2) (mOp2 opAdd (mVar 9) (mC (.int 2)))) (mC (.int 0)))) (mTNot (mT (mVar 12)))) (mSeq (mAsg (mCall D_first_in_stretch wF (mCons (mVar 1) (mCons (mVar 2) (mCons (mTup (mCons (mVar 8) (mCons (mIxOwn 5 (mVar 9)) (mCons (mIxOwn 6 (mVar 9)) (mNil))))) (mNil))))) (mgName 13))
  (mSeq (mAsg (mIfE (mT (mOp2 opIsN2 (mVar 13) (mC .none))) (mC .none) (mOp2 opIx (mCall D_nth_hit wF (mCons (mVar 1) (mCons (mVar 2) (mCons (mVar 13) (mNil))))) (mC (.int 0)))) (mgName 14))
  (mIf (mT (mOp2 opNe (mCall D_first_in_box wF (mCons (mVar 1) (mCons (mVar 2) (mCons (mVar 11) (mNil))))) (mVar 14))) (mRet (mrOf (mC (.bool false)))) (mNext)))) (mNext)))))))
  (mSeq (mAsg (mLst (mCons (mTup (mCons (mC (.int 0)) (mCons (mC (.int 0)) (mNil)))) (mCons (mTup (mCons (mVar 3) (mCons (mC (.int 0)) (mNil)))) (mCons (mTup (mCons (mC (.int 0)) (mCons (mVar 4) (mNil)))) (mCons (mTup (mCons (mVar 3) (mCons (mVar 4) (mNil)))) (mNil)))))) (mgName 15))
  (mSeq (mIf (mTOr (mT (mOp2 opIn (mC (.int 0)) (mSl opSl (mVar 2) (mPart (mC (.int 2))) mNoPart))) (mT (mOp2 opInD (mSl opSl (mVar 2) mNoPart (mPart (mC (.int 2)))) (mVar 15)))) (mRet (mrOf (mC (.bool true)))) (mNext))
  (mSeq (mAsg (mCall D_corner_hit wF (mCons (mVar 1) (mCons (mVar 2) (mNil)))) (mgName 13))
  (mSeq (mAsg (mLc (miSeq (mVar 15)) (mgName 18) (mTYes) (mCall D_first_at wF (mCons (mVar 1) (mCons (mVar 2) (mCons (mVar 18) (mNil))))) [18]) (mgName 16))
  (mSeq (mIf (mT (mOp2 opIsN2 (mVar 13) (mC .none))) (mRet (mrOf (mOp2 opEq (mVar 16) (mOp2 opMul (mLst (mCons (mC .none) (mNil))) (mC (.int 4)))))) (mNext))
  (mSeq (mAsg (mOp2 opIx (mCall D_nth_hit wF (mCons (mVar 1) (mCons (mVar 2) (mCons (mVar 13) (mNil))))) (mC (.int 0))) (mgName 17))
  (mRet (mrOf (mAnd (mOp2 opInD (mVar 17) (mVar 16)) (mOp2 opEq (mLc (miSeq (mVar 16)) (mgName 19) (mTNot (mT (mCall D__law_less wF (mCons (mVar 17) (mCons (mVar 19) (mNil)))))) (mVar 19) [19]) (mLst (mNil)))))))))))))))
theorem opIn_two {z u v : Int} : opIn (.int z) (.tuple [.int u, .int v]) = some (.bool (decide (u = z) || decide (v = z))) := by
  show opInS false _ _ = _
  unfold opInS
  simp [items, flatD, PyData.eqv]
  by_cases h1 : u = z <;> by_cases h2 : v = z <;> simp [h1, h2]
def cAt (a b : Int) : Nat → Int
  | 0 => 0
  | 1 => a
  | 2 => 0
  | _ => b
def pk (j : Nat) (u v : Int) : Int := if j < 2 then u else v
def stripT (a b lo hi : Int) (j : Nat) : PyData := .tuple [.int (stripL a b lo hi j).1, .int (stripL a b lo hi j).2.1, .int (stripL a b lo hi j).2.2.1, .int (stripL a b lo hi j).2.2.2]
def stripD (j : Nat) : PyData := .tuple [.str (letS j), .int (pk j 0 1)]
theorem strip_box {a b lo hi : Int} {j : Nat} (hj : j < 4) (a1 : 1 ≤ a) (b1 : 1 ≤ b) (h : 0 ≤ lo ∧ lo ≤ hi ∧ hi ≤ (if j < 2 then b else a)) :
    (0 ≤ (stripL a b lo hi j).1 ∧ (stripL a b lo hi j).1 ≤ (stripL a b lo hi j).2.1 ∧ (stripL a b lo hi j).2.1 ≤ a) ∧ (0 ≤ (stripL a b lo hi j).2.2.1 ∧ (stripL a b lo hi j).2.2.1 ≤ (stripL a b lo hi j).2.2.2 ∧ (stripL a b lo hi j).2.2.2 ≤ b) := by
  have c : j = 0 ∨ j = 1 ∨ j = 2 ∨ j = 3 := by omega
  rcases c with rfl | rfl | rfl | rfl
  · rw [if_pos (by decide)] at h; simp only [stripL]; omega
  · rw [if_pos (by decide)] at h; simp only [stripL]; omega
  · rw [if_neg (by decide)] at h; simp only [stripL]; omega
  · rw [if_neg (by decide)] at h; simp only [stripL]; omega
def D__law_strips_right : WSpec := fun n ds Q => ∃ a b x y p q : Int, ds = [.tuple [.int a, .int b], .tuple [.int x, .int y, .int p, .int q]] ∧ 10 ≤ n ∧ Vd 26 a b x y p q ∧ ∀ n', n ≤ n' + 6 → Q (.va (.bool true)) n'
theorem len__law_strips_right : ∀ n ds Q, D__law_strips_right n ds Q → ds.length + 1 = 3 := by
  rintro n _ Q ⟨a, b, x, y, p, q, rfl, _⟩
  rfl
theorem rd__law_strips_right : ∀ n ds Q, D__law_strips_right n ds Q → m__law_strips_right (endW Q) (slotsW 20 n ds) := by
  rintro n _ Q ⟨a, b, x, y, p, r, rfl, hn, v, q⟩
  have v7 := v.mono (l := 700) (by decide)
  have v6 := v.mono (l := 600) (by decide)
  have v2 := v.mono (l := 200) (by decide)
  have R : LRow (Ls.of a b x y p r) := of_row v.a1 v.b1 v.x0 v.x1 v.y0 v.y1 v.w v2.za v2.zb v2.zp v2.zq
  have a1 := v.a1
  have b1 := v.b1
  have la : a < 2 ^ 26 := by have := v.za; unfold sz at this; omega
  have lb : b < 2 ^ 26 := by have := v.zb; unfold sz at this; omega
  have sm : ∀ {z : Int} {k : Nat}, 0 ≤ z → z < 2 ^ 26 → 26 ≤ k → sz k z := fun h0 h1 hk => sz_mono (k := 26) (by unfold sz; omega) hk
  unfold m__law_strips_right
  refine seq_step fun N hN => ?_
  walk_at "rdn"
  subst hN
  refine seq_step fun N hN => ?_
  walk_at "rdn"
  subst hN
  refine seq_run (fun s => ∃ (n1 : Nat) (l0 l1 g0 g1 : Int) (x7 : S), s = [.well n1, .va (.tuple [.int a, .int b]), .va (.tuple [.int x, .int y, .int p, .int r]), .va (.int a), .va (.int b), .own [.int l0, .int l1], .own [.int g0, .int g1], x7, .no, .no, .no, .no, .no, .no, .no, .no, .no, .no, .no, .no] ∧ (0 ≤ l0 ∧ l0 ≤ g0 ∧ g0 ≤ b) ∧ (0 ≤ l1 ∧ l1 ≤ g1 ∧ g1 ≤ a) ∧ n ≤ n1 + 4) (fun N1 hN1 => ?_) ?_
  · simp only [mFor]
    walk_at "rdn"
    simp only [forL, mgName, sset]
    refine seq_step fun N2 hN2 => ?_
    walk_at "rdn"
    refine dr (by omega) (by omega) (by omega) fun u u0 u1 => ⟨_, rfl, by decide, ?_⟩
    subst hN2
    walk_at "rdn"
    simp only [mIxOwn]
    walk_at "rdn"
    refine ⟨_, rfl, _, rfl, _, rfl, _, rfl, ?_⟩
    refine dr (by omega) (by omega) (by omega) fun w w0 w1 => ⟨_, rfl, _, rfl, by decide, ?_⟩
    refine dr (by omega) (by omega) (by omega) fun u2 u20 u21 => ⟨_, rfl, by decide, ?_⟩
    refine ⟨_, rfl, _, rfl, _, rfl, _, rfl, ?_⟩
    refine dr (by omega) (by omega) (by omega) fun w2 w20 w21 => ⟨_, rfl, _, rfl, by decide, ?_⟩
    exact hN1 _ ⟨_, u, u2, u + w, u2 + w2, _, rfl, by omega, by omega, by omega⟩
  rintro _ ⟨n1, l0, l1, g0, g1, x7, rfl, hb0, hb1, hn1⟩
  refine seq_run (fun s => ∃ x8 x9 x10 x11 x12 x13 x14 : S, s = [.well n1, .va (.tuple [.int a, .int b]), .va (.tuple [.int x, .int y, .int p, .int r]), .va (.int a), .va (.int b), .own [.int l0, .int l1], .own [.int g0, .int g1], x7, x8, x9, x10, x11, x12, x13, x14, .no, .no, .no, .no, .no]) (fun N1 hN1 => ?_) ?_
  · simp only [mFor]
    walk_at "rdn"
    refine forL_run (fun rs s => ∃ js : List Nat, rs = js.map stripD ∧ (∀ j ∈ js, j < 4) ∧ ∃ x8 x9 x10 x11 x12 x13 x14 : S, s = [.well n1, .va (.tuple [.int a, .int b]), .va (.tuple [.int x, .int y, .int p, .int r]), .va (.int a), .va (.int b), .own [.int l0, .int l1], .own [.int g0, .int g1], x7, x8, x9, x10, x11, x12, x13, x14, .no, .no, .no, .no, .no]) ?_ ?_ _ _ ⟨[0, 1, 2, 3], rfl, by decide, _, _, _, _, _, _, _, rfl⟩
    · rintro d rs s N ⟨js, hr, hj, x8, x9, x10, x11, x12, x13, x14, rfl⟩ hN
      cases js with
      | nil => cases hr
      | cons j js =>
        cases hr
        have j4 := hj j (by simp)
        have hj' := fun i h => hj i (List.mem_cons_of_mem _ h)
        have fin : ∀ x8 x9 x10 x11 x12 x13 x14 : S, N [.well n1, .va (.tuple [.int a, .int b]), .va (.tuple [.int x, .int y, .int p, .int r]), .va (.int a), .va (.int b), .own [.int l0, .int l1], .own [.int g0, .int g1], x7, x8, x9, x10, x11, x12, x13, x14, .no, .no, .no, .no, .no] := fun _ _ _ _ _ _ _ => hN _ ⟨js, rfl, hj', _, _, _, _, _, _, _, rfl⟩
        have c4 : j = 0 ∨ j = 1 ∨ j = 2 ∨ j = 3 := by omega
        have hlh : 0 ≤ pk j l0 l1 ∧ pk j l0 l1 ≤ pk j g0 g1 ∧ pk j g0 g1 ≤ (if j < 2 then b else a) := by
          unfold pk
          split <;> omega
        unfold stripD
        rw [mgTup_t]
        refine ⟨rfl, ?_⟩
        simp only [mgName, mgCons_c, mgNil_n, sset]
        refine seq_run (fun s => s = [.well n1, .va (.tuple [.int a, .int b]), .va (.tuple [.int x, .int y, .int p, .int r]), .va (.int a), .va (.int b), .own [.int l0, .int l1], .own [.int g0, .int g1], x7, .va (.str (letS j)), .va (.int (pk j 0 1)), .va (.int (cAt a b j)), x11, x12, x13, x14, .no, .no, .no, .no, .no]) (fun N1 h1 => ?_) ?_
        · rcases c4 with rfl | rfl | rfl | rfl
          · walk_at "rdn"
            refine ⟨_, rfl, _, rfl, ?_⟩
            exact h1 _ rfl
          · walk_at "rdn"
            refine ⟨_, rfl, _, rfl, ?_⟩
            exact ⟨_, rfl, h1 _ rfl⟩
          · walk_at "rdn"
            refine ⟨_, rfl, _, rfl, ?_⟩
            exact h1 _ rfl
          · walk_at "rdn"
            refine ⟨_, rfl, _, rfl, ?_⟩
            exact ⟨_, rfl, h1 _ rfl⟩
        rintro _ rfl
        refine seq_run (fun s => s = [.well n1, .va (.tuple [.int a, .int b]), .va (.tuple [.int x, .int y, .int p, .int r]), .va (.int a), .va (.int b), .own [.int l0, .int l1], .own [.int g0, .int g1], x7, .va (.str (letS j)), .va (.int (pk j 0 1)), .va (.int (cAt a b j)), .va (.list [.int (cAt a b j), .int (cAt a b j), .int (pk j l0 l1), .int (pk j g0 g1)]), x12, x13, x14, .no, .no, .no, .no, .no]) (fun N1 h1 => ?_) ?_
        · have e1 : DL.atI [PyData.int l0, .int l1] (pk j 0 1) = some (.int (pk j l0 l1)) := by rcases c4 with rfl | rfl | rfl | rfl <;> rfl
          have e2 : DL.atI [PyData.int g0, .int g1] (pk j 0 1) = some (.int (pk j g0 g1)) := by rcases c4 with rfl | rfl | rfl | rfl <;> rfl
          walk_at "rdn"
          simp only [mIxOwn]
          walk_at "rdn"
          exact ⟨_, e1, _, e2, h1 _ rfl⟩
        rintro _ rfl
        refine seq_run (fun s => s = [.well n1, .va (.tuple [.int a, .int b]), .va (.tuple [.int x, .int y, .int p, .int r]), .va (.int a), .va (.int b), .own [.int l0, .int l1], .own [.int g0, .int g1], x7, .va (.str (letS j)), .va (.int (pk j 0 1)), .va (.int (cAt a b j)), .va (stripT a b (pk j l0 l1) (pk j g0 g1) j), x12, x13, x14, .no, .no, .no, .no, .no]) (fun N1 h1 => ?_) ?_
        · rcases c4 with rfl | rfl | rfl | rfl
          · walk_at "rdn"
            exact h1 _ rfl
          · walk_at "rdn"
            exact h1 _ rfl
          · walk_at "rdn"
            exact ⟨_, rfl, _, rfl, h1 _ rfl⟩
          · walk_at "rdn"
            exact ⟨_, rfl, _, rfl, h1 _ rfl⟩
        rintro _ rfl
        have bx := strip_box (lo := pk j l0 l1) (hi := pk j g0 g1) j4 a1 b1 hlh
        generalize hL : pk j l0 l1 = lo at *
        generalize hG : pk j g0 g1 = hi at *
        have zz : ∀ {z : Int}, 0 ≤ z → (z ≤ a ∨ z ≤ b) → sz 6000 z := fun h0 h1 => sm h0 (by omega) (by decide)
        refine seq_run (fun s => ∃ c : Bool, s = [.well n1, .va (.tuple [.int a, .int b]), .va (.tuple [.int x, .int y, .int p, .int r]), .va (.int a), .va (.int b), .own [.int l0, .int l1], .own [.int g0, .int g1], x7, .va (.str (letS j)), .va (.int (pk j 0 1)), .va (.int (cAt a b j)), .va (stripT a b lo hi j), .va (.bool c), x13, x14, .no, .no, .no, .no, .no] ∧ (c = true ↔ InStrip a b x y p r lo hi j (0, 1))) (fun N1 h1 => ?_) ?_
        · unfold stripT at h1 ⊢
          walk_at "rdn"
          refine ⟨x, y, 1, _, _, _, _, by rw [fracD_one, fracD_one], by decide, sz_one _ (by decide), zz (by omega) (by omega), zz (by omega) (by omega), zz (by omega) (by omega), zz (by omega) (by omega), _, rfl, ?_⟩
          refine h1 _ ⟨_, rfl, ?_⟩
          rw [decide_eq_true_eq, Int.mul_one, Int.mul_one, Int.mul_one, Int.mul_one]
          exact (in_start a1 b1 v.x0 v.x1 v.y0 v.y1).symm
        rintro _ ⟨c, rfl, hc⟩
        have mv : DL.atI [PyData.int x, .int y, .int p, .int r] (pk j 0 1 + 2) = some (.int (pk j p r)) := by rcases c4 with rfl | rfl | rfl | rfl <;> rfl
        by_cases go : pk j p r ≠ 0 ∧ c = false
        · obtain ⟨g1', rfl⟩ := go
          refine if_run true (fun Q h => ?_) (fun _ => ?_) (fun hc => by cases hc)
          · walk_at "rdn"
            refine ⟨_, mv, _, opNe_int, _, rfl, ?_⟩
            rw [if_pos (by simp [g1'])]
            exact h
          have ns : ¬ InStrip a b x y p r lo hi j (0, 1) := fun z => by cases hc.mpr z
          have hv : (j < 2 → p ≠ 0) ∧ (2 ≤ j → r ≠ 0) := by
            unfold pk at g1'
            constructor
            · intro h; rw [if_pos h] at g1'; exact g1'
            · intro h; rw [if_neg (by omega)] at g1'; exact g1'
          refine seq_step fun N3 hN3 => ?_
          simp only [mAsg, mCall, mCons, mTup, mNil, mIxOwn, mVar, sget, sset]
          have e1 : DL.atI [PyData.int l0, .int l1] (pk j 0 1) = some (.int lo) := by rw [← hL]; rcases c4 with rfl | rfl | rfl | rfl <;> rfl
          have e2 : DL.atI [PyData.int g0, .int g1] (pk j 0 1) = some (.int hi) := by rw [← hG]; rcases c4 with rfl | rfl | rfl | rfl <;> rfl
          walk_at "rdn"
          refine ⟨_, e1, _, e2, ?_⟩
          refine str_call v2 j4 hlh fun o ho => ⟨_, rfl, ?_⟩
          subst hN3
          refine seq_run (fun s => s = [.well n1, .va (.tuple [.int a, .int b]), .va (.tuple [.int x, .int y, .int p, .int r]), .va (.int a), .va (.int b), .own [.int l0, .int l1], .own [.int g0, .int g1], x7, .va (.str (letS j)), .va (.int (pk j 0 1)), .va (.int (cAt a b j)), .va (stripT a b lo hi j), .va (.bool false), .va (optD o), .va (oT (o.map fun k => (Ls.of a b x y p r).at (k.toNat + 1))), .no, .no, .no, .no, .no]) (fun N3 h3 => ?_) ?_
          · cases o with
            | none =>
              rw [show optD none = PyData.none from rfl]
              walk_at "rdn"
              exact h3 _ rfl
            | some k =>
              have k0 : 0 ≤ k := ho.1.1
              have zk : sz 300 k := by
                have lw := lane_within R j4 ho
                have z1 := sz_mul (sz_lineVk v.zp) v.zb
                have z2 := sz_mul (sz_lineVk v.zq) v.za
                have lw : k < 2 * (lineV p * b + lineV r * a) := lw
                generalize lineV p * b = A at *
                generalize lineV r * a = B at *
                refine sz_mono (k := 60) ?_ (by decide)
                unfold sz at *
                have e : (2 : Nat) ^ (26 + 26) = 4503599627370496 := by decide
                have e2 : (2 : Nat) ^ 60 = 1152921504606846976 := by decide
                rw [e] at z1 z2
                rw [e2]
                omega
              rw [show optD (some k) = PyData.int k from rfl]
              walk_at "rdn"
              refine nth_call v2 k0 zk ⟨_, rfl, ?_⟩
              exact ⟨_, rfl, h3 _ rfl⟩
          rintro _ rfl
          refine if_run false (fun Q h => ?_) (fun hc => by cases hc) (fun _ => ?_)
          · unfold stripT at h ⊢
            walk_at "rdn"
            refine box_call v7 bx.1 bx.2 fun w hw _ => ⟨_, rfl, ?_⟩
            rw [strip_due R j4 a1 b1 v.x0 v.x1 v.y0 v.y1 hv ho hw ns]
            exact ⟨_, opNe_self (j := 2) (by decide) (oT_sd _), _, rfl, h⟩
          walk_at "rdn"
          exact fin _ _ _ _ _ _ _
        · refine if_run false (fun Q h => ?_) (fun hc => by cases hc) (fun _ => ?_)
          · walk_at "rdn"
            refine ⟨_, mv, _, opNe_int, _, rfl, ?_⟩
            by_cases g0' : pk j p r = 0
            · rw [if_neg (by simp [g0'])]
              exact h
            · rw [if_pos (by simp [g0'])]
              have : c = true := by
                cases c with
                | true => rfl
                | false => exact absurd ⟨g0', rfl⟩ go
              subst this
              exact h
          walk_at "rdn"
          exact fin _ _ _ _ _ _ _
    · rintro s ⟨js, hr, hj, x8, x9, x10, x11, x12, x13, x14, rfl⟩
      exact hN1 _ ⟨_, _, _, _, _, _, _, rfl⟩
  rintro _ ⟨x8, x9, x10, x11, x12, x13, x14, rfl⟩
  refine seq_step fun N hN => ?_
  walk_at "rdn"
  subst hN
  have cq : [PyData.tuple [.int 0, .int 0], .tuple [.int a, .int 0], .tuple [.int 0, .int b], .tuple [.int a, .int b]] = (cornersQ a b).map prP := rfl
  rw [cq]
  have rt : ∀ s : DSt, sget s 0 = .well n1 → (endW Q).rt (.va (.bool true)) s := fun s h => ⟨n1, h, q n1 (by omega)⟩
  have ct1 : cutL [PyData.int x, .int y, .int p, .int r] (some 2) none = [.int p, .int r] := rfl
  have ct2 : cutL [PyData.int x, .int y, .int p, .int r] none (some 2) = [.int x, .int y] := rfl
  refine seq_step fun N hN => ?_
  refine if_run (decide (p = 0 ∨ r = 0 ∨ (x, y) ∈ cornersQ a b)) (fun Q h => ?_) (fun _ => ?_) (fun hc => ?_)
  · walk_at "rdn"
    rw [ct1, ct2]
    refine ⟨_, opIn_two, _, rfl, ?_⟩
    by_cases h0 : p = 0 ∨ r = 0
    · rw [if_pos (by simpa using h0)]
      rw [decide_eq_true (by rcases h0 with h0 | h0 <;> simp [h0])] at h
      exact h
    · rw [if_neg (by simpa using h0)]
      refine ⟨_, opInD_pr (w := (x, y)), _, rfl, ?_⟩
      have e : decide (p = 0 ∨ r = 0 ∨ (x, y) ∈ cornersQ a b) = decide ((x, y) ∈ cornersQ a b) := decide_eq_decide.mpr ⟨fun z => by
        rcases z with z | z | z
        · exact absurd (.inl z) h0
        · exact absurd (.inr z) h0
        · exact z, fun z => .inr (.inr z)⟩
      rw [e] at h
      exact h
  · walk_at "rdn"
    exact q n1 (by omega)
  have hc := of_decide_eq_false hc
  have hp : p ≠ 0 := fun z => hc (.inl z)
  have hr : r ≠ 0 := fun z => hc (.inr (.inl z))
  have hs : (x, y) ∉ cornersQ a b := fun z => hc (.inr (.inr z))
  walk_at "rdn"
  subst hN
  refine seq_step fun N hN => ?_
  walk_at "rdn"
  refine corner_call v6 ⟨_, rfl, ?_⟩
  subst hN
  generalize hD : dueD a b x y p r = dD
  refine seq_run (fun s => ∃ bs : List (Option (Int × Int)), s = [.well n1, .va (.tuple [.int a, .int b]), .va (.tuple [.int x, .int y, .int p, .int r]), .va (.int a), .va (.int b), .own [.int l0, .int l1], .own [.int g0, .int g1], x7, x8, x9, x10, x11, x12, .va dD, x14, .va (.list ((cornersQ a b).map prP)), .va (.list (bs.map oT)), .no, .no, .no] ∧ AllT (fun (c : Int × Int) o => LeastT (InBox a b x y p r c.1 c.1 c.2 c.2) o ∧ szO 5000 o) (cornersQ a b) bs) (fun N1 h1 => ?_) ?_
  · simp only [mAsg, mLc, miSeq]
    walk_at "rdn"
    refine ⟨rfl, ?_⟩
    refine lcL_runA (fun s => ∃ x18, s = [.well n1, .va (.tuple [.int a, .int b]), .va (.tuple [.int x, .int y, .int p, .int r]), .va (.int a), .va (.int b), .own [.int l0, .int l1], .own [.int g0, .int g1], x7, x8, x9, x10, x11, x12, .va dD, x14, .va (.list ((cornersQ a b).map prP)), .no, .no, x18, .no]) (fun (c : Int × Int) o => LeastT (InBox a b x y p r c.1 c.1 c.2 c.2) o ∧ szO 5000 o) prP oT (cornersQ a b) ?_ _ [] ⟨_, rfl⟩ (by simp [cornersQ]) ?_
    · rintro c hcm s ⟨x18, rfl⟩ Y N hY
      obtain ⟨hu, hv⟩ := corners_or.mp hcm
      unfold prP
      simp only [mgName, swipe, sset, mTYes, if_true]
      walk_at "rdn"
      refine spot_call v7 (by omega) (by omega) fun o ho zo => ⟨_, rfl, ?_⟩
      exact hY o _ ⟨ho, zo⟩ ⟨_, rfl⟩
    · rintro bs s hbs ⟨x18, rfl⟩
      simp only [sback, List.nil_append]
      walk_at "rdn"
      exact h1 _ ⟨bs, rfl, hbs⟩
  rintro _ ⟨bs, rfl, hbs⟩
  have mem : ∀ o ∈ bs, ∃ c ∈ cornersQ a b, LeastT (InBox a b x y p r c.1 c.1 c.2 c.2) o ∧ szO 5000 o := by
    intro o ho
    obtain ⟨i, hi, e⟩ := List.mem_iff_getElem.mp ho
    obtain ⟨c, h1, h2⟩ := allT_get' hbs (i := i) (b := o) (by rw [List.getElem?_eq_getElem hi, e])
    exact ⟨c, List.mem_of_getElem? h1, h2⟩
  have fnd : ∀ t, some t ∈ bs → Fnd a b x y p r t := by
    intro t ht
    obtain ⟨c, hcm, ⟨t1, t0, g, m, -⟩, zo⟩ := mem _ ht
    exact spot_hit R a1 b1 v.x0 v.x1 v.y0 v.y1 hp hr hcm hs t1 t0 g m (zo t rfl).1 (zo t rfl).2
  have lb4 : bs.length = 4 := (allT_len hbs).symm
  rcases due_facts R with ⟨e, nob⟩ | ⟨k, e, both, first, kb⟩
  · rw [hD] at e
    subst e
    have rep : bs = List.replicate bs.length none := by
      refine List.eq_replicate_iff.mpr ⟨rfl, fun o ho => ?_⟩
      cases o with
      | none => rfl
      | some t =>
        have f := fnd t ho
        obtain ⟨k, e⟩ := f.row R a1 b1 hp hr
        have := nob k
        rw [e] at this
        exact absurd (f.both a1 b1 hp hr) this
    have oe := opEq_oTs bs rep
    rw [lb4] at oe
    refine seq_step fun N hN => ?_
    walk_at "rdn"
    refine ⟨.list (List.replicate 4 .none), rfl, _, oe, ?_⟩
    exact q n1 (by omega)
  · rw [hD] at e
    subst e
    have zk : sz 300 (k : Int) := by
      have z1 := sz_mul (sz_lineVk v.zp) v.zb
      have z2 := sz_mul (sz_lineVk v.zq) v.za
      have kb : (k : Int) < lineV r * a + lineV p * b := by rw [Int.mul_comm (lineV r), Int.mul_comm (lineV p)]; exact kb
      generalize lineV p * b = A at *
      generalize lineV r * a = B at *
      refine sz_mono (k := 60) ?_ (by decide)
      unfold sz at *
      have e : (2 : Nat) ^ (26 + 26) = 4503599627370496 := by decide
      have e2 : (2 : Nat) ^ 60 = 1152921504606846976 := by decide
      rw [e] at z1 z2
      rw [e2]
      omega
    have T1 := (R.gd (k + 1)).m1
    have T0 := (R.gd (k + 1)).n0
    have Tg := (R.gd (k + 1)).g
    have inT := both_spot a1 b1 T1 both
    have cm : (cornX a ((Ls.of a b x y p r).P ((Ls.of a b x y p r).at (k + 1))), cornX b ((Ls.of a b x y p r).P' ((Ls.of a b x y p r).at (k + 1)))) ∈ cornersQ a b := corners_or.mpr ⟨cornX_or _ _, cornX_or _ _⟩
    have late : ∀ t, some t ∈ bs → le ((Ls.of a b x y p r).at (k + 1)) t := fun t ht => (fnd t ht).late R a1 b1 hp hr first
    have memT : some ((Ls.of a b x y p r).at (k + 1)) ∈ bs := by
      obtain ⟨i, hi, e⟩ := List.mem_iff_getElem.mp cm
      obtain ⟨o, h1, ho, -⟩ := allT_get hbs (i := i) (by rw [List.getElem?_eq_getElem hi, e])
      have hm := List.mem_of_getElem? h1
      cases o with
      | none => exact absurd inT (ho _ T1 T0)
      | some t =>
        obtain ⟨t1, t0, g, -, l⟩ := ho
        have e1 := l _ T1 T0 inT
        have e2 := late t hm
        unfold le at e2
        have : t = (Ls.of a b x y p r).at (k + 1) := pair_eq t1 T1 g Tg (by omega)
        rw [← this]
        exact hm
    have zT : szO 6000 (some ((Ls.of a b x y p r).at (k + 1))) := by
      intro t e
      have f := fnd t (e ▸ memT)
      exact ⟨sz_mono f.z1 (by decide), sz_mono f.z2 (by decide)⟩
    refine seq_step fun N hN => ?_
    walk_at "rdn"
    subst hN
    refine seq_step fun N hN => ?_
    walk_at "rdn"
    refine nth_call v2 (by omega) zk ⟨_, rfl, ?_⟩
    rw [Int.toNat_natCast]
    refine ⟨oT (some ((Ls.of a b x y p r).at (k + 1))), rfl, ?_⟩
    generalize (Ls.of a b x y p r).at (k + 1) = T at *
    subst hN
    walk_at "rdn"
    refine ⟨_, opInD_oT, _, rfl, ?_⟩
    rw [if_pos (decide_eq_true memT)]
    refine ⟨rfl, ?_⟩
    refine lcL_run (fun s => ∃ x19, s = [.well n1, .va (.tuple [.int a, .int b]), .va (.tuple [.int x, .int y, .int p, .int r]), .va (.int a), .va (.int b), .own [.int l0, .int l1], .own [.int g0, .int g1], x7, x8, x9, x10, x11, x12, .va (.int (k : Int)), x14, .va (.list ((cornersQ a b).map prP)), .va (.list (bs.map oT)), .va (oT (some T)), .no, x19]) (fun _ => none) _ ?_ _ [] ⟨_, rfl⟩ (by rw [List.length_map, lb4]; decide) ?_
    · rintro d hd s ⟨x19, rfl⟩ Y N hY hN
      obtain ⟨o, ho, rfl⟩ := List.mem_map.mp hd
      simp only [mgName, swipe, sset]
      walk_at "rdn"
      have zo6 : szO 6000 o := fun t e => by
        obtain ⟨c, -, -, zo⟩ := mem o ho
        exact ⟨sz_mono (zo t e).1 (by decide), sz_mono (zo t e).2 (by decide)⟩
      refine ⟨some T, o, rfl, zT, zo6, _, rfl, _, rfl, ?_⟩
      have : lessO (some T) o = true := by
        cases o with
        | none => rfl
        | some t => exact decide_eq_true (late t ho)
      rw [this]
      exact hN _ rfl ⟨_, rfl⟩
    · rintro s ⟨x19, rfl⟩
      have e : ∀ l : List PyData, l.filterMap (fun _ => (none : Option PyData)) = [] := fun l => by
        induction l with
        | nil => rfl
        | cons x l ih => simpa using ih
      rw [e]
      simp only [sback]
      walk_at "rdn"
      exact ⟨_, opEq_self (j := 1) (by decide) rfl, q n1 (by omega)⟩
section
variable {P : Program} {w : World} {K : PySem.W.Frag} {mg : Str → Option Value} {base : Heap} {CN : String → Option Addr}
theorem ok__law_strips_right {f : Addr} {fd : FuncData} (F : Fun K "_law_strips_right" "_law_strips_right" s__law_strips_right f fd) (g : G K mg CN) (c__law_draw : CalW P w K mg base 1 "_law_draw" dDraw) (c__law_less : CalP P w K mg base CN 1 "_law_less" D__law_less) (c__law_within : CalP P w K mg base CN 1 "_law_within" D__law_within) (c_corner_hit : CalP P w K mg base CN 8 "corner_hit" D_corner_hit) (c_first_at : CalP P w K mg base CN 7 "first_at" D_first_at) (c_first_in_box : CalP P w K mg base CN 7 "first_in_box" D_first_in_box) (c_first_in_stretch : CalP P w K mg base CN 8 "first_in_stretch" D_first_in_stretch) (c_nth_hit : CalP P w K mg base CN 9 "nth_hit" D_nth_hit) : FnG P w K mg base 10 f fd ["well", "desk", "put"] (spW K D__law_strips_right) := by
  have sc := sc__law_strips_right
  exact fun_okW (m := m__law_strips_right) (CN := CN) F sc (by decide) len__law_strips_right (fun cdv A outer s H E C hr tk =>
    (pds_cons (pds_asg (ps_asg (dv 1) (pdg_tup rfl (gcons (dg 3 sc.nd) (gcons (dg 4 sc.nd) pdgs_nil)))))
    (pds_cons (pds_par2 (ps_par2 (i := 5) (j := 6) rfl sc.nd rfl rfl (by decide) rfl rfl (pdar_cons (pdr_lst pda_nil) (pdar_cons (pdr_lst pda_nil) pdar_nil)) rfl))
    (pds_cons (pds_for (ps_for psw rfl (pdi_seq (pd_tup (pda_cons (dv 4) (pda_cons (dv 3) pda_nil)))) (dg 7 sc.nd) (pds_cons (pds_app (ps_expr (pe_bm PySem.F.plainAttrs_list PySem.F.slot_list_append PySem.F.type_list_append mt_append (pv 5) (pa_cons (pd_callW c__law_draw hr (by decide) tk (pv 0) (pda_cons (pd_op or_add rl_add (dv 7) pd_int) pda_nil)) pa_nil))))
    (pds_one (pds_app (ps_expr (pe_bm PySem.F.plainAttrs_list PySem.F.slot_list_append PySem.F.type_list_append mt_append (pv 6) (pa_cons (pd_op or_add rl_add (pd_ixOwn (pv 5) (pd_un un_neg rl_neg pd_int)) (pd_callW c__law_draw hr (by decide) tk (pv 0) (pda_cons (pd_op or_add rl_add (pd_op op_sub rl_sub (dv 7) (pd_ixOwn (pv 5) (pd_un un_neg rl_neg pd_int))) pd_int) pda_nil))) pa_nil))))))))
    (pds_cons (pds_for (ps_for psw rfl (pdi_seq (pd_tup (pda_cons (pd_tup (pda_cons pd_str (pda_cons pd_int pda_nil))) (pda_cons (pd_tup (pda_cons pd_str (pda_cons pd_int pda_nil))) (pda_cons (pd_tup (pda_cons pd_str (pda_cons pd_int pda_nil))) (pda_cons (pd_tup (pda_cons pd_str (pda_cons pd_int pda_nil))) pda_nil)))))) (pdg_tup rfl (gcons (dg 8 sc.nd) (gcons (dg 9 sc.nd) pdgs_nil))) (pds_cons (pds_asg (ps_asg (pd_ifE (pdt_cmp or_in rl_in (dv 8) (pd_tup (pda_cons pd_str (pda_cons pd_str pda_nil))) rfl) (pd_ix ix_seq rl_ix (dv 1) (dv 9)) pd_int) (dg 10 sc.nd)))
    (pds_cons (pds_asg (ps_asg (pd_lst (pda_cons (dv 10) (pda_cons (dv 10) (pda_cons (pd_ixOwn (pv 5) (dv 9)) (pda_cons (pd_ixOwn (pv 6) (dv 9)) pda_nil))))) (dg 11 sc.nd)))
    (pds_cons (pds_asg (ps_asg (pd_tupOf g.b_tuple (pd_ifE (pdt_cmp (or_eqD (RoomG.u64 hr)) rl_eq (dv 9) pd_int (nomark _)) (dv 11) (pd_op or_add rl_add (pd_slA (dv 11) pd_int) (pd_slB (dv 11) pd_int)))) (dg 11 sc.nd)))
    (pds_cons (pds_asg (ps_asg (pd_call c__law_within hr (by decide) tk (pda_cons (pd_tup (pda_cons (pd_tup (pda_cons (pd_ix ix_seq rl_ix (dv 2) pd_int) (pda_cons pd_int pda_nil))) (pda_cons (pd_tup (pda_cons (pd_ix ix_seq rl_ix (dv 2) pd_int) (pda_cons pd_int pda_nil))) pda_nil))) (pda_cons (dv 11) pda_nil))) (dg 12 sc.nd)))
    (pds_one (pds_if (pdt_ofw (pdw_and (pdt_cmp (or_neD (RoomG.u64 hr)) rl_ne (pd_ix ix_seq rl_ix (dv 2) (pd_op or_add rl_add (dv 9) pd_int)) pd_int (nomark _)) (pdw_and1 (pdt_not (pdt_val (dv 12)))))) (pds_cons (pds_asg (ps_asg (pd_call c_first_in_stretch hr (by decide) tk (pda_cons (dv 1) (pda_cons (dv 2) (pda_cons (pd_tup (pda_cons (dv 8) (pda_cons (pd_ixOwn (pv 5) (dv 9)) (pda_cons (pd_ixOwn (pv 6) (dv 9)) pda_nil)))) pda_nil)))) (dg 13 sc.nd)))
    (pds_cons (pds_asg (ps_asg (pd_ifE (pdt_cmp op_isN rl_isN (dv 13) pd_non (nomark _)) pd_non (pd_ix ix_seq rl_ix (pd_call c_nth_hit hr (by decide) tk (pda_cons (dv 1) (pda_cons (dv 2) (pda_cons (dv 13) pda_nil)))) pd_int)) (dg 14 sc.nd)))
    (pds_one (pds_if (pdt_cmp (or_neD (RoomG.u64 hr)) rl_ne (pd_call c_first_in_box hr (by decide) tk (pda_cons (dv 1) (pda_cons (dv 2) (pda_cons (dv 11) pda_nil)))) (dv 14) (nomark _)) (pds_one (pds_ret (pdr_of pd_bl))) pds_nil)))) pds_nil))))))))
    (pds_cons (pds_asg (ps_asg (pd_lst (pda_cons (pd_tup (pda_cons pd_int (pda_cons pd_int pda_nil))) (pda_cons (pd_tup (pda_cons (dv 3) (pda_cons pd_int pda_nil))) (pda_cons (pd_tup (pda_cons pd_int (pda_cons (dv 4) pda_nil))) (pda_cons (pd_tup (pda_cons (dv 3) (pda_cons (dv 4) pda_nil))) pda_nil))))) (dg 15 sc.nd)))
    (pds_cons (pds_if (pdt_ofw (pdw_or (pdt_cmp or_in rl_in pd_int (pd_slA (dv 2) pd_int) rfl) (pdw_or1 (pdt_cmp (op_inD (RoomG.u65 hr)) rl_inD (pd_slB (dv 2) pd_int) (dv 15) rfl)))) (pds_one (pds_ret (pdr_of pd_bl))) pds_nil)
    (pds_cons (pds_asg (ps_asg (pd_call c_corner_hit hr (by decide) tk (pda_cons (dv 1) (pda_cons (dv 2) pda_nil))) (dg 13 sc.nd)))
    (pds_cons (pds_setLc (ps_setLc (i := 16) (own := [("goal", 18)]) rfl sc.nd rfl rfl rfl (pdi_seq (dv 15)) (blkOk_by (N := ["well", "desk", "put", "wide", "tall", "lows", "highs", "edge", "letter", "axis", "at", "room", "is_in", "found", "due", "corners_here", "times", "first", "goal", "one"]) (sc := (defScope s__law_strips_right)) (by decide +kernel)) (fun _ _ _ _ _ => (dgv 18 (vs := [18]) sc.nd)) (fun _ _ _ _ _ => pdts_nil) (fun _ _ _ _ _ => (pd_call c_first_at hr (by decide) takesF (pda_cons (dv 1) (pda_cons (dv 2) (pda_cons (dv 18) pda_nil)))))))
    (pds_cons (pds_if (pdt_cmp op_isN rl_isN (dv 13) pd_non (nomark _)) (pds_one (pds_ret (pdr_of (pd_cmp (or_eqD (RoomG.u64 hr)) rl_eq (dv 16) (pd_op or_mul rl_mul (pd_lst (pda_cons pd_non pda_nil)) pd_int) (nomark _))))) pds_nil)
    (pds_cons (pds_asg (ps_asg (pd_ix ix_seq rl_ix (pd_call c_nth_hit hr (by decide) tk (pda_cons (dv 1) (pda_cons (dv 2) (pda_cons (dv 13) pda_nil)))) pd_int) (dg 17 sc.nd)))
    (pds_one (pds_ret (pdr_of (pd_and (pd_cmp (op_inD (RoomG.u65 hr)) rl_inD (dv 17) (dv 16) rfl) (pd_one (pd_cmp (or_eqD (RoomG.u64 hr)) rl_eq (pd_lc (pe_lc (own := [("one", 19)]) rfl sc.nd (pdi_seq (dv 16)) (blkOk_by (N := ["well", "desk", "put", "wide", "tall", "lows", "highs", "edge", "letter", "axis", "at", "room", "is_in", "found", "due", "corners_here", "times", "first", "goal", "one"]) (sc := (defScope s__law_strips_right)) (by decide +kernel)) (fun _ _ _ _ _ => (dgv 19 (vs := [19]) sc.nd)) (fun _ _ _ _ _ => (pdts_one (pdt_not (pdt_val (pd_call c__law_less hr (by decide) takesF (pda_cons (dv 17) (pda_cons (dv 19) pda_nil))))))) (fun _ _ _ _ _ => (dv 19)))) (pd_lst pda_nil) (nomark _)))))))))))))))))) rd__law_strips_right
end
end LW
namespace LW
open PySem PySem.Spec PyProof.Rows L2 DL
def m_law : MS :=
  mSeq (mFor (miRng1 (mCons (mCallB bMax (mCons (mC (.int 3)) (mCons (mCallB bMin (mCons (mC (.int 4)) (mCons (mLenScr 0) (mNil)))) (mNil)))) (mNil))) (mgName 1) (mSeq (mAsgR 2 (mWell 0 (mVar 1)))
  (mFor (miSeq (mTup (mCons (mTup (mCons (mC (.int 15)) (mCons (mC (.int 12)) (mNil)))) (mCons (mTup (mCons (mC (.int 4)) (mCons (mC (.int 5)) (mNil)))) (mNil))))) (mgTup 2 (mgCons (mgName 3) (mgCons (mgName 4) (mgNil)))) (mSeq (mAsg (mCallW D__law_desk 2 (mCons (mVar 3) (mNil))) (mgName 5))
  (mSeq (mAsg (mCallW D__law_roll 2 (mCons (mVar 5) (mCons (mVar 4) (mNil)))) (mgName 6))
  (mSeq (mIf (mTOr (mTNot (mT (mCallW D__law_spot_right 2 (mCons (mVar 5) (mCons (mVar 6) (mNil)))))) (mTNot (mT (mCallW D__law_box_right 2 (mCons (mVar 5) (mCons (mVar 6) (mNil))))))) (mRet (mrOf (mC (.bool false)))) (mNext))
  (mIf (mTNot (mT (mCallW D__law_strips_right 2 (mCons (mVar 5) (mCons (mVar 6) (mNil)))))) (mRet (mrOf (mC (.bool false)))) (mNext))))))))
  (mRet (mrOf (mC (.bool true))))
theorem vd_roll {a b x y p q : Int} (a1 : 1 ≤ a) (b1 : 1 ≤ b) (x0 : 0 ≤ x) (x1 : x ≤ a) (y0 : 0 ≤ y) (y1 : y ≤ b) (w : p ≠ 0 ∨ q ≠ 0) (ha : a ≤ 1000) (hb : b ≤ 1000) (hp : -1000 ≤ p ∧ p ≤ 1000) (hq : -1000 ≤ q ∧ q ≤ 1000) : Vd 26 a b x y p q :=
  ⟨a1, b1, x0, x1, y0, y1, w, by unfold sz; omega, by unfold sz; omega, by unfold sz; omega, by unfold sz; omega, by unfold sz; omega, by unfold sz; omega⟩
theorem rd_law : ∀ ns : List Int, ns.length ≤ 63 → (∀ z ∈ ns, Builtin.Int.intBits z ≤ 1048576) → m_law endL (.scr ns :: List.replicate (["script", "at", "well", "size", "most", "desk", "put"].length - 1) .no) := by
  intro ns hl hb
  unfold m_law
  show mSeq _ _ _ [.scr ns, .no, .no, .no, .no, .no, .no]
  refine seq_run (fun s => ∃ x1 x2 x3 x4 x5 x6, s = [.scr ns, x1, x2, x3, x4, x5, x6]) (fun N0 h0 => ?_) ?_
  · refine at_loopB hl (by decide) (by decide) (fun s => ∃ x1 x2 x3 x4 x5 x6, s = [.scr ns, x1, x2, x3, x4, x5, x6]) ⟨_, _, _, _, _, _, rfl⟩ ?_ ?_
    · rintro j j0 j1 s N1 ⟨x1, x2, x3, x4, x5, x6, rfl⟩ hN1
      simp only [sset]
      refine seq_run (fun s => ∃ n, s = [.scr ns, .va (.int j), .well n, x3, x4, x5, x6] ∧ 2 ^ 59 + 900 ≤ n) (fun N2 h2 => ?_) ?_
      · walk_at "rdn"
        exact ⟨hl, hb, j0, j1, h2 _ ⟨_, rfl, by decide⟩⟩
      rintro _ ⟨n, rfl, hn⟩
      simp only [mFor]
      walk_at "rdn"
      refine forL_run (fun r s => (∀ d ∈ r, ∃ m c : Int, d = .tuple [.int m, .int c] ∧ 1 ≤ m ∧ m ≤ 100 ∧ 1 ≤ c ∧ c ≤ 100) ∧ ∃ n x3 x4 x5 x6, s = [.scr ns, .va (.int j), .well n, x3, x4, x5, x6] ∧ 2 ^ 59 + 100 * r.length ≤ n) ?_ ?_ _ _ ⟨?_, n, _, _, _, _, rfl, by simp; omega⟩
      · rintro d r s N' ⟨hd2, n, x3, x4, x5, x6, rfl, hn⟩ hN'
        obtain ⟨m, c, rfl, m1, m2, c1, c2⟩ := hd2 d (by simp)
        have hd2' := fun d h => hd2 d (List.mem_cons_of_mem _ h)
        simp only [List.length_cons] at hn
        rw [mgTup_t]
        refine ⟨rfl, ?_⟩
        simp only [mgName, mgCons_c, mgNil_n, sset]
        refine seq_step fun N3 hN3 => ?_
        walk_at "rdn"
        refine ⟨m, rfl, by omega, by omega, by omega, fun a b n1 hn1 a1 a2 b1 b2 => ⟨_, rfl, ?_⟩⟩
        try walk_at "rdn"
        subst hN3
        refine seq_step fun N3 hN3 => ?_
        walk_at "rdn"
        refine ⟨a, b, c, rfl, by omega, a1, by omega, b1, by omega, by omega, by omega, fun x y p q n2 hn2 x0 x1 y0 y1 hp hq hw => ⟨_, rfl, ?_⟩⟩
        try walk_at "rdn"
        subst hN3
        have v : Vd 26 a b x y p q := vd_roll a1 b1 x0 x1 y0 y1 hw (by omega) (by omega) (by omega) (by omega)
        walk_at "rdn"
        refine ⟨a, b, x, y, p, q, rfl, by omega, v, fun n3 hn3 => ⟨_, rfl, _, rfl, ?_⟩⟩
        rw [if_neg (by decide)]
        refine ⟨a, b, x, y, p, q, rfl, by omega, v, fun n4 hn4 => ⟨_, rfl, _, rfl, ?_⟩⟩
        rw [if_neg (by decide)]
        refine ⟨a, b, x, y, p, q, rfl, by omega, v, fun n5 hn5 => ⟨_, rfl, _, rfl, ?_⟩⟩
        rw [if_neg (by decide)]
        exact hN' _ ⟨hd2', _, _, _, _, _, rfl, by omega⟩
      · rintro s ⟨hd2, n, x3, x4, x5, x6, rfl, hn⟩
        exact hN1 _ ⟨_, _, _, _, _, _, rfl⟩
      · intro d hd
        simp only [List.mem_cons, List.not_mem_nil, or_false] at hd
        rcases hd with rfl | rfl
        · exact ⟨15, 12, rfl, by decide, by decide, by decide, by decide⟩
        · exact ⟨4, 5, rfl, by decide, by decide, by decide, by decide⟩
    · rintro s ⟨x1, x2, x3, x4, x5, x6, rfl⟩
      exact h0 _ ⟨_, _, _, _, _, _, rfl⟩
  · rintro _ ⟨x1, x2, x3, x4, x5, x6, rfl⟩
    walk_at "rdn"
section
variable {P : Program} {w : World} {K : PySem.W.Frag} {mg : Str → Option Value} {base : Heap} {CN : String → Option Addr}
theorem ok_law {f : Addr} {fd : FuncData} (F : Fun K "law" "law" s_law f fd) (g : G K mg CN) (c__law_box_right : CalW P w K mg base 9 "_law_box_right" D__law_box_right) (c__law_desk : CalW P w K mg base 2 "_law_desk" D__law_desk) (c__law_roll : CalW P w K mg base 2 "_law_roll" D__law_roll) (c__law_spot_right : CalW P w K mg base 9 "_law_spot_right" D__law_spot_right) (c__law_strips_right : CalW P w K mg base 10 "_law_strips_right" D__law_strips_right) (c__law_well : CalL P w K mg base 1 "_law_well") : FnG P w K mg base 11 f fd ["script"] (spL K) := by
  have sc := sc_law
  exact fun_okL (m := m_law) (CN := CN) F sc (by decide) (fun cdv A outer s H E C hw hr tk =>
    (pds_cons (pds_for (ps_for psw rfl (d_range1 g.b_range (pda_cons (pd_callB (call_max2 rfl) rc_max g.b_max (by decide +kernel) (pda_cons pd_int (pda_cons (pd_callB (call_min2 rfl) rc_min g.b_min (by decide +kernel) (pda_cons pd_int (pda_cons (pd_lenScr (x := "") g.b_len (i := 0) rfl (.inl rfl)) pda_nil))) pda_nil))) pda_nil)) (dg 1 sc.nd) (pds_cons (pds_asgR (ps_set (i := 2) sc.nd rfl (.inl rfl) (pdr_well hw c__law_well hr (by decide) tk (pv 0) (dv 1))))
    (pds_one (pds_for (ps_for psw rfl (pdi_seq (pd_tup (pda_cons (pd_tup (pda_cons pd_int (pda_cons pd_int pda_nil))) (pda_cons (pd_tup (pda_cons pd_int (pda_cons pd_int pda_nil))) pda_nil)))) (pdg_tup rfl (gcons (dg 3 sc.nd) (gcons (dg 4 sc.nd) pdgs_nil))) (pds_cons (pds_asg (ps_asg (pd_callW c__law_desk hr (by decide) tk (pv 2) (pda_cons (dv 3) pda_nil)) (dg 5 sc.nd)))
    (pds_cons (pds_asg (ps_asg (pd_callW c__law_roll hr (by decide) tk (pv 2) (pda_cons (dv 5) (pda_cons (dv 4) pda_nil))) (dg 6 sc.nd)))
    (pds_cons (pds_if (pdt_ofw (pdw_or (pdt_not (pdt_val (pd_callW c__law_spot_right hr (by decide) tk (pv 2) (pda_cons (dv 5) (pda_cons (dv 6) pda_nil))))) (pdw_or1 (pdt_not (pdt_val (pd_callW c__law_box_right hr (by decide) tk (pv 2) (pda_cons (dv 5) (pda_cons (dv 6) pda_nil)))))))) (pds_one (pds_ret (pdr_of pd_bl))) pds_nil)
    (pds_one (pds_if (pdt_not (pdt_val (pd_callW c__law_strips_right hr (by decide) tk (pv 2) (pda_cons (dv 5) (pda_cons (dv 6) pda_nil))))) (pds_one (pds_ret (pdr_of pd_bl))) pds_nil)))))))))))
    (pds_one (pds_ret (pdr_of pd_bl))))) rd_law
end
end LW
namespace LW
open PySem PySem.Spec PyProof.Rows L2 DL
theorem all_mk {l : PySem.W.OpenLaw} {w : World} {K : PySem.W.Frag} {h : Heap} {mg : Str → Option Value} {fa f1 f2 f3 f4 f5 f6 f7 f8 f9 f10 f11 f12 f13 f14 f15 f16 f17 f18 f19 f20 f21 f22 f23 f24 f25 f26 f27 f28 f29 f30 f31 f32 f33 f34 f35 f36 f37 f38 f39 f40 f41 f42 f43 f44 f45 f46 f47 f48 f49 f50 f51 f52 f53 f54 f55 f56 f57 f58 f59 f60 f61 f62 f63 f64 f65 f66 f67 C_InvalidBox C_InvalidIndex C_InvalidNumber C_InvalidShot C_InvalidSpot C_InvalidStretch C_InvalidTable C_InvalidTime C_Ball A_CUSHIONS : Addr} (X : K.In h) (G0 : h.Ns mainGlobals mg) (hfa : mg "law" = some (.ref fa))
    {od1 an1 od2 an2 od3 an3 od4 an4 od5 an5 od6 an6 od7 an7 od8 an8 od9 an9 od10 an10 od11 an11 od12 an12 od13 an13 od14 an14 od15 an15 od16 an16 od17 an17 od18 an18 od19 an19 od20 an20 od21 an21 od22 an22 od23 an23 od24 an24 od25 an25 od26 an26 od27 an27 od28 an28 od29 an29 od30 an30 od31 an31 od32 an32 od33 an33 od34 an34 od35 an35 od36 an36 od37 an37 od38 an38 od39 an39 od40 an40 od41 an41 od42 an42 od43 an43 od44 an44 od45 an45 od46 an46 od47 an47 od48 an48 od49 an49 od50 an50 od51 an51 od52 an52 od53 an53 od54 an54 od55 an55 od56 an56 od57 an57 od58 an58 od59 an59 od60 an60 od61 an61 od62 an62 od63 an63 od64 an64 od65 an65 od66 an66 od67 an67 : Option Addr} {sl1 sl2 sl3 sl4 sl5 sl6 sl7 sl8 sl9 sl10 sl11 sl12 sl13 sl14 sl15 sl16 sl17 sl18 sl19 sl20 sl21 sl22 sl23 sl24 sl25 sl26 sl27 sl28 sl29 sl30 sl31 sl32 sl33 sl34 sl35 sl36 sl37 sl38 sl39 sl40 sl41 sl42 sl43 sl44 sl45 sl46 sl47 sl48 sl49 sl50 sl51 sl52 sl53 sl54 sl55 sl56 sl57 sl58 sl59 sl60 sl61 sl62 sl63 sl64 sl65 sl66 sl67 : Array (Option Value)} {oc1 kV1 dc1 pm1 cd1 ct1 oc2 kV2 dc2 pm2 cd2 ct2 oc3 kV3 dc3 pm3 cd3 ct3 oc4 kV4 dc4 pm4 cd4 ct4 oc5 kV5 dc5 pm5 cd5 ct5 oc6 kV6 dc6 pm6 cd6 ct6 oc7 kV7 dc7 pm7 cd7 ct7 oc8 kV8 dc8 pm8 cd8 ct8 oc9 kV9 dc9 pm9 cd9 ct9 oc10 kV10 dc10 pm10 cd10 ct10 oc11 kV11 dc11 pm11 cd11 ct11 oc12 kV12 dc12 pm12 cd12 ct12 oc13 kV13 dc13 pm13 cd13 ct13 oc14 kV14 dc14 pm14 cd14 ct14 oc15 kV15 dc15 pm15 cd15 ct15 oc16 kV16 dc16 pm16 cd16 ct16 oc17 kV17 dc17 pm17 cd17 ct17 oc18 kV18 dc18 pm18 cd18 ct18 oc19 kV19 dc19 pm19 cd19 ct19 oc20 kV20 dc20 pm20 cd20 ct20 oc21 kV21 dc21 pm21 cd21 ct21 oc22 kV22 dc22 pm22 cd22 ct22 oc23 kV23 dc23 pm23 cd23 ct23 oc24 kV24 dc24 pm24 cd24 ct24 oc25 kV25 dc25 pm25 cd25 ct25 oc26 kV26 dc26 pm26 cd26 ct26 oc27 kV27 dc27 pm27 cd27 ct27 oc28 kV28 dc28 pm28 cd28 ct28 oc29 kV29 dc29 pm29 cd29 ct29 oc30 kV30 dc30 pm30 cd30 ct30 oc31 kV31 dc31 pm31 cd31 ct31 oc32 kV32 dc32 pm32 cd32 ct32 oc33 kV33 dc33 pm33 cd33 ct33 oc34 kV34 dc34 pm34 cd34 ct34 oc35 kV35 dc35 pm35 cd35 ct35 oc36 kV36 dc36 pm36 cd36 ct36 oc37 kV37 dc37 pm37 cd37 ct37 oc38 kV38 dc38 pm38 cd38 ct38 oc39 kV39 dc39 pm39 cd39 ct39 oc40 kV40 dc40 pm40 cd40 ct40 oc41 kV41 dc41 pm41 cd41 ct41 oc42 kV42 dc42 pm42 cd42 ct42 oc43 kV43 dc43 pm43 cd43 ct43 oc44 kV44 dc44 pm44 cd44 ct44 oc45 kV45 dc45 pm45 cd45 ct45 oc46 kV46 dc46 pm46 cd46 ct46 oc47 kV47 dc47 pm47 cd47 ct47 oc48 kV48 dc48 pm48 cd48 ct48 oc49 kV49 dc49 pm49 cd49 ct49 oc50 kV50 dc50 pm50 cd50 ct50 oc51 kV51 dc51 pm51 cd51 ct51 oc52 kV52 dc52 pm52 cd52 ct52 oc53 kV53 dc53 pm53 cd53 ct53 oc54 kV54 dc54 pm54 cd54 ct54 oc55 kV55 dc55 pm55 cd55 ct55 oc56 kV56 dc56 pm56 cd56 ct56 oc57 kV57 dc57 pm57 cd57 ct57 oc58 kV58 dc58 pm58 cd58 ct58 oc59 kV59 dc59 pm59 cd59 ct59 oc60 kV60 dc60 pm60 cd60 ct60 oc61 kV61 dc61 pm61 cd61 ct61 oc62 kV62 dc62 pm62 cd62 ct62 oc63 kV63 dc63 pm63 cd63 ct63 oc64 kV64 dc64 pm64 cd64 ct64 oc65 kV65 dc65 pm65 cd65 ct65 oc66 kV66 dc66 pm66 cd66 ct66 oc67 kV67 dc67 pm67 cd67 ct67 : Value}
    (o1_Ball : PySem.W.nsIn K mainGlobals "Ball" = some (some (.ref C_Ball))) (o2_Ball : PySem.W.plainGet K C_Ball Str.empty = true) (o3_Ball : PySem.W.hasDictIn K C_Ball = true) (o4_Ball : PySem.W.plainOver K C_Ball = true) (o5_Ball : PySem.W.findIn K (.ref C_Ball) "__setattr__" = some (some (.builtin "object.__setattr__")))
    (o6_Ball : PySem.W.findIn K (.ref C_Ball) "__class__" = some (some (.builtin "object.__class__"))) (o7_Ball : PySem.W.mroIn K C_Ball (.type "object") = some true) (o9_Ball : PySem.W.makesIn K C_Ball = true) (oa_Ball : PySem.W.keepIn K (.ref C_Ball) = true) (ob_Ball : PySem.W.selfFirst K C_Ball = true)
    (o8kInt_Ball : PySem.W.kitOne K (.ref C_Ball) (.type "int") = some false)
    (o8kBool_Ball : PySem.W.kitOne K (.ref C_Ball) (.type "bool") = some false)
    (o8kStr_Ball : PySem.W.kitOne K (.ref C_Ball) (.type "str") = some false)
    (o8kTup_Ball : PySem.W.kitOne K (.ref C_Ball) (.type "tuple") = some false)
    (o8kLst_Ball : PySem.W.kitOne K (.ref C_Ball) (.type "list") = some false)
    (o8kDict_Ball : PySem.W.kitOne K (.ref C_Ball) (.type "dict") = some false)
    (oc_Ball__shot : PySem.W.findIn K (.ref C_Ball) "_shot" = some none)
    (oc_Ball__table : PySem.W.findIn K (.ref C_Ball) "_table" = some none)
    (hn_ : PySem.W.specialIn K (.builtin "object.__class__") "__get__" = some (some (.builtin "getset_descriptor.__get__"))) (ht_ : PySem.W.takesIn K (.builtin "object.__class__") = some true)
    (a1 : PySem.W.nsIn K mainGlobals "is_whole" = some (some (.ref f1))) (l1 : K.lookup f1 = some ⟨oc1, od1, .func (PySem.W.fnOf "is_whole" "is_whole" (defArgs s_is_whole) (defBody s_is_whole) (defScope s_is_whole) .none kV1 dc1 pm1 an1 cd1 ct1), sl1⟩) (c1 : PySem.W.codeIn K cd1 "is_whole" = true) (k1 : PySem.W.keepIn K (.ref f1) = true)
    (a2 : PySem.W.nsIn K mainGlobals "are_whole" = some (some (.ref f2))) (l2 : K.lookup f2 = some ⟨oc2, od2, .func (PySem.W.fnOf "are_whole" "are_whole" (defArgs s_are_whole) (defBody s_are_whole) (defScope s_are_whole) .none kV2 dc2 pm2 an2 cd2 ct2), sl2⟩) (c2 : PySem.W.codeIn K cd2 "are_whole" = true) (k2 : PySem.W.keepIn K (.ref f2) = true)
    (a3 : PySem.W.nsIn K mainGlobals "fraction_of" = some (some (.ref f3))) (l3 : K.lookup f3 = some ⟨oc3, od3, .func (PySem.W.fnOf "fraction_of" "fraction_of" (defArgs s_fraction_of) (defBody s_fraction_of) (defScope s_fraction_of) .none kV3 dc3 pm3 an3 cd3 ct3), sl3⟩) (c3 : PySem.W.codeIn K cd3 "fraction_of" = true) (k3 : PySem.W.keepIn K (.ref f3) = true)
    (a4 : PySem.W.nsIn K mainGlobals "earliest" = some (some (.ref f4))) (l4 : K.lookup f4 = some ⟨oc4, od4, .func (PySem.W.fnOf "earliest" "earliest" (defArgs s_earliest) (defBody s_earliest) (defScope s_earliest) .none kV4 dc4 pm4 an4 cd4 ct4), sl4⟩) (c4 : PySem.W.codeIn K cd4 "earliest" = true) (k4 : PySem.W.keepIn K (.ref f4) = true)
    (a5 : PySem.W.nsIn K mainGlobals "_line_of" = some (some (.ref f5))) (l5 : K.lookup f5 = some ⟨oc5, od5, .func (PySem.W.fnOf "_line_of" "_line_of" (defArgs s__line_of) (defBody s__line_of) (defScope s__line_of) .none kV5 dc5 pm5 an5 cd5 ct5), sl5⟩) (c5 : PySem.W.codeIn K cd5 "_line_of" = true) (k5 : PySem.W.keepIn K (.ref f5) = true)
    (a6 : PySem.W.nsIn K mainGlobals "lines_of" = some (some (.ref f6))) (l6 : K.lookup f6 = some ⟨oc6, od6, .func (PySem.W.fnOf "lines_of" "lines_of" (defArgs s_lines_of) (defBody s_lines_of) (defScope s_lines_of) .none kV6 dc6 pm6 an6 cd6 ct6), sl6⟩) (c6 : PySem.W.codeIn K cd6 "lines_of" = true) (k6 : PySem.W.keepIn K (.ref f6) = true)
    (a7 : PySem.W.nsIn K mainGlobals "mark_from" = some (some (.ref f7))) (l7 : K.lookup f7 = some ⟨oc7, od7, .func (PySem.W.fnOf "mark_from" "mark_from" (defArgs s_mark_from) (defBody s_mark_from) (defScope s_mark_from) .none kV7 dc7 pm7 an7 cd7 ct7), sl7⟩) (c7 : PySem.W.codeIn K cd7 "mark_from" = true) (k7 : PySem.W.keepIn K (.ref f7) = true)
    (a8 : PySem.W.nsIn K mainGlobals "mark_time" = some (some (.ref f8))) (l8 : K.lookup f8 = some ⟨oc8, od8, .func (PySem.W.fnOf "mark_time" "mark_time" (defArgs s_mark_time) (defBody s_mark_time) (defScope s_mark_time) .none kV8 dc8 pm8 an8 cd8 ct8), sl8⟩) (c8 : PySem.W.codeIn K cd8 "mark_time" = true) (k8 : PySem.W.keepIn K (.ref f8) = true)
    (a9 : PySem.W.nsIn K mainGlobals "marks_passed" = some (some (.ref f9))) (l9 : K.lookup f9 = some ⟨oc9, od9, .func (PySem.W.fnOf "marks_passed" "marks_passed" (defArgs s_marks_passed) (defBody s_marks_passed) (defScope s_marks_passed) .none kV9 dc9 pm9 an9 cd9 ct9), sl9⟩) (c9 : PySem.W.codeIn K cd9 "marks_passed" = true) (k9 : PySem.W.keepIn K (.ref f9) = true)
    (a10 : PySem.W.nsIn K mainGlobals "other_at_marks" = some (some (.ref f10))) (l10 : K.lookup f10 = some ⟨oc10, od10, .func (PySem.W.fnOf "other_at_marks" "other_at_marks" (defArgs s_other_at_marks) (defBody s_other_at_marks) (defScope s_other_at_marks) .none kV10 dc10 pm10 an10 cd10 ct10), sl10⟩) (c10 : PySem.W.codeIn K cd10 "other_at_marks" = true) (k10 : PySem.W.keepIn K (.ref f10) = true)
    (a11 : PySem.W.nsIn K mainGlobals "spans" = some (some (.ref f11))) (l11 : K.lookup f11 = some ⟨oc11, od11, .func (PySem.W.fnOf "spans" "spans" (defArgs s_spans) (defBody s_spans) (defScope s_spans) .none kV11 dc11 pm11 an11 cd11 ct11), sl11⟩) (c11 : PySem.W.codeIn K cd11 "spans" = true) (k11 : PySem.W.keepIn K (.ref f11) = true)
    (a12 : PySem.W.nsIn K mainGlobals "_first_out" = some (some (.ref f12))) (l12 : K.lookup f12 = some ⟨oc12, od12, .func (PySem.W.fnOf "_first_out" "_first_out" (defArgs s__first_out) (defBody s__first_out) (defScope s__first_out) .none kV12 dc12 pm12 an12 cd12 ct12), sl12⟩) (c12 : PySem.W.codeIn K cd12 "_first_out" = true) (k12 : PySem.W.keepIn K (.ref f12) = true)
    (a13 : PySem.W.nsIn K mainGlobals "first_between" = some (some (.ref f13))) (l13 : K.lookup f13 = some ⟨oc13, od13, .func (PySem.W.fnOf "first_between" "first_between" (defArgs s_first_between) (defBody s_first_between) (defScope s_first_between) .none kV13 dc13 pm13 an13 cd13 ct13), sl13⟩) (c13 : PySem.W.codeIn K cd13 "first_between" = true) (k13 : PySem.W.keepIn K (.ref f13) = true)
    (a14 : PySem.W.nsIn K mainGlobals "first_within" = some (some (.ref f14))) (l14 : K.lookup f14 = some ⟨oc14, od14, .func (PySem.W.fnOf "first_within" "first_within" (defArgs s_first_within) (defBody s_first_within) (defScope s_first_within) .none kV14 dc14 pm14 an14 cd14 ct14), sl14⟩) (c14 : PySem.W.codeIn K cd14 "first_within" = true) (k14 : PySem.W.keepIn K (.ref f14) = true)
    (a15 : PySem.W.nsIn K mainGlobals "is_table" = some (some (.ref f15))) (l15 : K.lookup f15 = some ⟨oc15, od15, .func (PySem.W.fnOf "is_table" "is_table" (defArgs s_is_table) (defBody s_is_table) (defScope s_is_table) .none kV15 dc15 pm15 an15 cd15 ct15), sl15⟩) (c15 : PySem.W.codeIn K cd15 "is_table" = true) (k15 : PySem.W.keepIn K (.ref f15) = true)
    (a16 : PySem.W.nsIn K mainGlobals "check_table" = some (some (.ref f16))) (l16 : K.lookup f16 = some ⟨oc16, od16, .func (PySem.W.fnOf "check_table" "check_table" (defArgs s_check_table) (defBody s_check_table) (defScope s_check_table) .none kV16 dc16 pm16 an16 cd16 ct16), sl16⟩) (c16 : PySem.W.codeIn K cd16 "check_table" = true) (k16 : PySem.W.keepIn K (.ref f16) = true)
    (a17 : PySem.W.nsIn K mainGlobals "is_any_shot" = some (some (.ref f17))) (l17 : K.lookup f17 = some ⟨oc17, od17, .func (PySem.W.fnOf "is_any_shot" "is_any_shot" (defArgs s_is_any_shot) (defBody s_is_any_shot) (defScope s_is_any_shot) .none kV17 dc17 pm17 an17 cd17 ct17), sl17⟩) (c17 : PySem.W.codeIn K cd17 "is_any_shot" = true) (k17 : PySem.W.keepIn K (.ref f17) = true)
    (a18 : PySem.W.nsIn K mainGlobals "is_shot" = some (some (.ref f18))) (l18 : K.lookup f18 = some ⟨oc18, od18, .func (PySem.W.fnOf "is_shot" "is_shot" (defArgs s_is_shot) (defBody s_is_shot) (defScope s_is_shot) .none kV18 dc18 pm18 an18 cd18 ct18), sl18⟩) (c18 : PySem.W.codeIn K cd18 "is_shot" = true) (k18 : PySem.W.keepIn K (.ref f18) = true)
    (a19 : PySem.W.nsIn K mainGlobals "is_fraction" = some (some (.ref f19))) (l19 : K.lookup f19 = some ⟨oc19, od19, .func (PySem.W.fnOf "is_fraction" "is_fraction" (defArgs s_is_fraction) (defBody s_is_fraction) (defScope s_is_fraction) .none kV19 dc19 pm19 an19 cd19 ct19), sl19⟩) (c19 : PySem.W.codeIn K cd19 "is_fraction" = true) (k19 : PySem.W.keepIn K (.ref f19) = true)
    (a20 : PySem.W.nsIn K mainGlobals "check_shot" = some (some (.ref f20))) (l20 : K.lookup f20 = some ⟨oc20, od20, .func (PySem.W.fnOf "check_shot" "check_shot" (defArgs s_check_shot) (defBody s_check_shot) (defScope s_check_shot) .none kV20 dc20 pm20 an20 cd20 ct20), sl20⟩) (c20 : PySem.W.codeIn K cd20 "check_shot" = true) (k20 : PySem.W.keepIn K (.ref f20) = true)
    (a21 : PySem.W.nsIn K mainGlobals "check_time" = some (some (.ref f21))) (l21 : K.lookup f21 = some ⟨oc21, od21, .func (PySem.W.fnOf "check_time" "check_time" (defArgs s_check_time) (defBody s_check_time) (defScope s_check_time) .none kV21 dc21 pm21 an21 cd21 ct21), sl21⟩) (c21 : PySem.W.codeIn K cd21 "check_time" = true) (k21 : PySem.W.keepIn K (.ref f21) = true)
    (a22 : PySem.W.nsIn K mainGlobals "_check_all" = some (some (.ref f22))) (l22 : K.lookup f22 = some ⟨oc22, od22, .func (PySem.W.fnOf "_check_all" "_check_all" (defArgs s__check_all) (defBody s__check_all) (defScope s__check_all) .none kV22 dc22 pm22 an22 cd22 ct22), sl22⟩) (c22 : PySem.W.codeIn K cd22 "_check_all" = true) (k22 : PySem.W.keepIn K (.ref f22) = true)
    (a23 : PySem.W.nsIn K mainGlobals "_fold" = some (some (.ref f23))) (l23 : K.lookup f23 = some ⟨oc23, od23, .func (PySem.W.fnOf "_fold" "_fold" (defArgs s__fold) (defBody s__fold) (defScope s__fold) .none kV23 dc23 pm23 an23 cd23 ct23), sl23⟩) (c23 : PySem.W.codeIn K cd23 "_fold" = true) (k23 : PySem.W.keepIn K (.ref f23) = true)
    (a24 : PySem.W.nsIn K mainGlobals "_place" = some (some (.ref f24))) (l24 : K.lookup f24 = some ⟨oc24, od24, .func (PySem.W.fnOf "_place" "_place" (defArgs s__place) (defBody s__place) (defScope s__place) .none kV24 dc24 pm24 an24 cd24 ct24), sl24⟩) (c24 : PySem.W.codeIn K cd24 "_place" = true) (k24 : PySem.W.keepIn K (.ref f24) = true)
    (a25 : PySem.W.nsIn K mainGlobals "place_at" = some (some (.ref f25))) (l25 : K.lookup f25 = some ⟨oc25, od25, .func (PySem.W.fnOf "place_at" "place_at" (defArgs s_place_at) (defBody s_place_at) (defScope s_place_at) .none kV25 dc25 pm25 an25 cd25 ct25), sl25⟩) (c25 : PySem.W.codeIn K cd25 "place_at" = true) (k25 : PySem.W.keepIn K (.ref f25) = true)
    (a26 : PySem.W.nsIn K mainGlobals "_line_way" = some (some (.ref f26))) (l26 : K.lookup f26 = some ⟨oc26, od26, .func (PySem.W.fnOf "_line_way" "_line_way" (defArgs s__line_way) (defBody s__line_way) (defScope s__line_way) .none kV26 dc26 pm26 an26 cd26 ct26), sl26⟩) (c26 : PySem.W.codeIn K cd26 "_line_way" = true) (k26 : PySem.W.keepIn K (.ref f26) = true)
    (a27 : PySem.W.nsIn K mainGlobals "_way" = some (some (.ref f27))) (l27 : K.lookup f27 = some ⟨oc27, od27, .func (PySem.W.fnOf "_way" "_way" (defArgs s__way) (defBody s__way) (defScope s__way) .none kV27 dc27 pm27 an27 cd27 ct27), sl27⟩) (c27 : PySem.W.codeIn K cd27 "_way" = true) (k27 : PySem.W.keepIn K (.ref f27) = true)
    (a28 : PySem.W.nsIn K mainGlobals "shot_at" = some (some (.ref f28))) (l28 : K.lookup f28 = some ⟨oc28, od28, .func (PySem.W.fnOf "shot_at" "shot_at" (defArgs s_shot_at) (defBody s_shot_at) (defScope s_shot_at) .none kV28 dc28 pm28 an28 cd28 ct28), sl28⟩) (c28 : PySem.W.codeIn K cd28 "shot_at" = true) (k28 : PySem.W.keepIn K (.ref f28) = true)
    (a29 : PySem.W.nsIn K mainGlobals "turned" = some (some (.ref f29))) (l29 : K.lookup f29 = some ⟨oc29, od29, .func (PySem.W.fnOf "turned" "turned" (defArgs s_turned) (defBody s_turned) (defScope s_turned) .none kV29 dc29 pm29 an29 cd29 ct29), sl29⟩) (c29 : PySem.W.codeIn K cd29 "turned" = true) (k29 : PySem.W.keepIn K (.ref f29) = true)
    (a30 : PySem.W.nsIn K mainGlobals "scaled" = some (some (.ref f30))) (l30 : K.lookup f30 = some ⟨oc30, od30, .func (PySem.W.fnOf "scaled" "scaled" (defArgs s_scaled) (defBody s_scaled) (defScope s_scaled) .none kV30 dc30 pm30 an30 cd30 ct30), sl30⟩) (c30 : PySem.W.codeIn K cd30 "scaled" = true) (k30 : PySem.W.keepIn K (.ref f30) = true)
    (a31 : PySem.W.nsIn K mainGlobals "crossed" = some (some (.ref f31))) (l31 : K.lookup f31 = some ⟨oc31, od31, .func (PySem.W.fnOf "crossed" "crossed" (defArgs s_crossed) (defBody s_crossed) (defScope s_crossed) .none kV31 dc31 pm31 an31 cd31 ct31), sl31⟩) (c31 : PySem.W.codeIn K cd31 "crossed" = true) (k31 : PySem.W.keepIn K (.ref f31) = true)
    (a32 : PySem.W.nsIn K mainGlobals "_count" = some (some (.ref f32))) (l32 : K.lookup f32 = some ⟨oc32, od32, .func (PySem.W.fnOf "_count" "_count" (defArgs s__count) (defBody s__count) (defScope s__count) .none kV32 dc32 pm32 an32 cd32 ct32), sl32⟩) (c32 : PySem.W.codeIn K cd32 "_count" = true) (k32 : PySem.W.keepIn K (.ref f32) = true)
    (a33 : PySem.W.nsIn K mainGlobals "side_marks" = some (some (.ref f33))) (l33 : K.lookup f33 = some ⟨oc33, od33, .func (PySem.W.fnOf "side_marks" "side_marks" (defArgs s_side_marks) (defBody s_side_marks) (defScope s_side_marks) .none kV33 dc33 pm33 an33 cd33 ct33), sl33⟩) (c33 : PySem.W.codeIn K cd33 "side_marks" = true) (k33 : PySem.W.keepIn K (.ref f33) = true)
    (a34 : PySem.W.nsIn K mainGlobals "corner_marks" = some (some (.ref f34))) (l34 : K.lookup f34 = some ⟨oc34, od34, .func (PySem.W.fnOf "corner_marks" "corner_marks" (defArgs s_corner_marks) (defBody s_corner_marks) (defScope s_corner_marks) .none kV34 dc34 pm34 an34 cd34 ct34), sl34⟩) (c34 : PySem.W.codeIn K cd34 "corner_marks" = true) (k34 : PySem.W.keepIn K (.ref f34) = true)
    (a35 : PySem.W.nsIn K mainGlobals "_hit_marks" = some (some (.ref f35))) (l35 : K.lookup f35 = some ⟨oc35, od35, .func (PySem.W.fnOf "_hit_marks" "_hit_marks" (defArgs s__hit_marks) (defBody s__hit_marks) (defScope s__hit_marks) .none kV35 dc35 pm35 an35 cd35 ct35), sl35⟩) (c35 : PySem.W.codeIn K cd35 "_hit_marks" = true) (k35 : PySem.W.keepIn K (.ref f35) = true)
    (a36 : PySem.W.nsIn K mainGlobals "count_hits" = some (some (.ref f36))) (l36 : K.lookup f36 = some ⟨oc36, od36, .func (PySem.W.fnOf "count_hits" "count_hits" (defArgs s_count_hits) (defBody s_count_hits) (defScope s_count_hits) .none kV36 dc36 pm36 an36 cd36 ct36), sl36⟩) (c36 : PySem.W.codeIn K cd36 "count_hits" = true) (k36 : PySem.W.keepIn K (.ref f36) = true)
    (a37 : PySem.W.nsIn K mainGlobals "_time_of_count" = some (some (.ref f37))) (l37 : K.lookup f37 = some ⟨oc37, od37, .func (PySem.W.fnOf "_time_of_count" "_time_of_count" (defArgs s__time_of_count) (defBody s__time_of_count) (defScope s__time_of_count) .none kV37 dc37 pm37 an37 cd37 ct37), sl37⟩) (c37 : PySem.W.codeIn K cd37 "_time_of_count" = true) (k37 : PySem.W.keepIn K (.ref f37) = true)
    (a38 : PySem.W.nsIn K mainGlobals "_word" = some (some (.ref f38))) (l38 : K.lookup f38 = some ⟨oc38, od38, .func (PySem.W.fnOf "_word" "_word" (defArgs s__word) (defBody s__word) (defScope s__word) .none kV38 dc38 pm38 an38 cd38 ct38), sl38⟩) (c38 : PySem.W.codeIn K cd38 "_word" = true) (k38 : PySem.W.keepIn K (.ref f38) = true)
    (a39 : PySem.W.nsIn K mainGlobals "nth_hit" = some (some (.ref f39))) (l39 : K.lookup f39 = some ⟨oc39, od39, .func (PySem.W.fnOf "nth_hit" "nth_hit" (defArgs s_nth_hit) (defBody s_nth_hit) (defScope s_nth_hit) .none kV39 dc39 pm39 an39 cd39 ct39), sl39⟩) (c39 : PySem.W.codeIn K cd39 "nth_hit" = true) (k39 : PySem.W.keepIn K (.ref f39) = true)
    (a40 : PySem.W.nsIn K mainGlobals "is_cushion" = some (some (.ref f40))) (l40 : K.lookup f40 = some ⟨oc40, od40, .func (PySem.W.fnOf "is_cushion" "is_cushion" (defArgs s_is_cushion) (defBody s_is_cushion) (defScope s_is_cushion) .none kV40 dc40 pm40 an40 cd40 ct40), sl40⟩) (c40 : PySem.W.codeIn K cd40 "is_cushion" = true) (k40 : PySem.W.keepIn K (.ref f40) = true)
    (a41 : PySem.W.nsIn K mainGlobals "cushion_marks" = some (some (.ref f41))) (l41 : K.lookup f41 = some ⟨oc41, od41, .func (PySem.W.fnOf "cushion_marks" "cushion_marks" (defArgs s_cushion_marks) (defBody s_cushion_marks) (defScope s_cushion_marks) .none kV41 dc41 pm41 an41 cd41 ct41), sl41⟩) (c41 : PySem.W.codeIn K cd41 "cushion_marks" = true) (k41 : PySem.W.keepIn K (.ref f41) = true)
    (a42 : PySem.W.nsIn K mainGlobals "_question" = some (some (.ref f42))) (l42 : K.lookup f42 = some ⟨oc42, od42, .func (PySem.W.fnOf "_question" "_question" (defArgs s__question) (defBody s__question) (defScope s__question) .none kV42 dc42 pm42 an42 cd42 ct42), sl42⟩) (c42 : PySem.W.codeIn K cd42 "_question" = true) (k42 : PySem.W.keepIn K (.ref f42) = true)
    (a43 : PySem.W.nsIn K mainGlobals "_first_time" = some (some (.ref f43))) (l43 : K.lookup f43 = some ⟨oc43, od43, .func (PySem.W.fnOf "_first_time" "_first_time" (defArgs s__first_time) (defBody s__first_time) (defScope s__first_time) .none kV43 dc43 pm43 an43 cd43 ct43), sl43⟩) (c43 : PySem.W.codeIn K cd43 "_first_time" = true) (k43 : PySem.W.keepIn K (.ref f43) = true)
    (a44 : PySem.W.nsIn K mainGlobals "_entry_times" = some (some (.ref f44))) (l44 : K.lookup f44 = some ⟨oc44, od44, .func (PySem.W.fnOf "_entry_times" "_entry_times" (defArgs s__entry_times) (defBody s__entry_times) (defScope s__entry_times) .none kV44 dc44 pm44 an44 cd44 ct44), sl44⟩) (c44 : PySem.W.codeIn K cd44 "_entry_times" = true) (k44 : PySem.W.keepIn K (.ref f44) = true)
    (a45 : PySem.W.nsIn K mainGlobals "_first_inside" = some (some (.ref f45))) (l45 : K.lookup f45 = some ⟨oc45, od45, .func (PySem.W.fnOf "_first_inside" "_first_inside" (defArgs s__first_inside) (defBody s__first_inside) (defScope s__first_inside) .none kV45 dc45 pm45 an45 cd45 ct45), sl45⟩) (c45 : PySem.W.codeIn K cd45 "_first_inside" = true) (k45 : PySem.W.keepIn K (.ref f45) = true)
    (a46 : PySem.W.nsIn K mainGlobals "is_spot" = some (some (.ref f46))) (l46 : K.lookup f46 = some ⟨oc46, od46, .func (PySem.W.fnOf "is_spot" "is_spot" (defArgs s_is_spot) (defBody s_is_spot) (defScope s_is_spot) .none kV46 dc46 pm46 an46 cd46 ct46), sl46⟩) (c46 : PySem.W.codeIn K cd46 "is_spot" = true) (k46 : PySem.W.keepIn K (.ref f46) = true)
    (a47 : PySem.W.nsIn K mainGlobals "first_at" = some (some (.ref f47))) (l47 : K.lookup f47 = some ⟨oc47, od47, .func (PySem.W.fnOf "first_at" "first_at" (defArgs s_first_at) (defBody s_first_at) (defScope s_first_at) .none kV47 dc47 pm47 an47 cd47 ct47), sl47⟩) (c47 : PySem.W.codeIn K cd47 "first_at" = true) (k47 : PySem.W.keepIn K (.ref f47) = true)
    (a48 : PySem.W.nsIn K mainGlobals "_is_box" = some (some (.ref f48))) (l48 : K.lookup f48 = some ⟨oc48, od48, .func (PySem.W.fnOf "_is_box" "_is_box" (defArgs s__is_box) (defBody s__is_box) (defScope s__is_box) .none kV48 dc48 pm48 an48 cd48 ct48), sl48⟩) (c48 : PySem.W.codeIn K cd48 "_is_box" = true) (k48 : PySem.W.keepIn K (.ref f48) = true)
    (a49 : PySem.W.nsIn K mainGlobals "first_in_box" = some (some (.ref f49))) (l49 : K.lookup f49 = some ⟨oc49, od49, .func (PySem.W.fnOf "first_in_box" "first_in_box" (defArgs s_first_in_box) (defBody s_first_in_box) (defScope s_first_in_box) .none kV49 dc49 pm49 an49 cd49 ct49), sl49⟩) (c49 : PySem.W.codeIn K cd49 "first_in_box" = true) (k49 : PySem.W.keepIn K (.ref f49) = true)
    (a50 : PySem.W.nsIn K mainGlobals "_stretch_time" = some (some (.ref f50))) (l50 : K.lookup f50 = some ⟨oc50, od50, .func (PySem.W.fnOf "_stretch_time" "_stretch_time" (defArgs s__stretch_time) (defBody s__stretch_time) (defScope s__stretch_time) .none kV50 dc50 pm50 an50 cd50 ct50), sl50⟩) (c50 : PySem.W.codeIn K cd50 "_stretch_time" = true) (k50 : PySem.W.keepIn K (.ref f50) = true)
    (a51 : PySem.W.nsIn K mainGlobals "is_stretch" = some (some (.ref f51))) (l51 : K.lookup f51 = some ⟨oc51, od51, .func (PySem.W.fnOf "is_stretch" "is_stretch" (defArgs s_is_stretch) (defBody s_is_stretch) (defScope s_is_stretch) .none kV51 dc51 pm51 an51 cd51 ct51), sl51⟩) (c51 : PySem.W.codeIn K cd51 "is_stretch" = true) (k51 : PySem.W.keepIn K (.ref f51) = true)
    (a52 : PySem.W.nsIn K mainGlobals "first_in_stretch" = some (some (.ref f52))) (l52 : K.lookup f52 = some ⟨oc52, od52, .func (PySem.W.fnOf "first_in_stretch" "first_in_stretch" (defArgs s_first_in_stretch) (defBody s_first_in_stretch) (defScope s_first_in_stretch) .none kV52 dc52 pm52 an52 cd52 ct52), sl52⟩) (c52 : PySem.W.codeIn K cd52 "first_in_stretch" = true) (k52 : PySem.W.keepIn K (.ref f52) = true)
    (a53 : PySem.W.nsIn K mainGlobals "corner_hit" = some (some (.ref f53))) (l53 : K.lookup f53 = some ⟨oc53, od53, .func (PySem.W.fnOf "corner_hit" "corner_hit" (defArgs s_corner_hit) (defBody s_corner_hit) (defScope s_corner_hit) .none kV53 dc53 pm53 an53 cd53 ct53), sl53⟩) (c53 : PySem.W.codeIn K cd53 "corner_hit" = true) (k53 : PySem.W.keepIn K (.ref f53) = true)
    (a54 : PySem.W.nsIn K mainGlobals "_law_well" = some (some (.ref f54))) (l54 : K.lookup f54 = some ⟨oc54, od54, .func (PySem.W.fnOf "_law_well" "_law_well" (defArgs s__law_well) (defBody s__law_well) (defScope s__law_well) .none kV54 dc54 pm54 an54 cd54 ct54), sl54⟩) (c54 : PySem.W.codeIn K cd54 "_law_well" = true) (k54 : PySem.W.keepIn K (.ref f54) = true)
    (a55 : PySem.W.nsIn K mainGlobals "_law_draw" = some (some (.ref f55))) (l55 : K.lookup f55 = some ⟨oc55, od55, .func (PySem.W.fnOf "_law_draw" "_law_draw" (defArgs s__law_draw) (defBody s__law_draw) (defScope s__law_draw) .none kV55 dc55 pm55 an55 cd55 ct55), sl55⟩) (c55 : PySem.W.codeIn K cd55 "_law_draw" = true) (k55 : PySem.W.keepIn K (.ref f55) = true)
    (a56 : PySem.W.nsIn K mainGlobals "_law_desk" = some (some (.ref f56))) (l56 : K.lookup f56 = some ⟨oc56, od56, .func (PySem.W.fnOf "_law_desk" "_law_desk" (defArgs s__law_desk) (defBody s__law_desk) (defScope s__law_desk) .none kV56 dc56 pm56 an56 cd56 ct56), sl56⟩) (c56 : PySem.W.codeIn K cd56 "_law_desk" = true) (k56 : PySem.W.keepIn K (.ref f56) = true)
    (a57 : PySem.W.nsIn K mainGlobals "_law_roll" = some (some (.ref f57))) (l57 : K.lookup f57 = some ⟨oc57, od57, .func (PySem.W.fnOf "_law_roll" "_law_roll" (defArgs s__law_roll) (defBody s__law_roll) (defScope s__law_roll) .none kV57 dc57 pm57 an57 cd57 ct57), sl57⟩) (c57 : PySem.W.codeIn K cd57 "_law_roll" = true) (k57 : PySem.W.keepIn K (.ref f57) = true)
    (a58 : PySem.W.nsIn K mainGlobals "_law_low" = some (some (.ref f58))) (l58 : K.lookup f58 = some ⟨oc58, od58, .func (PySem.W.fnOf "_law_low" "_law_low" (defArgs s__law_low) (defBody s__law_low) (defScope s__law_low) .none kV58 dc58 pm58 an58 cd58 ct58), sl58⟩) (c58 : PySem.W.codeIn K cd58 "_law_low" = true) (k58 : PySem.W.keepIn K (.ref f58) = true)
    (a59 : PySem.W.nsIn K mainGlobals "_law_edges" = some (some (.ref f59))) (l59 : K.lookup f59 = some ⟨oc59, od59, .func (PySem.W.fnOf "_law_edges" "_law_edges" (defArgs s__law_edges) (defBody s__law_edges) (defScope s__law_edges) .none kV59 dc59 pm59 an59 cd59 ct59), sl59⟩) (c59 : PySem.W.codeIn K cd59 "_law_edges" = true) (k59 : PySem.W.keepIn K (.ref f59) = true)
    (a60 : PySem.W.nsIn K mainGlobals "_law_within" = some (some (.ref f60))) (l60 : K.lookup f60 = some ⟨oc60, od60, .func (PySem.W.fnOf "_law_within" "_law_within" (defArgs s__law_within) (defBody s__law_within) (defScope s__law_within) .none kV60 dc60 pm60 an60 cd60 ct60), sl60⟩) (c60 : PySem.W.codeIn K cd60 "_law_within" = true) (k60 : PySem.W.keepIn K (.ref f60) = true)
    (a61 : PySem.W.nsIn K mainGlobals "_law_less" = some (some (.ref f61))) (l61 : K.lookup f61 = some ⟨oc61, od61, .func (PySem.W.fnOf "_law_less" "_law_less" (defArgs s__law_less) (defBody s__law_less) (defScope s__law_less) .none kV61 dc61 pm61 an61 cd61 ct61), sl61⟩) (c61 : PySem.W.codeIn K cd61 "_law_less" = true) (k61 : PySem.W.keepIn K (.ref f61) = true)
    (a62 : PySem.W.findIn K (.ref C_Ball) "__contains__" = some (some (.ref f62))) (n62 : PySem.W.isFn K (.ref f62) = true) (l62 : K.lookup f62 = some ⟨oc62, od62, .func (PySem.W.fnOf "__contains__" "Ball.__contains__" (defArgs s_Ball_contains) (defBody s_Ball_contains) (defScope s_Ball_contains) .none kV62 dc62 pm62 an62 cd62 ct62), sl62⟩) (c62 : PySem.W.codeIn K cd62 "Ball.__contains__" = true) (k62 : PySem.W.keepIn K (.ref f62) = true)
    (a63 : PySem.W.findIn K (.ref C_Ball) "__init__" = some (some (.ref f63))) (n63 : PySem.W.isFn K (.ref f63) = true) (l63 : K.lookup f63 = some ⟨oc63, od63, .func (PySem.W.fnOf "__init__" "Ball.__init__" (defArgs s_Ball_init) (defBody s_Ball_init) (defScope s_Ball_init) .none kV63 dc63 pm63 an63 cd63 ct63), sl63⟩) (c63 : PySem.W.codeIn K cd63 "Ball.__init__" = true) (k63 : PySem.W.keepIn K (.ref f63) = true)
    (a64 : PySem.W.nsIn K mainGlobals "_law_spot_right" = some (some (.ref f64))) (l64 : K.lookup f64 = some ⟨oc64, od64, .func (PySem.W.fnOf "_law_spot_right" "_law_spot_right" (defArgs s__law_spot_right) (defBody s__law_spot_right) (defScope s__law_spot_right) .none kV64 dc64 pm64 an64 cd64 ct64), sl64⟩) (c64 : PySem.W.codeIn K cd64 "_law_spot_right" = true) (k64 : PySem.W.keepIn K (.ref f64) = true)
    (a65 : PySem.W.nsIn K mainGlobals "_law_box_right" = some (some (.ref f65))) (l65 : K.lookup f65 = some ⟨oc65, od65, .func (PySem.W.fnOf "_law_box_right" "_law_box_right" (defArgs s__law_box_right) (defBody s__law_box_right) (defScope s__law_box_right) .none kV65 dc65 pm65 an65 cd65 ct65), sl65⟩) (c65 : PySem.W.codeIn K cd65 "_law_box_right" = true) (k65 : PySem.W.keepIn K (.ref f65) = true)
    (a66 : PySem.W.nsIn K mainGlobals "_law_strips_right" = some (some (.ref f66))) (l66 : K.lookup f66 = some ⟨oc66, od66, .func (PySem.W.fnOf "_law_strips_right" "_law_strips_right" (defArgs s__law_strips_right) (defBody s__law_strips_right) (defScope s__law_strips_right) .none kV66 dc66 pm66 an66 cd66 ct66), sl66⟩) (c66 : PySem.W.codeIn K cd66 "_law_strips_right" = true) (k66 : PySem.W.keepIn K (.ref f66) = true)
    (a67 : PySem.W.nsIn K mainGlobals "law" = some (some (.ref f67))) (l67 : K.lookup f67 = some ⟨oc67, od67, .func (PySem.W.fnOf "law" "law" (defArgs s_law) (defBody s_law) (defScope s_law) .none kV67 dc67 pm67 an67 cd67 ct67), sl67⟩) (c67 : PySem.W.codeIn K cd67 "law" = true) (k67 : PySem.W.keepIn K (.ref f67) = true)
    (z_abs : PySem.W.nsIn K mainGlobals "abs" = some none)
    (z_all : PySem.W.nsIn K mainGlobals "all" = some none)
    (z_bool : PySem.W.nsIn K mainGlobals "bool" = some none)
    (z_enumerate : PySem.W.nsIn K mainGlobals "enumerate" = some none)
    (z_gcd : PySem.W.nsIn K mainGlobals "gcd" = some (some (.builtin "math.gcd")))
    (z_int : PySem.W.nsIn K mainGlobals "int" = some none)
    (z_isinstance : PySem.W.nsIn K mainGlobals "isinstance" = some none)
    (z_len : PySem.W.nsIn K mainGlobals "len" = some none)
    (z_max : PySem.W.nsIn K mainGlobals "max" = some none)
    (z_min : PySem.W.nsIn K mainGlobals "min" = some none)
    (z_range : PySem.W.nsIn K mainGlobals "range" = some none)
    (z_reversed : PySem.W.nsIn K mainGlobals "reversed" = some none)
    (z_str : PySem.W.nsIn K mainGlobals "str" = some none)
    (z_sum : PySem.W.nsIn K mainGlobals "sum" = some none)
    (z_tuple : PySem.W.nsIn K mainGlobals "tuple" = some none)
    (g1_CUSHIONS : PySem.W.nsIn K mainGlobals "CUSHIONS" = some (some (.ref A_CUSHIONS)))
    {T_CUSHIONS_0_0 : Tok} {T_CUSHIONS_0_1 : Tok} {T_CUSHIONS_0_2 : Tok} {T_CUSHIONS_0_3 : Tok} {N_CUSHIONS_0 : Nat} {S_CUSHIONS_0 : Array (Option Value)} (g2_CUSHIONS_0 : K.lookup A_CUSHIONS = some ⟨.type "tuple", none, .seq #[.str "W" T_CUSHIONS_0_0, .str "E" T_CUSHIONS_0_1, .str "S" T_CUSHIONS_0_2, .str "N" T_CUSHIONS_0_3] N_CUSHIONS_0, S_CUSHIONS_0⟩)
    (x1_InvalidBox : PySem.W.nsIn K mainGlobals "InvalidBox" = some (some (.ref C_InvalidBox))) (x2_InvalidBox : PySem.W.excIn K C_InvalidBox [.type "ValueError", .type "Exception", .type "BaseException", .type "object"] "ValueError.__new__" = true) (x3_InvalidBox : PySem.W.keepIn K (.ref C_InvalidBox) = true)
    (x4_InvalidBox : PySem.W.subIn K (.ref C_InvalidBox) (.type "BaseException") = some true) (x5_InvalidBox : PySem.W.typeIn K (.ref C_InvalidBox) = some (.type "type"))
    (x1_InvalidIndex : PySem.W.nsIn K mainGlobals "InvalidIndex" = some (some (.ref C_InvalidIndex))) (x2_InvalidIndex : PySem.W.excIn K C_InvalidIndex [.type "ValueError", .type "Exception", .type "BaseException", .type "object"] "ValueError.__new__" = true) (x3_InvalidIndex : PySem.W.keepIn K (.ref C_InvalidIndex) = true)
    (x4_InvalidIndex : PySem.W.subIn K (.ref C_InvalidIndex) (.type "BaseException") = some true) (x5_InvalidIndex : PySem.W.typeIn K (.ref C_InvalidIndex) = some (.type "type"))
    (x1_InvalidNumber : PySem.W.nsIn K mainGlobals "InvalidNumber" = some (some (.ref C_InvalidNumber))) (x2_InvalidNumber : PySem.W.excIn K C_InvalidNumber [.type "ValueError", .type "Exception", .type "BaseException", .type "object"] "ValueError.__new__" = true) (x3_InvalidNumber : PySem.W.keepIn K (.ref C_InvalidNumber) = true)
    (x4_InvalidNumber : PySem.W.subIn K (.ref C_InvalidNumber) (.type "BaseException") = some true) (x5_InvalidNumber : PySem.W.typeIn K (.ref C_InvalidNumber) = some (.type "type"))
    (x1_InvalidShot : PySem.W.nsIn K mainGlobals "InvalidShot" = some (some (.ref C_InvalidShot))) (x2_InvalidShot : PySem.W.excIn K C_InvalidShot [.type "ValueError", .type "Exception", .type "BaseException", .type "object"] "ValueError.__new__" = true) (x3_InvalidShot : PySem.W.keepIn K (.ref C_InvalidShot) = true)
    (x4_InvalidShot : PySem.W.subIn K (.ref C_InvalidShot) (.type "BaseException") = some true) (x5_InvalidShot : PySem.W.typeIn K (.ref C_InvalidShot) = some (.type "type"))
    (x1_InvalidSpot : PySem.W.nsIn K mainGlobals "InvalidSpot" = some (some (.ref C_InvalidSpot))) (x2_InvalidSpot : PySem.W.excIn K C_InvalidSpot [.type "ValueError", .type "Exception", .type "BaseException", .type "object"] "ValueError.__new__" = true) (x3_InvalidSpot : PySem.W.keepIn K (.ref C_InvalidSpot) = true)
    (x4_InvalidSpot : PySem.W.subIn K (.ref C_InvalidSpot) (.type "BaseException") = some true) (x5_InvalidSpot : PySem.W.typeIn K (.ref C_InvalidSpot) = some (.type "type"))
    (x1_InvalidStretch : PySem.W.nsIn K mainGlobals "InvalidStretch" = some (some (.ref C_InvalidStretch))) (x2_InvalidStretch : PySem.W.excIn K C_InvalidStretch [.type "ValueError", .type "Exception", .type "BaseException", .type "object"] "ValueError.__new__" = true) (x3_InvalidStretch : PySem.W.keepIn K (.ref C_InvalidStretch) = true)
    (x4_InvalidStretch : PySem.W.subIn K (.ref C_InvalidStretch) (.type "BaseException") = some true) (x5_InvalidStretch : PySem.W.typeIn K (.ref C_InvalidStretch) = some (.type "type"))
    (x1_InvalidTable : PySem.W.nsIn K mainGlobals "InvalidTable" = some (some (.ref C_InvalidTable))) (x2_InvalidTable : PySem.W.excIn K C_InvalidTable [.type "ValueError", .type "Exception", .type "BaseException", .type "object"] "ValueError.__new__" = true) (x3_InvalidTable : PySem.W.keepIn K (.ref C_InvalidTable) = true)
    (x4_InvalidTable : PySem.W.subIn K (.ref C_InvalidTable) (.type "BaseException") = some true) (x5_InvalidTable : PySem.W.typeIn K (.ref C_InvalidTable) = some (.type "type"))
    (x1_InvalidTime : PySem.W.nsIn K mainGlobals "InvalidTime" = some (some (.ref C_InvalidTime))) (x2_InvalidTime : PySem.W.excIn K C_InvalidTime [.type "ValueError", .type "Exception", .type "BaseException", .type "object"] "ValueError.__new__" = true) (x3_InvalidTime : PySem.W.keepIn K (.ref C_InvalidTime) = true)
    (x4_InvalidTime : PySem.W.subIn K (.ref C_InvalidTime) (.type "BaseException") = some true) (x5_InvalidTime : PySem.W.typeIn K (.ref C_InvalidTime) = some (.type "type"))
    : ∃ fd : FuncData, (∀ (s : Shared) (u : Value), BindsTo s fd ⟨[u], []⟩ [("script", u)]) ∧ ∀ base : Heap, K.In base → base.Ns mainGlobals mg → FnG l.prog w K mg base 11 fa fd ["script"] (spL K) := by
  have e := hfa.symm.trans (PySem.W.mg_of X G0 a67)
  cases e
  let CN : String → Option Addr := fun s => if s = "InvalidBox" then some C_InvalidBox else if s = "InvalidIndex" then some C_InvalidIndex else if s = "InvalidNumber" then some C_InvalidNumber else if s = "InvalidShot" then some C_InvalidShot else if s = "InvalidSpot" then some C_InvalidSpot else if s = "InvalidStretch" then some C_InvalidStretch else if s = "InvalidTable" then some C_InvalidTable else if s = "InvalidTime" then some C_InvalidTime else none
  have oc_Ball : ObjC K "Ball" C_Ball := ⟨o1_Ball, ⟨o2_Ball, o3_Ball, o4_Ball, o5_Ball⟩, o6_Ball, hn_, ht_, o7_Ball, fun k => match k with | .kInt => o8kInt_Ball | .kBool => o8kBool_Ball | .kStr => o8kStr_Ball | .kTup => o8kTup_Ball | .kLst => o8kLst_Ball | .kDict => o8kDict_Ball⟩
  have u_Ball : ∀ Cc, ObjC K "Ball" Cc → C_Ball = Cc := fun Cc h => oc_Ball.uniq h
  have g : G K mg CN := {
    sf_Ball := fun Cc h => (u_Ball Cc h) ▸ ob_Ball,
    na_Ball__shot := fun Cc h => (u_Ball Cc h) ▸ oc_Ball__shot,
    na_Ball__table := fun Cc h => (u_Ball Cc h) ▸ oc_Ball__table,
    b_abs := PySem.W.mg_none_of X G0 z_abs,
    b_all := PySem.W.mg_none_of X G0 z_all,
    b_bool := PySem.W.mg_none_of X G0 z_bool,
    b_enumerate := PySem.W.mg_none_of X G0 z_enumerate,
    b_gcd := PySem.W.mg_of X G0 z_gcd,
    b_int := PySem.W.mg_none_of X G0 z_int,
    b_isinstance := PySem.W.mg_none_of X G0 z_isinstance,
    b_len := PySem.W.mg_none_of X G0 z_len,
    b_max := PySem.W.mg_none_of X G0 z_max,
    b_min := PySem.W.mg_none_of X G0 z_min,
    b_range := PySem.W.mg_none_of X G0 z_range,
    b_reversed := PySem.W.mg_none_of X G0 z_reversed,
    b_str := PySem.W.mg_none_of X G0 z_str,
    b_sum := PySem.W.mg_none_of X G0 z_sum,
    b_tuple := PySem.W.mg_none_of X G0 z_tuple,
    gl_CUSHIONS := ⟨_, PySem.W.mg_of X G0 g1_CUSHIONS, by simp only [cstOk, g2_CUSHIONS_0]; rfl⟩,
    x_InvalidBox := ⟨C_InvalidBox, by simp [CN], ⟨PySem.W.mg_of X G0 x1_InvalidBox, x2_InvalidBox, x3_InvalidBox, x4_InvalidBox, x5_InvalidBox⟩⟩,
    x_InvalidIndex := ⟨C_InvalidIndex, by simp [CN], ⟨PySem.W.mg_of X G0 x1_InvalidIndex, x2_InvalidIndex, x3_InvalidIndex, x4_InvalidIndex, x5_InvalidIndex⟩⟩,
    x_InvalidNumber := ⟨C_InvalidNumber, by simp [CN], ⟨PySem.W.mg_of X G0 x1_InvalidNumber, x2_InvalidNumber, x3_InvalidNumber, x4_InvalidNumber, x5_InvalidNumber⟩⟩,
    x_InvalidShot := ⟨C_InvalidShot, by simp [CN], ⟨PySem.W.mg_of X G0 x1_InvalidShot, x2_InvalidShot, x3_InvalidShot, x4_InvalidShot, x5_InvalidShot⟩⟩,
    x_InvalidSpot := ⟨C_InvalidSpot, by simp [CN], ⟨PySem.W.mg_of X G0 x1_InvalidSpot, x2_InvalidSpot, x3_InvalidSpot, x4_InvalidSpot, x5_InvalidSpot⟩⟩,
    x_InvalidStretch := ⟨C_InvalidStretch, by simp [CN], ⟨PySem.W.mg_of X G0 x1_InvalidStretch, x2_InvalidStretch, x3_InvalidStretch, x4_InvalidStretch, x5_InvalidStretch⟩⟩,
    x_InvalidTable := ⟨C_InvalidTable, by simp [CN], ⟨PySem.W.mg_of X G0 x1_InvalidTable, x2_InvalidTable, x3_InvalidTable, x4_InvalidTable, x5_InvalidTable⟩⟩,
    x_InvalidTime := ⟨C_InvalidTime, by simp [CN], ⟨PySem.W.mg_of X G0 x1_InvalidTime, x2_InvalidTime, x3_InvalidTime, x4_InvalidTime, x5_InvalidTime⟩⟩ }
  have F1 := fun_mk (st := s_is_whole) l1 c1 k1
  have b1 := F1.binds (ps := ["value"]) fun _ _ _ _ _ _ us hl => match us, hl with | [_], _ => rfl
  have F2 := fun_mk (st := s_are_whole) l2 c2 k2
  have b2 := F2.binds (ps := ["value", "many"]) fun _ _ _ _ _ _ us hl => match us, hl with | [_, _], _ => rfl
  have F3 := fun_mk (st := s_fraction_of) l3 c3 k3
  have b3 := F3.binds (ps := ["top", "bottom"]) fun _ _ _ _ _ _ us hl => match us, hl with | [_, _], _ => rfl
  have F4 := fun_mk (st := s_earliest) l4 c4 k4
  have b4 := F4.binds (ps := ["times"]) fun _ _ _ _ _ _ us hl => match us, hl with | [_], _ => rfl
  have F5 := fun_mk (st := s__line_of) l5 c5 k5
  have b5 := F5.binds (ps := ["side", "start", "speed"]) fun _ _ _ _ _ _ us hl => match us, hl with | [_, _, _], _ => rfl
  have F6 := fun_mk (st := s_lines_of) l6 c6 k6
  have b6 := F6.binds (ps := ["table", "shot"]) fun _ _ _ _ _ _ us hl => match us, hl with | [_, _], _ => rfl
  have F7 := fun_mk (st := s_mark_from) l7 c7 k7
  have b7 := F7.binds (ps := ["number", "rest", "step"]) fun _ _ _ _ _ _ us hl => match us, hl with | [_, _, _], _ => rfl
  have F8 := fun_mk (st := s_mark_time) l8 c8 k8
  have b8 := F8.binds (ps := ["line", "mark"]) fun _ _ _ _ _ _ us hl => match us, hl with | [_, _], _ => rfl
  have F9 := fun_mk (st := s_marks_passed) l9 c9 k9
  have b9 := F9.binds (ps := ["line", "first", "step", "time"]) fun _ _ _ _ _ _ us hl => match us, hl with | [_, _, _, _], _ => rfl
  have F10 := fun_mk (st := s_other_at_marks) l10 c10 k10
  have b10 := F10.binds (ps := ["line", "first", "step", "other"]) fun _ _ _ _ _ _ us hl => match us, hl with | [_, _, _, _], _ => rfl
  have F11 := fun_mk (st := s_spans) l11 c11 k11
  have b11 := F11.binds (ps := ["low", "high", "side"]) fun _ _ _ _ _ _ us hl => match us, hl with | [_, _, _], _ => rfl
  have F12 := fun_mk (st := s__first_out) l12 c12 k12
  have b12 := F12.binds (ps := ["lower", "upper"]) fun _ _ _ _ _ _ us hl => match us, hl with | [_, _], _ => rfl
  have F13 := fun_mk (st := s_first_between) l13 c13 k13
  have b13 := F13.binds (ps := ["lower", "upper"]) fun _ _ _ _ _ _ us hl => match us, hl with | [_, _], _ => rfl
  have F14 := fun_mk (st := s_first_within) l14 c14 k14
  have b14 := F14.binds (ps := ["grow", "begin", "circle", "low", "high"]) fun _ _ _ _ _ _ us hl => match us, hl with | [_, _, _, _, _], _ => rfl
  have F15 := fun_mk (st := s_is_table) l15 c15 k15
  have b15 := F15.binds (ps := ["value"]) fun _ _ _ _ _ _ us hl => match us, hl with | [_], _ => rfl
  have F16 := fun_mk (st := s_check_table) l16 c16 k16
  have b16 := F16.binds (ps := ["table"]) fun _ _ _ _ _ _ us hl => match us, hl with | [_], _ => rfl
  have F17 := fun_mk (st := s_is_any_shot) l17 c17 k17
  have b17 := F17.binds (ps := ["value"]) fun _ _ _ _ _ _ us hl => match us, hl with | [_], _ => rfl
  have F18 := fun_mk (st := s_is_shot) l18 c18 k18
  have b18 := F18.binds (ps := ["table", "value"]) fun _ _ _ _ _ _ us hl => match us, hl with | [_, _], _ => rfl
  have F19 := fun_mk (st := s_is_fraction) l19 c19 k19
  have b19 := F19.binds (ps := ["value"]) fun _ _ _ _ _ _ us hl => match us, hl with | [_], _ => rfl
  have F20 := fun_mk (st := s_check_shot) l20 c20 k20
  have b20 := F20.binds (ps := ["table", "shot"]) fun _ _ _ _ _ _ us hl => match us, hl with | [_, _], _ => rfl
  have F21 := fun_mk (st := s_check_time) l21 c21 k21
  have b21 := F21.binds (ps := ["time"]) fun _ _ _ _ _ _ us hl => match us, hl with | [_], _ => rfl
  have F22 := fun_mk (st := s__check_all) l22 c22 k22
  have b22 := F22.binds (ps := ["table", "shot", "time"]) fun _ _ _ _ _ _ us hl => match us, hl with | [_, _, _], _ => rfl
  have F23 := fun_mk (st := s__fold) l23 c23 k23
  have b23 := F23.binds (ps := ["side", "number"]) fun _ _ _ _ _ _ us hl => match us, hl with | [_, _], _ => rfl
  have F24 := fun_mk (st := s__place) l24 c24 k24
  have b24 := F24.binds (ps := ["table", "shot", "time"]) fun _ _ _ _ _ _ us hl => match us, hl with | [_, _, _], _ => rfl
  have F25 := fun_mk (st := s_place_at) l25 c25 k25
  have b25 := F25.binds (ps := ["table", "shot", "time"]) fun _ _ _ _ _ _ us hl => match us, hl with | [_, _, _], _ => rfl
  have F26 := fun_mk (st := s__line_way) l26 c26 k26
  have b26 := F26.binds (ps := ["line", "time"]) fun _ _ _ _ _ _ us hl => match us, hl with | [_, _], _ => rfl
  have F27 := fun_mk (st := s__way) l27 c27 k27
  have b27 := F27.binds (ps := ["table", "shot", "time"]) fun _ _ _ _ _ _ us hl => match us, hl with | [_, _, _], _ => rfl
  have F28 := fun_mk (st := s_shot_at) l28 c28 k28
  have b28 := F28.binds (ps := ["table", "shot", "time"]) fun _ _ _ _ _ _ us hl => match us, hl with | [_, _, _], _ => rfl
  have F29 := fun_mk (st := s_turned) l29 c29 k29
  have b29 := F29.binds (ps := ["shot"]) fun _ _ _ _ _ _ us hl => match us, hl with | [_], _ => rfl
  have F30 := fun_mk (st := s_scaled) l30 c30 k30
  have b30 := F30.binds (ps := ["table", "shot", "many"]) fun _ _ _ _ _ _ us hl => match us, hl with | [_, _, _], _ => rfl
  have F31 := fun_mk (st := s_crossed) l31 c31 k31
  have b31 := F31.binds (ps := ["table", "shot"]) fun _ _ _ _ _ _ us hl => match us, hl with | [_, _], _ => rfl
  have F32 := fun_mk (st := s__count) l32 c32 k32
  have b32 := F32.binds (ps := ["marks", "time"]) fun _ _ _ _ _ _ us hl => match us, hl with | [_, _], _ => rfl
  have F33 := fun_mk (st := s_side_marks) l33 c33 k33
  have b33 := F33.binds (ps := ["line"]) fun _ _ _ _ _ _ us hl => match us, hl with | [_], _ => rfl
  have F34 := fun_mk (st := s_corner_marks) l34 c34 k34
  have b34 := F34.binds (ps := ["lines"]) fun _ _ _ _ _ _ us hl => match us, hl with | [_], _ => rfl
  have F35 := fun_mk (st := s__hit_marks) l35 c35 k35
  have b35 := F35.binds (ps := ["lines"]) fun _ _ _ _ _ _ us hl => match us, hl with | [_], _ => rfl
  have F36 := fun_mk (st := s_count_hits) l36 c36 k36
  have b36 := F36.binds (ps := ["table", "shot", "time"]) fun _ _ _ _ _ _ us hl => match us, hl with | [_, _, _], _ => rfl
  have F37 := fun_mk (st := s__time_of_count) l37 c37 k37
  have b37 := F37.binds (ps := ["marks", "line", "many"]) fun _ _ _ _ _ _ us hl => match us, hl with | [_, _, _], _ => rfl
  have F38 := fun_mk (st := s__word) l38 c38 k38
  have b38 := F38.binds (ps := ["lines", "time"]) fun _ _ _ _ _ _ us hl => match us, hl with | [_, _], _ => rfl
  have F39 := fun_mk (st := s_nth_hit) l39 c39 k39
  have b39 := F39.binds (ps := ["table", "shot", "index"]) fun _ _ _ _ _ _ us hl => match us, hl with | [_, _, _], _ => rfl
  have F40 := fun_mk (st := s_is_cushion) l40 c40 k40
  have b40 := F40.binds (ps := ["value"]) fun _ _ _ _ _ _ us hl => match us, hl with | [_], _ => rfl
  have F41 := fun_mk (st := s_cushion_marks) l41 c41 k41
  have b41 := F41.binds (ps := ["lines", "cushion"]) fun _ _ _ _ _ _ us hl => match us, hl with | [_, _], _ => rfl
  have F42 := fun_mk (st := s__question) l42 c42 k42
  have b42 := F42.binds (ps := ["line", "first", "other", "low", "high"]) fun _ _ _ _ _ _ us hl => match us, hl with | [_, _, _, _, _], _ => rfl
  have F43 := fun_mk (st := s__first_time) l43 c43 k43
  have b43 := F43.binds (ps := ["line", "first", "other", "low", "high"]) fun _ _ _ _ _ _ us hl => match us, hl with | [_, _, _, _, _], _ => rfl
  have F44 := fun_mk (st := s__entry_times) l44 c44 k44
  have b44 := F44.binds (ps := ["line", "least", "greatest", "other", "low", "high"]) fun _ _ _ _ _ _ us hl => match us, hl with | [_, _, _, _, _, _], _ => rfl
  have F45 := fun_mk (st := s__first_inside) l45 c45 k45
  have b45 := F45.binds (ps := ["table", "shot", "box"]) fun _ _ _ _ _ _ us hl => match us, hl with | [_, _, _], _ => rfl
  have F46 := fun_mk (st := s_is_spot) l46 c46 k46
  have b46 := F46.binds (ps := ["table", "value"]) fun _ _ _ _ _ _ us hl => match us, hl with | [_, _], _ => rfl
  have F47 := fun_mk (st := s_first_at) l47 c47 k47
  have b47 := F47.binds (ps := ["table", "shot", "spot"]) fun _ _ _ _ _ _ us hl => match us, hl with | [_, _, _], _ => rfl
  have F48 := fun_mk (st := s__is_box) l48 c48 k48
  have b48 := F48.binds (ps := ["table", "value"]) fun _ _ _ _ _ _ us hl => match us, hl with | [_, _], _ => rfl
  have F49 := fun_mk (st := s_first_in_box) l49 c49 k49
  have b49 := F49.binds (ps := ["table", "shot", "box"]) fun _ _ _ _ _ _ us hl => match us, hl with | [_, _, _], _ => rfl
  have F50 := fun_mk (st := s__stretch_time) l50 c50 k50
  have b50 := F50.binds (ps := ["lines", "stretch"]) fun _ _ _ _ _ _ us hl => match us, hl with | [_, _], _ => rfl
  have F51 := fun_mk (st := s_is_stretch) l51 c51 k51
  have b51 := F51.binds (ps := ["table", "value"]) fun _ _ _ _ _ _ us hl => match us, hl with | [_, _], _ => rfl
  have F52 := fun_mk (st := s_first_in_stretch) l52 c52 k52
  have b52 := F52.binds (ps := ["table", "shot", "stretch"]) fun _ _ _ _ _ _ us hl => match us, hl with | [_, _, _], _ => rfl
  have F53 := fun_mk (st := s_corner_hit) l53 c53 k53
  have b53 := F53.binds (ps := ["table", "shot"]) fun _ _ _ _ _ _ us hl => match us, hl with | [_, _], _ => rfl
  have F54 := fun_mk (st := s__law_well) l54 c54 k54
  have b54 := F54.binds (ps := ["script", "at"]) fun _ _ _ _ _ _ us hl => match us, hl with | [_, _], _ => rfl
  have F55 := fun_mk (st := s__law_draw) l55 c55 k55
  have b55 := F55.binds (ps := ["well", "most"]) fun _ _ _ _ _ _ us hl => match us, hl with | [_, _], _ => rfl
  have F56 := fun_mk (st := s__law_desk) l56 c56 k56
  have b56 := F56.binds (ps := ["well", "most"]) fun _ _ _ _ _ _ us hl => match us, hl with | [_, _], _ => rfl
  have F57 := fun_mk (st := s__law_roll) l57 c57 k57
  have b57 := F57.binds (ps := ["well", "desk", "most"]) fun _ _ _ _ _ _ us hl => match us, hl with | [_, _, _], _ => rfl
  have F58 := fun_mk (st := s__law_low) l58 c58 k58
  have b58 := F58.binds (ps := ["top", "bottom"]) fun _ _ _ _ _ _ us hl => match us, hl with | [_, _], _ => rfl
  have F59 := fun_mk (st := s__law_edges) l59 c59 k59
  have b59 := F59.binds (ps := ["well", "desk"]) fun _ _ _ _ _ _ us hl => match us, hl with | [_, _], _ => rfl
  have F60 := fun_mk (st := s__law_within) l60 c60 k60
  have b60 := F60.binds (ps := ["place", "room"]) fun _ _ _ _ _ _ us hl => match us, hl with | [_, _], _ => rfl
  have F61 := fun_mk (st := s__law_less) l61 c61 k61
  have b61 := F61.binds (ps := ["one", "two"]) fun _ _ _ _ _ _ us hl => match us, hl with | [_, _], _ => rfl
  have F62 := fun_mk (st := s_Ball_contains) l62 c62 k62
  have b62 := F62.binds (ps := ["self", "x"]) fun _ _ _ _ _ _ us hl => match us, hl with | [_, _], _ => rfl
  have F63 := fun_mk (st := s_Ball_init) l63 c63 k63
  have b63 := F63.binds (ps := ["self", "table", "shot"]) fun _ _ _ _ _ _ us hl => match us, hl with | [_, _, _], _ => rfl
  have F64 := fun_mk (st := s__law_spot_right) l64 c64 k64
  have b64 := F64.binds (ps := ["well", "desk", "put"]) fun _ _ _ _ _ _ us hl => match us, hl with | [_, _, _], _ => rfl
  have F65 := fun_mk (st := s__law_box_right) l65 c65 k65
  have b65 := F65.binds (ps := ["well", "desk", "put"]) fun _ _ _ _ _ _ us hl => match us, hl with | [_, _, _], _ => rfl
  have F66 := fun_mk (st := s__law_strips_right) l66 c66 k66
  have b66 := F66.binds (ps := ["well", "desk", "put"]) fun _ _ _ _ _ _ us hl => match us, hl with | [_, _, _], _ => rfl
  have F67 := fun_mk (st := s_law) l67 c67 k67
  refine ⟨PySem.W.fnOf "law" "law" (defArgs s_law) (defBody s_law) (defScope s_law) .none kV67 dc67 pm67 an67 cd67 ct67, fun s v => .of_eq rfl, fun base _ _ => ?_⟩
  have o_is_whole := ok_is_whole F1 g (P := l.prog) (w := w) (base := base)
  have c_is_whole : CalP l.prog w K mg base CN 1 "is_whole" D_is_whole := ⟨_, _, _, o_is_whole, PySem.W.mg_of X G0 a1, k1, b1⟩
  have o_are_whole := ok_are_whole F2 g c_is_whole (P := l.prog) (w := w) (base := base)
  have c_are_whole : CalP l.prog w K mg base CN 2 "are_whole" D_are_whole := ⟨_, _, _, o_are_whole, PySem.W.mg_of X G0 a2, k2, b2⟩
  have o_fraction_of := ok_fraction_of F3 g (P := l.prog) (w := w) (base := base)
  have c_fraction_of : CalP l.prog w K mg base CN 1 "fraction_of" D_fraction_of := ⟨_, _, _, o_fraction_of, PySem.W.mg_of X G0 a3, k3, b3⟩
  have o_earliest := ok_earliest F4 g (P := l.prog) (w := w) (base := base)
  have c_earliest : CalP l.prog w K mg base CN 1 "earliest" D_earliest := ⟨_, _, _, o_earliest, PySem.W.mg_of X G0 a4, k4, b4⟩
  have o__line_of := ok__line_of F5 g (P := l.prog) (w := w) (base := base)
  have c__line_of : CalP l.prog w K mg base CN 1 "_line_of" D__line_of := ⟨_, _, _, o__line_of, PySem.W.mg_of X G0 a5, k5, b5⟩
  have o_lines_of := ok_lines_of F6 g c__line_of (P := l.prog) (w := w) (base := base)
  have c_lines_of : CalP l.prog w K mg base CN 2 "lines_of" D_lines_of := ⟨_, _, _, o_lines_of, PySem.W.mg_of X G0 a6, k6, b6⟩
  have o_mark_from := ok_mark_from F7 g (P := l.prog) (w := w) (base := base)
  have c_mark_from : CalP l.prog w K mg base CN 1 "mark_from" D_mark_from := ⟨_, _, _, o_mark_from, PySem.W.mg_of X G0 a7, k7, b7⟩
  have o_mark_time := ok_mark_time F8 g c_fraction_of (P := l.prog) (w := w) (base := base)
  have c_mark_time : CalP l.prog w K mg base CN 2 "mark_time" D_mark_time := ⟨_, _, _, o_mark_time, PySem.W.mg_of X G0 a8, k8, b8⟩
  have o_marks_passed := ok_marks_passed F9 g (P := l.prog) (w := w) (base := base)
  have c_marks_passed : CalP l.prog w K mg base CN 1 "marks_passed" D_marks_passed := ⟨_, _, _, o_marks_passed, PySem.W.mg_of X G0 a9, k9, b9⟩
  have o_other_at_marks := ok_other_at_marks F10 g (P := l.prog) (w := w) (base := base)
  have c_other_at_marks : CalP l.prog w K mg base CN 1 "other_at_marks" D_other_at_marks := ⟨_, _, _, o_other_at_marks, PySem.W.mg_of X G0 a10, k10, b10⟩
  have o_spans := ok_spans F11 g (P := l.prog) (w := w) (base := base)
  have c_spans : CalP l.prog w K mg base CN 1 "spans" D_spans := ⟨_, _, _, o_spans, PySem.W.mg_of X G0 a11, k11, b11⟩
  have o__first_out := ok__first_out F12 g (P := l.prog) (w := w) (base := base)
  have c__first_out : CalP l.prog w K mg base CN 1 "_first_out" D__first_out := ⟨_, _, _, o__first_out, PySem.W.mg_of X G0 a12, k12, b12⟩
  have o_first_between := ok_first_between F13 g c__first_out (P := l.prog) (w := w) (base := base)
  have c_first_between : CalP l.prog w K mg base CN 2 "first_between" D_first_between := ⟨_, _, _, o_first_between, PySem.W.mg_of X G0 a13, k13, b13⟩
  have o_first_within := ok_first_within F14 g c_first_between (P := l.prog) (w := w) (base := base)
  have c_first_within : CalP l.prog w K mg base CN 3 "first_within" D_first_within := ⟨_, _, _, o_first_within, PySem.W.mg_of X G0 a14, k14, b14⟩
  have o_is_table := ok_is_table F15 g c_are_whole (P := l.prog) (w := w) (base := base)
  have c_is_table : CalP l.prog w K mg base CN 3 "is_table" D_is_table := ⟨_, _, _, o_is_table, PySem.W.mg_of X G0 a15, k15, b15⟩
  have o_check_table := ok_check_table F16 g c_is_table (P := l.prog) (w := w) (base := base)
  have c_check_table : CalP l.prog w K mg base CN 4 "check_table" D_check_table := ⟨_, _, _, o_check_table, PySem.W.mg_of X G0 a16, k16, b16⟩
  have o_is_any_shot := ok_is_any_shot F17 g c_are_whole (P := l.prog) (w := w) (base := base)
  have c_is_any_shot : CalP l.prog w K mg base CN 3 "is_any_shot" D_is_any_shot := ⟨_, _, _, o_is_any_shot, PySem.W.mg_of X G0 a17, k17, b17⟩
  have o_is_shot := ok_is_shot F18 g c_check_table c_is_any_shot (P := l.prog) (w := w) (base := base)
  have c_is_shot : CalP l.prog w K mg base CN 5 "is_shot" D_is_shot := ⟨_, _, _, o_is_shot, PySem.W.mg_of X G0 a18, k18, b18⟩
  have o_is_fraction := ok_is_fraction F19 g c_are_whole (P := l.prog) (w := w) (base := base)
  have c_is_fraction : CalP l.prog w K mg base CN 3 "is_fraction" D_is_fraction := ⟨_, _, _, o_is_fraction, PySem.W.mg_of X G0 a19, k19, b19⟩
  have o_check_shot := ok_check_shot F20 g c_is_shot (P := l.prog) (w := w) (base := base)
  have c_check_shot : CalP l.prog w K mg base CN 6 "check_shot" D_check_shot := ⟨_, _, _, o_check_shot, PySem.W.mg_of X G0 a20, k20, b20⟩
  have o_check_time := ok_check_time F21 g c_is_fraction (P := l.prog) (w := w) (base := base)
  have c_check_time : CalP l.prog w K mg base CN 4 "check_time" D_check_time := ⟨_, _, _, o_check_time, PySem.W.mg_of X G0 a21, k21, b21⟩
  have o__check_all := ok__check_all F22 g c_check_shot c_check_time (P := l.prog) (w := w) (base := base)
  have c__check_all : CalP l.prog w K mg base CN 7 "_check_all" D__check_all := ⟨_, _, _, o__check_all, PySem.W.mg_of X G0 a22, k22, b22⟩
  have o__fold := ok__fold F23 g (P := l.prog) (w := w) (base := base)
  have c__fold : CalP l.prog w K mg base CN 1 "_fold" D__fold := ⟨_, _, _, o__fold, PySem.W.mg_of X G0 a23, k23, b23⟩
  have o__place := ok__place F24 g c__fold c_fraction_of c_lines_of (P := l.prog) (w := w) (base := base)
  have c__place : CalP l.prog w K mg base CN 3 "_place" D__place := ⟨_, _, _, o__place, PySem.W.mg_of X G0 a24, k24, b24⟩
  have o_place_at := ok_place_at F25 g c__check_all c__place (P := l.prog) (w := w) (base := base)
  have c_place_at : CalP l.prog w K mg base CN 8 "place_at" D_place_at := ⟨_, _, _, o_place_at, PySem.W.mg_of X G0 a25, k25, b25⟩
  have o__line_way := ok__line_way F26 g (P := l.prog) (w := w) (base := base)
  have c__line_way : CalP l.prog w K mg base CN 1 "_line_way" D__line_way := ⟨_, _, _, o__line_way, PySem.W.mg_of X G0 a26, k26, b26⟩
  have o__way := ok__way F27 g c__line_way c_lines_of (P := l.prog) (w := w) (base := base)
  have c__way : CalP l.prog w K mg base CN 3 "_way" D__way := ⟨_, _, _, o__way, PySem.W.mg_of X G0 a27, k27, b27⟩
  have o_shot_at := ok_shot_at F28 g c__check_all c__place c__way (P := l.prog) (w := w) (base := base)
  have c_shot_at : CalP l.prog w K mg base CN 8 "shot_at" D_shot_at := ⟨_, _, _, o_shot_at, PySem.W.mg_of X G0 a28, k28, b28⟩
  have o_turned := ok_turned F29 g c_is_any_shot (P := l.prog) (w := w) (base := base)
  have c_turned : CalP l.prog w K mg base CN 4 "turned" D_turned := ⟨_, _, _, o_turned, PySem.W.mg_of X G0 a29, k29, b29⟩
  have o_scaled := ok_scaled F30 g c_check_shot c_is_whole (P := l.prog) (w := w) (base := base)
  have c_scaled : CalP l.prog w K mg base CN 7 "scaled" D_scaled := ⟨_, _, _, o_scaled, PySem.W.mg_of X G0 a30, k30, b30⟩
  have o_crossed := ok_crossed F31 g c_check_shot (P := l.prog) (w := w) (base := base)
  have c_crossed : CalP l.prog w K mg base CN 7 "crossed" D_crossed := ⟨_, _, _, o_crossed, PySem.W.mg_of X G0 a31, k31, b31⟩
  have o__count := ok__count F32 g c_marks_passed (P := l.prog) (w := w) (base := base)
  have c__count : CalP l.prog w K mg base CN 2 "_count" D__count := ⟨_, _, _, o__count, PySem.W.mg_of X G0 a32, k32, b32⟩
  have o_side_marks := ok_side_marks F33 g c_mark_from (P := l.prog) (w := w) (base := base)
  have c_side_marks : CalP l.prog w K mg base CN 2 "side_marks" D_side_marks := ⟨_, _, _, o_side_marks, PySem.W.mg_of X G0 a33, k33, b33⟩
  have o_corner_marks := ok_corner_marks F34 g c_first_within c_other_at_marks c_side_marks (P := l.prog) (w := w) (base := base)
  have c_corner_marks : CalP l.prog w K mg base CN 4 "corner_marks" D_corner_marks := ⟨_, _, _, o_corner_marks, PySem.W.mg_of X G0 a34, k34, b34⟩
  have o__hit_marks := ok__hit_marks F35 g c_corner_marks c_side_marks (P := l.prog) (w := w) (base := base)
  have c__hit_marks : CalP l.prog w K mg base CN 5 "_hit_marks" D__hit_marks := ⟨_, _, _, o__hit_marks, PySem.W.mg_of X G0 a35, k35, b35⟩
  have o_count_hits := ok_count_hits F36 g c__count c__hit_marks c_check_shot c_check_time c_lines_of (P := l.prog) (w := w) (base := base)
  have c_count_hits : CalP l.prog w K mg base CN 7 "count_hits" D_count_hits := ⟨_, _, _, o_count_hits, PySem.W.mg_of X G0 a36, k36, b36⟩
  have o__time_of_count := ok__time_of_count F37 g c__count c_mark_time c_side_marks (P := l.prog) (w := w) (base := base)
  have c__time_of_count : CalP l.prog w K mg base CN 3 "_time_of_count" D__time_of_count := ⟨_, _, _, o__time_of_count, PySem.W.mg_of X G0 a37, k37, b37⟩
  have o__word := ok__word F38 g (P := l.prog) (w := w) (base := base)
  have c__word : CalP l.prog w K mg base CN 1 "_word" D__word := ⟨_, _, _, o__word, PySem.W.mg_of X G0 a38, k38, b38⟩
  have o_nth_hit := ok_nth_hit F39 g c__hit_marks c__time_of_count c__word c_check_shot c_earliest c_is_whole c_lines_of c_place_at (P := l.prog) (w := w) (base := base)
  have c_nth_hit : CalP l.prog w K mg base CN 9 "nth_hit" D_nth_hit := ⟨_, _, _, o_nth_hit, PySem.W.mg_of X G0 a39, k39, b39⟩
  have o_is_cushion := ok_is_cushion F40 g (P := l.prog) (w := w) (base := base)
  have c_is_cushion : CalP l.prog w K mg base CN 1 "is_cushion" D_is_cushion := ⟨_, _, _, o_is_cushion, PySem.W.mg_of X G0 a40, k40, b40⟩
  have o_cushion_marks := ok_cushion_marks F41 g c_mark_from (P := l.prog) (w := w) (base := base)
  have c_cushion_marks : CalP l.prog w K mg base CN 2 "cushion_marks" D_cushion_marks := ⟨_, _, _, o_cushion_marks, PySem.W.mg_of X G0 a41, k41, b41⟩
  have o__question := ok__question F42 g c_other_at_marks c_spans (P := l.prog) (w := w) (base := base)
  have c__question : CalP l.prog w K mg base CN 2 "_question" D__question := ⟨_, _, _, o__question, PySem.W.mg_of X G0 a42, k42, b42⟩
  have o__first_time := ok__first_time F43 g c__question c_first_within c_mark_time (P := l.prog) (w := w) (base := base)
  have c__first_time : CalP l.prog w K mg base CN 4 "_first_time" D__first_time := ⟨_, _, _, o__first_time, PySem.W.mg_of X G0 a43, k43, b43⟩
  have o__entry_times := ok__entry_times F44 g c__first_time c_mark_from c_spans (P := l.prog) (w := w) (base := base)
  have c__entry_times : CalP l.prog w K mg base CN 5 "_entry_times" D__entry_times := ⟨_, _, _, o__entry_times, PySem.W.mg_of X G0 a44, k44, b44⟩
  have o__first_inside := ok__first_inside F45 g c__entry_times c_earliest c_lines_of (P := l.prog) (w := w) (base := base)
  have c__first_inside : CalP l.prog w K mg base CN 6 "_first_inside" D__first_inside := ⟨_, _, _, o__first_inside, PySem.W.mg_of X G0 a45, k45, b45⟩
  have o_is_spot := ok_is_spot F46 g c_are_whole (P := l.prog) (w := w) (base := base)
  have c_is_spot : CalP l.prog w K mg base CN 3 "is_spot" D_is_spot := ⟨_, _, _, o_is_spot, PySem.W.mg_of X G0 a46, k46, b46⟩
  have o_first_at := ok_first_at F47 g c__first_inside c_check_shot c_is_spot (P := l.prog) (w := w) (base := base)
  have c_first_at : CalP l.prog w K mg base CN 7 "first_at" D_first_at := ⟨_, _, _, o_first_at, PySem.W.mg_of X G0 a47, k47, b47⟩
  have o__is_box := ok__is_box F48 g c_are_whole (P := l.prog) (w := w) (base := base)
  have c__is_box : CalP l.prog w K mg base CN 3 "_is_box" D__is_box := ⟨_, _, _, o__is_box, PySem.W.mg_of X G0 a48, k48, b48⟩
  have o_first_in_box := ok_first_in_box F49 g c__first_inside c__is_box c_check_shot (P := l.prog) (w := w) (base := base)
  have c_first_in_box : CalP l.prog w K mg base CN 7 "first_in_box" D_first_in_box := ⟨_, _, _, o_first_in_box, PySem.W.mg_of X G0 a49, k49, b49⟩
  have o__stretch_time := ok__stretch_time F50 g c__first_time c_cushion_marks (P := l.prog) (w := w) (base := base)
  have c__stretch_time : CalP l.prog w K mg base CN 5 "_stretch_time" D__stretch_time := ⟨_, _, _, o__stretch_time, PySem.W.mg_of X G0 a50, k50, b50⟩
  have o_is_stretch := ok_is_stretch F51 g c_is_cushion c_is_whole (P := l.prog) (w := w) (base := base)
  have c_is_stretch : CalP l.prog w K mg base CN 2 "is_stretch" D_is_stretch := ⟨_, _, _, o_is_stretch, PySem.W.mg_of X G0 a51, k51, b51⟩
  have o_first_in_stretch := ok_first_in_stretch F52 g c__stretch_time c_check_shot c_count_hits c_is_stretch c_lines_of (P := l.prog) (w := w) (base := base)
  have c_first_in_stretch : CalP l.prog w K mg base CN 8 "first_in_stretch" D_first_in_stretch := ⟨_, _, _, o_first_in_stretch, PySem.W.mg_of X G0 a52, k52, b52⟩
  have o_corner_hit := ok_corner_hit F53 g c_check_shot c_corner_marks c_count_hits c_lines_of c_mark_time (P := l.prog) (w := w) (base := base)
  have c_corner_hit : CalP l.prog w K mg base CN 8 "corner_hit" D_corner_hit := ⟨_, _, _, o_corner_hit, PySem.W.mg_of X G0 a53, k53, b53⟩
  have o__law_well := ok_well F54 g.b_int g.b_len g.b_max g.b_abs (P := l.prog) (w := w) (mg := mg) (base := base)
  have c__law_well : CalL l.prog w K mg base 1 "_law_well" := ⟨_, _, _, o__law_well, PySem.W.mg_of X G0 a54, k54, b54⟩
  have o__law_draw := ok_draw F55 g.b_int (P := l.prog) (w := w) (mg := mg) (base := base)
  have c__law_draw : CalW l.prog w K mg base 1 "_law_draw" dDraw := ⟨_, _, _, o__law_draw, PySem.W.mg_of X G0 a55, k55, b55⟩
  have o__law_desk := ok__law_desk F56 g c__law_draw (P := l.prog) (w := w) (base := base)
  have c__law_desk : CalW l.prog w K mg base 2 "_law_desk" D__law_desk := ⟨_, _, _, o__law_desk, PySem.W.mg_of X G0 a56, k56, b56⟩
  have o__law_roll := ok__law_roll F57 g c__law_draw (P := l.prog) (w := w) (base := base)
  have c__law_roll : CalW l.prog w K mg base 2 "_law_roll" D__law_roll := ⟨_, _, _, o__law_roll, PySem.W.mg_of X G0 a57, k57, b57⟩
  have o__law_low := ok__law_low F58 g (P := l.prog) (w := w) (base := base)
  have c__law_low : CalP l.prog w K mg base CN 1 "_law_low" D__law_low := ⟨_, _, _, o__law_low, PySem.W.mg_of X G0 a58, k58, b58⟩
  have o__law_edges := ok__law_edges F59 g c__law_draw (P := l.prog) (w := w) (base := base)
  have c__law_edges : CalW l.prog w K mg base 2 "_law_edges" D__law_edges := ⟨_, _, _, o__law_edges, PySem.W.mg_of X G0 a59, k59, b59⟩
  have o__law_within := ok__law_within F60 g (P := l.prog) (w := w) (base := base)
  have c__law_within : CalP l.prog w K mg base CN 1 "_law_within" D__law_within := ⟨_, _, _, o__law_within, PySem.W.mg_of X G0 a60, k60, b60⟩
  have o__law_less := ok__law_less F61 g (P := l.prog) (w := w) (base := base)
  have c__law_less : CalP l.prog w K mg base CN 1 "_law_less" D__law_less := ⟨_, _, _, o__law_less, PySem.W.mg_of X G0 a61, k61, b61⟩
  have o_Ball_contains := ok_Ball_contains F62 g c_first_at c_is_spot (P := l.prog) (w := w) (base := base)
  have c_Ball_contains : CalM l.prog w K mg base CN 8 "Ball" "__contains__" D_Ball_contains := ⟨_, _, _, _, o_Ball_contains, oc_Ball, a62, n62, b62⟩
  have o_Ball_init := ok_Ball_init F63 g c_check_shot (P := l.prog) (w := w) (base := base)
  have c_Ball_init : CalI l.prog w K mg base CN 7 "Ball" D_Ball_init := ⟨_, _, _, _, o_Ball_init, PySem.W.mg_of X G0 o1_Ball, oc_Ball, ⟨o9_Ball, a63, n63, oa_Ball⟩, b63⟩
  have o__law_spot_right := ok__law_spot_right F64 g c_Ball_contains c_Ball_init c__law_draw c__law_less c_first_at c_first_in_box c_place_at c_shot_at c_turned (P := l.prog) (w := w) (base := base)
  have c__law_spot_right : CalW l.prog w K mg base 9 "_law_spot_right" D__law_spot_right := ⟨_, _, _, o__law_spot_right, PySem.W.mg_of X G0 a64, k64, b64⟩
  have o__law_box_right := ok__law_box_right F65 g c__law_draw c__law_edges c__law_less c__law_low c__law_within c_crossed c_first_in_box c_place_at c_scaled c_shot_at (P := l.prog) (w := w) (base := base)
  have c__law_box_right : CalW l.prog w K mg base 9 "_law_box_right" D__law_box_right := ⟨_, _, _, o__law_box_right, PySem.W.mg_of X G0 a65, k65, b65⟩
  have o__law_strips_right := ok__law_strips_right F66 g c__law_draw c__law_less c__law_within c_corner_hit c_first_at c_first_in_box c_first_in_stretch c_nth_hit (P := l.prog) (w := w) (base := base)
  have c__law_strips_right : CalW l.prog w K mg base 10 "_law_strips_right" D__law_strips_right := ⟨_, _, _, o__law_strips_right, PySem.W.mg_of X G0 a66, k66, b66⟩
  exact ok_law F67 g c__law_box_right c__law_desk c__law_roll c__law_spot_right c__law_strips_right c__law_well
end LW
open PySem PySem.W PyProof.Rows
set_option maxHeartbeats 0 in
theorem PySem.Challenge.cw_cushionshots_k69_whole_spots_boxes_and_h_holds : PySem.Challenge.rw_cushionshots_k69_whole_spots_boxes_and_h.Holds := by
  w_on; o_law; k_head; (case hw => w_witness2)
  k_fill
  refine DL.end_law (l := PySem.Challenge.rw_cushionshots_k69_whole_spots_boxes_and_h) (k := 11) (x := "script") rfl rfl ⟨⟨rfl, by decide, by decide⟩, rfl⟩ (fun w h Y => PySem.W.kIn_of Y) ?F
  case F =>
    intro w mg fa h KX G hmg
    refine' LW.all_mk KX G hmg ?o1_Ball ?o2_Ball ?o3_Ball ?o4_Ball ?o5_Ball ?o6_Ball ?o7_Ball ?o9_Ball ?oa_Ball ?ob_Ball ?o8kInt_Ball ?o8kBool_Ball ?o8kStr_Ball ?o8kTup_Ball ?o8kLst_Ball ?o8kDict_Ball ?oc_Ball__shot ?oc_Ball__table ?hn_ ?ht_ ?a1 ?l1 ?c1 ?k1 ?a2 ?l2 ?c2 ?k2 ?a3 ?l3 ?c3 ?k3 ?a4 ?l4 ?c4 ?k4 ?a5 ?l5 ?c5 ?k5 ?a6 ?l6 ?c6 ?k6 ?a7 ?l7 ?c7 ?k7 ?a8 ?l8 ?c8 ?k8 ?a9 ?l9 ?c9 ?k9 ?a10 ?l10 ?c10 ?k10 ?a11 ?l11 ?c11 ?k11 ?a12 ?l12 ?c12 ?k12 ?a13 ?l13 ?c13 ?k13 ?a14 ?l14 ?c14 ?k14 ?a15 ?l15 ?c15 ?k15 ?a16 ?l16 ?c16 ?k16 ?a17 ?l17 ?c17 ?k17 ?a18 ?l18 ?c18 ?k18 ?a19 ?l19 ?c19 ?k19 ?a20 ?l20 ?c20 ?k20 ?a21 ?l21 ?c21 ?k21 ?a22 ?l22 ?c22 ?k22 ?a23 ?l23 ?c23 ?k23 ?a24 ?l24 ?c24 ?k24 ?a25 ?l25 ?c25 ?k25 ?a26 ?l26 ?c26 ?k26 ?a27 ?l27 ?c27 ?k27 ?a28 ?l28 ?c28 ?k28 ?a29 ?l29 ?c29 ?k29 ?a30 ?l30 ?c30 ?k30 ?a31 ?l31 ?c31 ?k31 ?a32 ?l32 ?c32 ?k32 ?a33 ?l33 ?c33 ?k33 ?a34 ?l34 ?c34 ?k34 ?a35 ?l35 ?c35 ?k35 ?a36 ?l36 ?c36 ?k36 ?a37 ?l37 ?c37 ?k37 ?a38 ?l38 ?c38 ?k38 ?a39 ?l39 ?c39 ?k39 ?a40 ?l40 ?c40 ?k40 ?a41 ?l41 ?c41 ?k41 ?a42 ?l42 ?c42 ?k42 ?a43 ?l43 ?c43 ?k43 ?a44 ?l44 ?c44 ?k44 ?a45 ?l45 ?c45 ?k45 ?a46 ?l46 ?c46 ?k46 ?a47 ?l47 ?c47 ?k47 ?a48 ?l48 ?c48 ?k48 ?a49 ?l49 ?c49 ?k49 ?a50 ?l50 ?c50 ?k50 ?a51 ?l51 ?c51 ?k51 ?a52 ?l52 ?c52 ?k52 ?a53 ?l53 ?c53 ?k53 ?a54 ?l54 ?c54 ?k54 ?a55 ?l55 ?c55 ?k55 ?a56 ?l56 ?c56 ?k56 ?a57 ?l57 ?c57 ?k57 ?a58 ?l58 ?c58 ?k58 ?a59 ?l59 ?c59 ?k59 ?a60 ?l60 ?c60 ?k60 ?a61 ?l61 ?c61 ?k61 ?a62 ?n62 ?l62 ?c62 ?k62 ?a63 ?n63 ?l63 ?c63 ?k63 ?a64 ?l64 ?c64 ?k64 ?a65 ?l65 ?c65 ?k65 ?a66 ?l66 ?c66 ?k66 ?a67 ?l67 ?c67 ?k67 ?z_abs ?z_all ?z_bool ?z_enumerate ?z_gcd ?z_int ?z_isinstance ?z_len ?z_max ?z_min ?z_range ?z_reversed ?z_str ?z_sum ?z_tuple ?g1_CUSHIONS ?g2_CUSHIONS_0 ?x1_InvalidBox ?x2_InvalidBox ?x3_InvalidBox ?x4_InvalidBox ?x5_InvalidBox ?x1_InvalidIndex ?x2_InvalidIndex ?x3_InvalidIndex ?x4_InvalidIndex ?x5_InvalidIndex ?x1_InvalidNumber ?x2_InvalidNumber ?x3_InvalidNumber ?x4_InvalidNumber ?x5_InvalidNumber ?x1_InvalidShot ?x2_InvalidShot ?x3_InvalidShot ?x4_InvalidShot ?x5_InvalidShot ?x1_InvalidSpot ?x2_InvalidSpot ?x3_InvalidSpot ?x4_InvalidSpot ?x5_InvalidSpot ?x1_InvalidStretch ?x2_InvalidStretch ?x3_InvalidStretch ?x4_InvalidStretch ?x5_InvalidStretch ?x1_InvalidTable ?x2_InvalidTable ?x3_InvalidTable ?x4_InvalidTable ?x5_InvalidTable ?x1_InvalidTime ?x2_InvalidTime ?x3_InvalidTime ?x4_InvalidTime ?x5_InvalidTime
    (case o1_Ball => k_is)
    (case o2_Ball => k_is)
    (case o3_Ball => k_is)
    (case o4_Ball => k_is)
    (case o5_Ball => k_is)
    (case o6_Ball => k_is)
    (case o7_Ball => k_is)
    (case o9_Ball => k_is)
    (case oa_Ball => k_is)
    (case ob_Ball => k_is)
    (case o8kInt_Ball => kit_is)
    (case o8kBool_Ball => kit_is)
    (case o8kStr_Ball => kit_is)
    (case o8kTup_Ball => kit_is)
    (case o8kLst_Ball => kit_is)
    (case o8kDict_Ball => kit_is)
    (case oc_Ball__shot => k_is)
    (case oc_Ball__table => k_is)
    (case hn_ => k_is)
    (case ht_ => k_is)
    (case a1 => k_is)
    (case l1 => k_is)
    (case c1 => k_is)
    (case k1 => k_is)
    (case a2 => k_is)
    (case l2 => k_is)
    (case c2 => k_is)
    (case k2 => k_is)
    (case a3 => k_is)
    (case l3 => k_is)
    (case c3 => k_is)
    (case k3 => k_is)
    (case a4 => k_is)
    (case l4 => k_is)
    (case c4 => k_is)
    (case k4 => k_is)
    (case a5 => k_is)
    (case l5 => k_is)
    (case c5 => k_is)
    (case k5 => k_is)
    (case a6 => k_is)
    (case l6 => k_is)
    (case c6 => k_is)
    (case k6 => k_is)
    (case a7 => k_is)
    (case l7 => k_is)
    (case c7 => k_is)
    (case k7 => k_is)
    (case a8 => k_is)
    (case l8 => k_is)
    (case c8 => k_is)
    (case k8 => k_is)
    (case a9 => k_is)
    (case l9 => k_is)
    (case c9 => k_is)
    (case k9 => k_is)
    (case a10 => k_is)
    (case l10 => k_is)
    (case c10 => k_is)
    (case k10 => k_is)
    (case a11 => k_is)
    (case l11 => k_is)
    (case c11 => k_is)
    (case k11 => k_is)
    (case a12 => k_is)
    (case l12 => k_is)
    (case c12 => k_is)
    (case k12 => k_is)
    (case a13 => k_is)
    (case l13 => k_is)
    (case c13 => k_is)
    (case k13 => k_is)
    (case a14 => k_is)
    (case l14 => k_is)
    (case c14 => k_is)
    (case k14 => k_is)
    (case a15 => k_is)
    (case l15 => k_is)
    (case c15 => k_is)
    (case k15 => k_is)
    (case a16 => k_is)
    (case l16 => k_is)
    (case c16 => k_is)
    (case k16 => k_is)
    (case a17 => k_is)
    (case l17 => k_is)
    (case c17 => k_is)
    (case k17 => k_is)
    (case a18 => k_is)
    (case l18 => k_is)
    (case c18 => k_is)
    (case k18 => k_is)
    (case a19 => k_is)
    (case l19 => k_is)
    (case c19 => k_is)
    (case k19 => k_is)
    (case a20 => k_is)
    (case l20 => k_is)
    (case c20 => k_is)
    (case k20 => k_is)
    (case a21 => k_is)
    (case l21 => k_is)
    (case c21 => k_is)
    (case k21 => k_is)
    (case a22 => k_is)
    (case l22 => k_is)
    (case c22 => k_is)
    (case k22 => k_is)
    (case a23 => k_is)
    (case l23 => k_is)
    (case c23 => k_is)
    (case k23 => k_is)
    (case a24 => k_is)
    (case l24 => k_is)
    (case c24 => k_is)
    (case k24 => k_is)
    (case a25 => k_is)
    (case l25 => k_is)
    (case c25 => k_is)
    (case k25 => k_is)
    (case a26 => k_is)
    (case l26 => k_is)
    (case c26 => k_is)
    (case k26 => k_is)
    (case a27 => k_is)
    (case l27 => k_is)
    (case c27 => k_is)
    (case k27 => k_is)
    (case a28 => k_is)
    (case l28 => k_is)
    (case c28 => k_is)
    (case k28 => k_is)
    (case a29 => k_is)
    (case l29 => k_is)
    (case c29 => k_is)
    (case k29 => k_is)
    (case a30 => k_is)
    (case l30 => k_is)
    (case c30 => k_is)
    (case k30 => k_is)
    (case a31 => k_is)
    (case l31 => k_is)
    (case c31 => k_is)
    (case k31 => k_is)
    (case a32 => k_is)
    (case l32 => k_is)
    (case c32 => k_is)
    (case k32 => k_is)
    (case a33 => k_is)
    (case l33 => k_is)
    (case c33 => k_is)
    (case k33 => k_is)
    (case a34 => k_is)
    (case l34 => k_is)
    (case c34 => k_is)
    (case k34 => k_is)
    (case a35 => k_is)
    (case l35 => k_is)
    (case c35 => k_is)
    (case k35 => k_is)
    (case a36 => k_is)
    (case l36 => k_is)
    (case c36 => k_is)
    (case k36 => k_is)
    (case a37 => k_is)
    (case l37 => k_is)
    (case c37 => k_is)
    (case k37 => k_is)
    (case a38 => k_is)
    (case l38 => k_is)
    (case c38 => k_is)
    (case k38 => k_is)
    (case a39 => k_is)
    (case l39 => k_is)
    (case c39 => k_is)
    (case k39 => k_is)
    (case a40 => k_is)
    (case l40 => k_is)
    (case c40 => k_is)
    (case k40 => k_is)
    (case a41 => k_is)
    (case l41 => k_is)
    (case c41 => k_is)
    (case k41 => k_is)
    (case a42 => k_is)
    (case l42 => k_is)
    (case c42 => k_is)
    (case k42 => k_is)
    (case a43 => k_is)
    (case l43 => k_is)
    (case c43 => k_is)
    (case k43 => k_is)
    (case a44 => k_is)
    (case l44 => k_is)
    (case c44 => k_is)
    (case k44 => k_is)
    (case a45 => k_is)
    (case l45 => k_is)
    (case c45 => k_is)
    (case k45 => k_is)
    (case a46 => k_is)
    (case l46 => k_is)
    (case c46 => k_is)
    (case k46 => k_is)
    (case a47 => k_is)
    (case l47 => k_is)
    (case c47 => k_is)
    (case k47 => k_is)
    (case a48 => k_is)
    (case l48 => k_is)
    (case c48 => k_is)
    (case k48 => k_is)
    (case a49 => k_is)
    (case l49 => k_is)
    (case c49 => k_is)
    (case k49 => k_is)
    (case a50 => k_is)
    (case l50 => k_is)
    (case c50 => k_is)
    (case k50 => k_is)
    (case a51 => k_is)
    (case l51 => k_is)
    (case c51 => k_is)
    (case k51 => k_is)
    (case a52 => k_is)
    (case l52 => k_is)
    (case c52 => k_is)
    (case k52 => k_is)
    (case a53 => k_is)
    (case l53 => k_is)
    (case c53 => k_is)
    (case k53 => k_is)
    (case a54 => k_is)
    (case l54 => k_is)
    (case c54 => k_is)
    (case k54 => k_is)
    (case a55 => k_is)
    (case l55 => k_is)
    (case c55 => k_is)
    (case k55 => k_is)
    (case a56 => k_is)
    (case l56 => k_is)
    (case c56 => k_is)
    (case k56 => k_is)
    (case a57 => k_is)
    (case l57 => k_is)
    (case c57 => k_is)
    (case k57 => k_is)
    (case a58 => k_is)
    (case l58 => k_is)
    (case c58 => k_is)
    (case k58 => k_is)
    (case a59 => k_is)
    (case l59 => k_is)
    (case c59 => k_is)
    (case k59 => k_is)
    (case a60 => k_is)
    (case l60 => k_is)
    (case c60 => k_is)
    (case k60 => k_is)
    (case a61 => k_is)
    (case l61 => k_is)
    (case c61 => k_is)
    (case k61 => k_is)
    (case a62 => k_is)
    (case n62 => k_is)
    (case l62 => k_is)
    (case c62 => k_is)
    (case k62 => k_is)
    (case a63 => k_is)
    (case n63 => k_is)
    (case l63 => k_is)
    (case c63 => k_is)
    (case k63 => k_is)
    (case a64 => k_is)
    (case l64 => k_is)
    (case c64 => k_is)
    (case k64 => k_is)
    (case a65 => k_is)
    (case l65 => k_is)
    (case c65 => k_is)
    (case k65 => k_is)
    (case a66 => k_is)
    (case l66 => k_is)
    (case c66 => k_is)
    (case k66 => k_is)
    (case a67 => k_is)
    (case l67 => k_is)
    (case c67 => k_is)
    (case k67 => k_is)
    (case z_abs => k_is)
    (case z_all => k_is)
    (case z_bool => k_is)
    (case z_enumerate => k_is)
    (case z_gcd => k_is)
    (case z_int => k_is)
    (case z_isinstance => k_is)
    (case z_len => k_is)
    (case z_max => k_is)
    (case z_min => k_is)
    (case z_range => k_is)
    (case z_reversed => k_is)
    (case z_str => k_is)
    (case z_sum => k_is)
    (case z_tuple => k_is)
    (case g1_CUSHIONS => k_is)
    (case g2_CUSHIONS_0 => k_is)
    (case x1_InvalidBox => k_is)
    (case x2_InvalidBox => k_exc)
    (case x3_InvalidBox => k_is)
    (case x4_InvalidBox => k_is)
    (case x5_InvalidBox => k_is)
    (case x1_InvalidIndex => k_is)
    (case x2_InvalidIndex => k_exc)
    (case x3_InvalidIndex => k_is)
    (case x4_InvalidIndex => k_is)
    (case x5_InvalidIndex => k_is)
    (case x1_InvalidNumber => k_is)
    (case x2_InvalidNumber => k_exc)
    (case x3_InvalidNumber => k_is)
    (case x4_InvalidNumber => k_is)
    (case x5_InvalidNumber => k_is)
    (case x1_InvalidShot => k_is)
    (case x2_InvalidShot => k_exc)
    (case x3_InvalidShot => k_is)
    (case x4_InvalidShot => k_is)
    (case x5_InvalidShot => k_is)
    (case x1_InvalidSpot => k_is)
    (case x2_InvalidSpot => k_exc)
    (case x3_InvalidSpot => k_is)
    (case x4_InvalidSpot => k_is)
    (case x5_InvalidSpot => k_is)
    (case x1_InvalidStretch => k_is)
    (case x2_InvalidStretch => k_exc)
    (case x3_InvalidStretch => k_is)
    (case x4_InvalidStretch => k_is)
    (case x5_InvalidStretch => k_is)
    (case x1_InvalidTable => k_is)
    (case x2_InvalidTable => k_exc)
    (case x3_InvalidTable => k_is)
    (case x4_InvalidTable => k_is)
    (case x5_InvalidTable => k_is)
    (case x1_InvalidTime => k_is)
    (case x2_InvalidTime => k_exc)
    (case x3_InvalidTime => k_is)
    (case x4_InvalidTime => k_is)
    (case x5_InvalidTime => k_is)
